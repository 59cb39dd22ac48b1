import PyProof.Rows.All
import HandS.ForMost
import HandS.Exc
import HandS.ExcOwn
import HandS.WordsExc
import HandS.ExcInit
import HandS.IsInst
import HandS.TryOnly
import HandS.TupMul
import HandS.Deep
import HandS.Wide
import HandS.WideBits
import HandS.TupLe
import HandS.TupSets
import HandS.SortInts
import HandS.SetKeys
import HandS.Zip0
import HandS.Conv
import HandS.ExcField
import PyProof.ReprRoads
import HandS.SetFor
import HandS.Strs
import HandS.Nested
import HandS.Zip
import HandS.CallLocal
import HandS.More
import HandS.Head2
import HandS.HeadEnd
import HandS.HeadHook4
import HandS.Ends
import HandS.EndBits
import Lean
import KE.KStateDown
import PySem.PyData
import PyProof.ReprLen
import PySem.Challenge.RW_underthree_k06_whole_three_ways_of_right
set_option Elab.async false
set_option linter.all false
set_option maxRecDepth 100000
namespace Dl
open PySem PySem.Spec PyProof.Rows L2
def oexB (K : PySem.W.Frag) (C : Addr) : Bool := (match K.lookup C with
  | some ⟨.type t, _, .cls cd, sl⟩ => decide (t = "type") && (match cd.mro, sl.toList with
    | .ref c :: bm, [_, _, _, _, some (.builtin n), _] => decide (c = C) && decide (n = "ValueError.__new__") && cd.hasDict && !cd.hasDel && PySem.HandSPX.refsVE bm
    | _, _ => false)
  | _ => false) && He.eqO (PySem.W.findIn K (.ref C) "__setattr__") (some (some (.builtin "object.__setattr__"))) && decide (PySem.W.subIn K (.ref C) (.type "BaseException") = some true) && decide (PySem.W.typeIn K (.ref C) = some (.type "type")) && PySem.W.keepIn K (.ref C)
def exB (K : PySem.W.Frag) (x f g : Str) : Bool := oexB K (He.ga K x) && L2.xfB K (He.ga K x) && He.eqO (PySem.W.findIn K (.ref (He.ga K x)) f) (some none) && He.eqO (PySem.W.findIn K (.ref (He.ga K x)) g) (some none) &&
  He.eqO (PySem.W.findIn K (.ref (He.ga K x)) "__init__") (some (some (.ref (He.ma K (He.ga K x) "__init__")))) && decide (PySem.W.typeIn K (.ref (He.ma K (He.ga K x) "__init__")) = some (.type "function")) && decide (PySem.W.exmOne K (.ref (He.ga K x)) (.ref (He.ga K x)) = some true)
def clsDef (i : Nat) : Stmt → Stmt
  | .ClassDef _ _ _ body _ _ _ _ _ _ _ => body.getD i (.Pass ⟨0, 0, 0, 0⟩)
  | s => s
end Dl
set_option maxHeartbeats 0
namespace K6
open PySem PySem.Spec PyProof.Rows L2 Dl
def top (i : Nat) : Stmt := PySem.Challenge.pw_underthree_k06_whole_three_ways_of_right.main.body.getD i (.Pass ⟨0, 0, 0, 0⟩)
abbrev s_is_integer : Stmt := top 1
abbrev s_is_group : Stmt := top 4
abbrev s__join_sum : Stmt := top 21
abbrev s__join_product : Stmt := top 22
abbrev s__join_most : Stmt := top 23
abbrev s__join_least : Stmt := top 24
abbrev s__join_first : Stmt := top 25
abbrev s__join_last : Stmt := top 26
abbrev s__join_or : Stmt := top 27
abbrev s__join_maps : Stmt := top 28
abbrev s__cell : Stmt := top 30
abbrev s__join_brackets : Stmt := top 31
abbrev s__join_spans : Stmt := top 32
abbrev s__join_counts : Stmt := top 33
abbrev s_joined : Stmt := top 35
abbrev s__idle_maps : Stmt := top 37
abbrev s__idle_grids : Stmt := top 38
abbrev s_suits_asks : Stmt := top 56
abbrev s__law_start : Stmt := top 65
abbrev s__law_draw : Stmt := top 66
abbrev s__law_words : Stmt := top 72
abbrev s__law_suits : Stmt := top 73
abbrev s_is_number : Stmt := top 2
abbrev s_is_positive : Stmt := top 3
abbrev s__law_asks : Stmt := top 68
abbrev s__law_flawed : Stmt := top 69
abbrev s__law_first_wrong : Stmt := top 74
abbrev s__law_idle : Stmt := top 77
abbrev s__law_no_idle : Stmt := top 78
abbrev s__law_bad_plan : Stmt := top 79
abbrev s__law_bad_row : Stmt := top 80
abbrev s_is_stretch : Stmt := top 5
abbrev s_need : Stmt := top 13
abbrev s_is_operation : Stmt := top 20
abbrev s_folded : Stmt := top 40
abbrev s__is_name : Stmt := top 45
abbrev s_values_of_names : Stmt := top 47
abbrev s__law_plan : Stmt := top 70
abbrev s__law_dues : Stmt := top 75
abbrev s_asks_fault : Stmt := top 6
abbrev s_span_feed : Stmt := top 15
abbrev s_count_feed : Stmt := top 16
abbrev s_bit_feed : Stmt := top 17
abbrev s_idle_pair : Stmt := top 36
abbrev s__is_join : Stmt := top 44
abbrev s__law_same : Stmt := top 67
abbrev s__law_scene : Stmt := top 71
abbrev s_is_asks : Stmt := top 7
abbrev s_plan_fault : Stmt := top 43
abbrev s_proof_of : Stmt := top 57
abbrev s_is_plan : Stmt := top 42
abbrev s_first_wrong : Stmt := top 58
abbrev s__need_both : Stmt := top 59
abbrev s__is_right : Stmt := top 60
abbrev s__need_suiting : Stmt := top 63
abbrev s_suits : Stmt := top 50
abbrev s_right_all : Stmt := top 51
abbrev s_right_commuting : Stmt := top 52
abbrev s_right_same : Stmt := top 53
abbrev s_grade_of : Stmt := top 54
abbrev s_right_idle : Stmt := top 55
abbrev s_wrong_at : Stmt := top 62
abbrev s__law_told : Stmt := top 76
abbrev s__law_refused : Stmt := top 81
abbrev s__law_refusals : Stmt := top 82
abbrev s_law : Stmt := top 83
abbrev s_init : Stmt := clsDef 0 (top 11)
def d_init : He.DefD := ⟨("NotUsable", some "__init__"), "__init__", "NotUsable.__init__", defArgs s_init, defBody s_init, defScope s_init, [], []⟩
def d_is_integer : He.DefD := ⟨("is_integer", none), "is_integer", "is_integer", defArgs s_is_integer, defBody s_is_integer, defScope s_is_integer, [], []⟩
def d_is_number : He.DefD := ⟨("is_number", none), "is_number", "is_number", defArgs s_is_number, defBody s_is_number, defScope s_is_number, [], []⟩
def d_is_positive : He.DefD := ⟨("is_positive", none), "is_positive", "is_positive", defArgs s_is_positive, defBody s_is_positive, defScope s_is_positive, [], []⟩
def d_is_group : He.DefD := ⟨("is_group", none), "is_group", "is_group", defArgs s_is_group, defBody s_is_group, defScope s_is_group, [], []⟩
def d_is_stretch : He.DefD := ⟨("is_stretch", none), "is_stretch", "is_stretch", defArgs s_is_stretch, defBody s_is_stretch, defScope s_is_stretch, [], []⟩
def d_asks_fault : He.DefD := ⟨("asks_fault", none), "asks_fault", "asks_fault", defArgs s_asks_fault, defBody s_asks_fault, defScope s_asks_fault, [], []⟩
def d_is_asks : He.DefD := ⟨("is_asks", none), "is_asks", "is_asks", defArgs s_is_asks, defBody s_is_asks, defScope s_is_asks, [], []⟩
def d_need : He.DefD := ⟨("need", none), "need", "need", defArgs s_need, defBody s_need, defScope s_need, [], []⟩
def d_span_feed : He.DefD := ⟨("span_feed", none), "span_feed", "span_feed", defArgs s_span_feed, defBody s_span_feed, defScope s_span_feed, [], []⟩
def d_count_feed : He.DefD := ⟨("count_feed", none), "count_feed", "count_feed", defArgs s_count_feed, defBody s_count_feed, defScope s_count_feed, [], []⟩
def d_bit_feed : He.DefD := ⟨("bit_feed", none), "bit_feed", "bit_feed", defArgs s_bit_feed, defBody s_bit_feed, defScope s_bit_feed, [], []⟩
def d_is_operation : He.DefD := ⟨("is_operation", none), "is_operation", "is_operation", defArgs s_is_operation, defBody s_is_operation, defScope s_is_operation, [], []⟩
def d__join_sum : He.DefD := ⟨("_join_sum", none), "_join_sum", "_join_sum", defArgs s__join_sum, defBody s__join_sum, defScope s__join_sum, [], []⟩
def d__join_product : He.DefD := ⟨("_join_product", none), "_join_product", "_join_product", defArgs s__join_product, defBody s__join_product, defScope s__join_product, [], []⟩
def d__join_most : He.DefD := ⟨("_join_most", none), "_join_most", "_join_most", defArgs s__join_most, defBody s__join_most, defScope s__join_most, [], []⟩
def d__join_least : He.DefD := ⟨("_join_least", none), "_join_least", "_join_least", defArgs s__join_least, defBody s__join_least, defScope s__join_least, [], []⟩
def d__join_first : He.DefD := ⟨("_join_first", none), "_join_first", "_join_first", defArgs s__join_first, defBody s__join_first, defScope s__join_first, [], []⟩
def d__join_last : He.DefD := ⟨("_join_last", none), "_join_last", "_join_last", defArgs s__join_last, defBody s__join_last, defScope s__join_last, [], []⟩
def d__join_or : He.DefD := ⟨("_join_or", none), "_join_or", "_join_or", defArgs s__join_or, defBody s__join_or, defScope s__join_or, [], []⟩
def d__join_maps : He.DefD := ⟨("_join_maps", none), "_join_maps", "_join_maps", defArgs s__join_maps, defBody s__join_maps, defScope s__join_maps, [], []⟩
def d__cell : He.DefD := ⟨("_cell", none), "_cell", "_cell", defArgs s__cell, defBody s__cell, defScope s__cell, [], []⟩
def d__join_brackets : He.DefD := ⟨("_join_brackets", none), "_join_brackets", "_join_brackets", defArgs s__join_brackets, defBody s__join_brackets, defScope s__join_brackets, [], []⟩
def d__join_spans : He.DefD := ⟨("_join_spans", none), "_join_spans", "_join_spans", defArgs s__join_spans, defBody s__join_spans, defScope s__join_spans, [], []⟩
def d__join_counts : He.DefD := ⟨("_join_counts", none), "_join_counts", "_join_counts", defArgs s__join_counts, defBody s__join_counts, defScope s__join_counts, [], []⟩
def d_joined : He.DefD := ⟨("joined", none), "joined", "joined", defArgs s_joined, defBody s_joined, defScope s_joined, [], []⟩
def d_idle_pair : He.DefD := ⟨("idle_pair", none), "idle_pair", "idle_pair", defArgs s_idle_pair, defBody s_idle_pair, defScope s_idle_pair, [], []⟩
def d__idle_maps : He.DefD := ⟨("_idle_maps", none), "_idle_maps", "_idle_maps", defArgs s__idle_maps, defBody s__idle_maps, defScope s__idle_maps, [], []⟩
def d__idle_grids : He.DefD := ⟨("_idle_grids", none), "_idle_grids", "_idle_grids", defArgs s__idle_grids, defBody s__idle_grids, defScope s__idle_grids, [], []⟩
def d_folded : He.DefD := ⟨("folded", none), "folded", "folded", defArgs s_folded, defBody s_folded, defScope s_folded, [], []⟩
def d_is_plan : He.DefD := ⟨("is_plan", none), "is_plan", "is_plan", defArgs s_is_plan, defBody s_is_plan, defScope s_is_plan, [], []⟩
def d_plan_fault : He.DefD := ⟨("plan_fault", none), "plan_fault", "plan_fault", defArgs s_plan_fault, defBody s_plan_fault, defScope s_plan_fault, [], []⟩
def d__is_join : He.DefD := ⟨("_is_join", none), "_is_join", "_is_join", defArgs s__is_join, defBody s__is_join, defScope s__is_join, [], []⟩
def d__is_name : He.DefD := ⟨("_is_name", none), "_is_name", "_is_name", defArgs s__is_name, defBody s__is_name, defScope s__is_name, [], []⟩
def d_values_of_names : He.DefD := ⟨("values_of_names", none), "values_of_names", "values_of_names", defArgs s_values_of_names, defBody s_values_of_names, defScope s_values_of_names, [], []⟩
def d_suits : He.DefD := ⟨("suits", none), "suits", "suits", defArgs s_suits, defBody s_suits, defScope s_suits, [], []⟩
def d_right_all : He.DefD := ⟨("right_all", none), "right_all", "right_all", defArgs s_right_all, defBody s_right_all, defScope s_right_all, [], []⟩
def d_right_commuting : He.DefD := ⟨("right_commuting", none), "right_commuting", "right_commuting", defArgs s_right_commuting, defBody s_right_commuting, defScope s_right_commuting, [], []⟩
def d_right_same : He.DefD := ⟨("right_same", none), "right_same", "right_same", defArgs s_right_same, defBody s_right_same, defScope s_right_same, [], []⟩
def d_grade_of : He.DefD := ⟨("grade_of", none), "grade_of", "grade_of", defArgs s_grade_of, defBody s_grade_of, defScope s_grade_of, [], []⟩
def d_right_idle : He.DefD := ⟨("right_idle", none), "right_idle", "right_idle", defArgs s_right_idle, defBody s_right_idle, defScope s_right_idle, [], []⟩
def d_suits_asks : He.DefD := ⟨("suits_asks", none), "suits_asks", "suits_asks", defArgs s_suits_asks, defBody s_suits_asks, defScope s_suits_asks, [], []⟩
def d_proof_of : He.DefD := ⟨("proof_of", none), "proof_of", "proof_of", defArgs s_proof_of, defBody s_proof_of, defScope s_proof_of, [], []⟩
def d_first_wrong : He.DefD := ⟨("first_wrong", none), "first_wrong", "first_wrong", defArgs s_first_wrong, defBody s_first_wrong, defScope s_first_wrong, [], []⟩
def d__need_both : He.DefD := ⟨("_need_both", none), "_need_both", "_need_both", defArgs s__need_both, defBody s__need_both, defScope s__need_both, [], []⟩
def d__is_right : He.DefD := ⟨("_is_right", none), "_is_right", "_is_right", defArgs s__is_right, defBody s__is_right, defScope s__is_right, [], []⟩
def d_wrong_at : He.DefD := ⟨("wrong_at", none), "wrong_at", "wrong_at", defArgs s_wrong_at, defBody s_wrong_at, defScope s_wrong_at, [], []⟩
def d__need_suiting : He.DefD := ⟨("_need_suiting", none), "_need_suiting", "_need_suiting", defArgs s__need_suiting, defBody s__need_suiting, defScope s__need_suiting, [], []⟩
def d__law_start : He.DefD := ⟨("_law_start", none), "_law_start", "_law_start", defArgs s__law_start, defBody s__law_start, defScope s__law_start, [], []⟩
def d__law_draw : He.DefD := ⟨("_law_draw", none), "_law_draw", "_law_draw", defArgs s__law_draw, defBody s__law_draw, defScope s__law_draw, [], []⟩
def d__law_same : He.DefD := ⟨("_law_same", none), "_law_same", "_law_same", defArgs s__law_same, defBody s__law_same, defScope s__law_same, [], []⟩
def d__law_asks : He.DefD := ⟨("_law_asks", none), "_law_asks", "_law_asks", defArgs s__law_asks, defBody s__law_asks, defScope s__law_asks, [], []⟩
def d__law_flawed : He.DefD := ⟨("_law_flawed", none), "_law_flawed", "_law_flawed", defArgs s__law_flawed, defBody s__law_flawed, defScope s__law_flawed, [], []⟩
def d__law_plan : He.DefD := ⟨("_law_plan", none), "_law_plan", "_law_plan", defArgs s__law_plan, defBody s__law_plan, defScope s__law_plan, [], []⟩
def d__law_scene : He.DefD := ⟨("_law_scene", none), "_law_scene", "_law_scene", defArgs s__law_scene, defBody s__law_scene, defScope s__law_scene, [], []⟩
def d__law_words : He.DefD := ⟨("_law_words", none), "_law_words", "_law_words", defArgs s__law_words, defBody s__law_words, defScope s__law_words, [], []⟩
def d__law_suits : He.DefD := ⟨("_law_suits", none), "_law_suits", "_law_suits", defArgs s__law_suits, defBody s__law_suits, defScope s__law_suits, [], []⟩
def d__law_first_wrong : He.DefD := ⟨("_law_first_wrong", none), "_law_first_wrong", "_law_first_wrong", defArgs s__law_first_wrong, defBody s__law_first_wrong, defScope s__law_first_wrong, [], []⟩
def d__law_dues : He.DefD := ⟨("_law_dues", none), "_law_dues", "_law_dues", defArgs s__law_dues, defBody s__law_dues, defScope s__law_dues, [], []⟩
def d__law_told : He.DefD := ⟨("_law_told", none), "_law_told", "_law_told", defArgs s__law_told, defBody s__law_told, defScope s__law_told, [], []⟩
def d__law_idle : He.DefD := ⟨("_law_idle", none), "_law_idle", "_law_idle", defArgs s__law_idle, defBody s__law_idle, defScope s__law_idle, [], []⟩
def d__law_no_idle : He.DefD := ⟨("_law_no_idle", none), "_law_no_idle", "_law_no_idle", defArgs s__law_no_idle, defBody s__law_no_idle, defScope s__law_no_idle, [], []⟩
def d__law_bad_plan : He.DefD := ⟨("_law_bad_plan", none), "_law_bad_plan", "_law_bad_plan", defArgs s__law_bad_plan, defBody s__law_bad_plan, defScope s__law_bad_plan, [], []⟩
def d__law_bad_row : He.DefD := ⟨("_law_bad_row", none), "_law_bad_row", "_law_bad_row", defArgs s__law_bad_row, defBody s__law_bad_row, defScope s__law_bad_row, [], []⟩
def d__law_refused : He.DefD := ⟨("_law_refused", none), "_law_refused", "_law_refused", defArgs s__law_refused, defBody s__law_refused, defScope s__law_refused, [], []⟩
def d__law_refusals : He.DefD := ⟨("_law_refusals", none), "_law_refusals", "_law_refusals", defArgs s__law_refusals, defBody s__law_refusals, defScope s__law_refusals, [], []⟩
def d_law : He.DefD := ⟨("law", none), "law", "law", defArgs s_law, defBody s_law, defScope s_law, [], []⟩
def fn0 : List He.DefD := [d_init, d_is_integer, d_is_number, d_is_positive, d_is_group, d_is_stretch, d_asks_fault, d_is_asks, d_need, d_span_feed, d_count_feed, d_bit_feed, d_is_operation, d__join_sum, d__join_product, d__join_most, d__join_least, d__join_first, d__join_last, d__join_or, d__join_maps, d__cell, d__join_brackets, d__join_spans, d__join_counts, d_joined, d_idle_pair, d__idle_maps, d__idle_grids, d_folded, d_is_plan, d_plan_fault, d__is_join, d__is_name, d_values_of_names]
def fn1 : List He.DefD := [d_suits, d_right_all, d_right_commuting, d_right_same, d_grade_of, d_right_idle, d_suits_asks, d_proof_of, d_first_wrong, d__need_both, d__is_right, d_wrong_at, d__need_suiting, d__law_start, d__law_draw, d__law_same, d__law_asks, d__law_flawed, d__law_plan, d__law_scene, d__law_words, d__law_suits, d__law_first_wrong, d__law_dues, d__law_told, d__law_idle, d__law_no_idle, d__law_bad_plan, d__law_bad_row, d__law_refused, d__law_refusals, d_law]
def fn : List He.DefD := fn0 ++ fn1
def fa0 : List He.Fa := [.glo "is_integer", .glo "is_number", .glo "is_positive", .glo "is_group", .glo "is_stretch", .glo "asks_fault", .glo "is_asks", .glo "need", .glo "span_feed", .glo "count_feed", .glo "bit_feed", .glo "is_operation", .glo "_join_sum", .glo "_join_product", .glo "_join_most", .glo "_join_least", .glo "_join_first", .glo "_join_last", .glo "_join_or", .glo "_join_maps", .glo "_cell", .glo "_join_brackets", .glo "_join_spans", .glo "_join_counts", .glo "joined", .glo "idle_pair", .glo "_idle_maps", .glo "_idle_grids", .glo "folded", .glo "is_plan", .glo "plan_fault", .glo "_is_join", .glo "_is_name", .glo "values_of_names", .glo "suits"]
def fa1 : List He.Fa := [.glo "right_all", .glo "right_commuting", .glo "right_same", .glo "grade_of", .glo "right_idle", .glo "suits_asks", .glo "proof_of", .glo "first_wrong", .glo "_need_both", .glo "_is_right", .glo "wrong_at", .glo "_need_suiting", .glo "_law_start", .glo "_law_draw", .glo "_law_same", .glo "_law_asks", .glo "_law_flawed", .glo "_law_plan", .glo "_law_scene", .glo "_law_words", .glo "_law_suits", .glo "_law_first_wrong", .glo "_law_dues", .glo "_law_told", .glo "_law_idle", .glo "_law_no_idle", .glo "_law_bad_plan", .glo "_law_bad_row", .glo "_law_refused", .glo "_law_refusals", .glo "law", .glo "NotUsable", .glo "GRADES", .glo "NUMBERS_BEHIND", .glo "JOINING"]
def fa2 : List He.Fa := [.free "isinstance", .free "int", .free "bool", .free "str", .free "tuple", .free "list", .free "len", .free "range", .free "enumerate", .free "zip", .free "all", .free "any", .free "sum", .free "max", .free "min", .free "sorted", .free "set"]
def fa : List He.Fa := fa0 ++ fa1 ++ fa2
def nbT : List (Str × Int) := [("sum", 1), ("product", 1), ("most", 0), ("least", 0), ("first", 0), ("last", 0), ("or", 0), ("maps", 1), ("grids", 2), ("brackets", 0), ("spans", 0), ("counts", 1)]
def jnT : List (Str × He.Dv) := [("spans", .glo "_join_spans"), ("counts", .glo "_join_counts"), ("or", .glo "_join_or")]
def ts : List He.Tab := [(fun K => He.ga K "NUMBERS_BEHIND", nbT.map (·.1)), (fun K => He.ga K "JOINING", nbT.map (·.1))]
def grZ : List Str := ["all", "commuting", "same"]
def ex (K : PySem.W.Frag) : Bool := He.valsB K (He.ga K "NUMBERS_BEHIND") (nbT.map fun q => (q.1, He.Dv.int q.2)) && He.valsB K (He.ga K "JOINING") jnT && He.tupB K "GRADES" (grZ.map He.Dv.str) && exB K "NotUsable" "word" "at"
abbrev R : PySem.W.OpenRow := PySem.W.OpenLaw.row PySem.Challenge.rw_underthree_k06_whole_three_ways_of_right
abbrev hk : PySem.W.Hook := He.hookX 5 fa fn ts [] ex
def ob (s : PySem.W.SharedT) : He.AlX := He.obsX 5 fa fn ts [] ex (HandSHeadRun.getT s)
theorem ob_eq (s : PySem.W.SharedT) : ob s = hk.obs s.abs := He.obsX_eq (HandSHeadRun.getT_eq s)
def loose0 : List Str := [("is_integer" : Str), ("is_number" : Str), ("is_positive" : Str), ("is_group" : Str), ("is_stretch" : Str), ("asks_fault" : Str), ("is_asks" : Str), ("need" : Str), ("span_feed" : Str), ("count_feed" : Str), ("bit_feed" : Str), ("is_operation" : Str), ("_join_sum" : Str), ("_join_product" : Str), ("_join_most" : Str), ("_join_least" : Str), ("_join_first" : Str), ("_join_last" : Str), ("_join_or" : Str), ("_join_maps" : Str), ("_join_grids" : Str), ("_cell" : Str), ("_join_brackets" : Str), ("_join_spans" : Str), ("_join_counts" : Str), ("joined" : Str), ("idle_pair" : Str), ("_idle_maps" : Str), ("_idle_grids" : Str), ("folded" : Str), ("is_plan" : Str), ("plan_fault" : Str), ("_is_join" : Str), ("_is_name" : Str), ("values_of_names" : Str)]
def loose1 : List Str := [("suits" : Str), ("right_all" : Str), ("right_commuting" : Str), ("right_same" : Str), ("grade_of" : Str), ("right_idle" : Str), ("suits_asks" : Str), ("proof_of" : Str), ("first_wrong" : Str), ("_need_both" : Str), ("_is_right" : Str), ("wrong_at" : Str), ("_need_suiting" : Str), ("_law_start" : Str), ("_law_draw" : Str), ("_law_same" : Str), ("_law_asks" : Str), ("_law_flawed" : Str), ("_law_plan" : Str), ("_law_scene" : Str), ("_law_words" : Str), ("_law_suits" : Str), ("_law_first_wrong" : Str), ("_law_dues" : Str), ("_law_told" : Str), ("_law_idle" : Str), ("_law_no_idle" : Str), ("_law_bad_plan" : Str), ("_law_bad_row" : Str), ("_law_refused" : Str), ("_law_refusals" : Str), ("UnderError" : Str), ("AskError" : Str), ("NotUsable" : Str), ("NUMBERS_BEHIND" : Str)]
def loose2 : List Str := [("JOINING" : Str), ("GRADES" : Str), ("__name__" : Str)]
def loose : List Str := loose0 ++ loose1 ++ loose2
abbrev vw : Program := PySem.W.view R.prog [83]
--END
theorem run_f (w : World) : HandSHeadRun.RunEq R vw hk ob 6000 loose (w.withFollow "special-get-raises" false) := by
  intro os
  kernel_rfl
theorem run_t (w : World) : HandSHeadRun.RunEq R vw hk ob 6000 loose (w.withFollow "special-get-raises" true) := by
  intro os
  kernel_rfl
theorem run (w : World) : HandSHeadRun.RunEq R vw hk ob 6000 loose w :=
  PySem.W.byRow2 "special-get-raises" (P := fun w => HandSHeadRun.RunEq R vw hk ob 6000 loose w) run_f run_t w
end K6
set_option maxHeartbeats 1000000
set_option Elab.async false
set_option linter.all false
set_option maxRecDepth 100000
namespace Dl
open PySem PySem.Spec PyProof.Rows L2
abbrev AS := Addr → Prop
abbrev Sg := L2.St
abbrev PD := PyData
def KLs (K : PySem.W.Frag) (a : Addr) (xs : List V) : Prop :=
  ∃ (o : Obj) (its : Array Value) (n : Nat), K.lookup a = some o ∧ o.cls = .type "list" ∧ o.dict = none ∧ o.data = .seq its n ∧ its.size ≤ sizeLine ∧ Vals xs its.toList
def KTp (K : PySem.W.Frag) (a : Addr) (xs : List V) : Prop :=
  ∃ (o : Obj) (its : Array Value) (n : Nat), K.lookup a = some o ∧ o.cls = .type "tuple" ∧ o.data = .seq its n ∧ its.size ≤ sizeLine ∧ Vals xs its.toList
def LA (K : PySem.W.Frag) (H : Hp) (A : AS) (a : Addr) (xs : List V) : Prop := (Rd H a (.lst xs) ∧ ¬ A a) ∨ KLs K a xs
def TAv (K : PySem.W.Frag) (H : Hp) (A : AS) (a : Addr) (xs : List V) : Prop := (Rd H a (.tup xs) ∧ ¬ A a) ∨ KTp K a xs
theorem LA.sq {K H A a xs} (h : LA K H A a xs) : SqL K H a xs := h.elim (fun x => .inl x.1) .inr
theorem TAv.sq {K H A a xs} (h : TAv K H A a xs) : SqT K H a xs := h.elim (fun x => .inl x.1) .inr
mutual
inductive Dv (K : PySem.W.Frag) (H : Hp) (A : AS) : V → PD → Prop
  | non : Dv K H A .non .none
  | bl (b : Bool) : Dv K H A (.bl b) (.bool b)
  | int (i : Int) : Dv K H A (.int i) (.int i)
  | str (x : Str) : Dv K H A (.str x) (.str x)
  | lst {a : Addr} {xs : List V} {ds : List PD} : LA K H A a xs → DvA K H A xs ds → Dv K H A (.ref a) (.list ds)
  | tup {a : Addr} {xs : List V} {ds : List PD} : TAv K H A a xs → DvA K H A xs ds → Dv K H A (.ref a) (.tuple ds)
inductive DvA (K : PySem.W.Frag) (H : Hp) (A : AS) : List V → List PD → Prop
  | nil : DvA K H A [] []
  | cons {v : V} {vs : List V} {d : PD} {ds : List PD} : Dv K H A v d → DvA K H A vs ds → DvA K H A (v :: vs) (d :: ds)
end
def Ext (S : AS) (H H' : Hp) : Prop := ∀ a o, ¬ S a → H a = some o → H' a = some o
theorem rd_ext {S : AS} {H H' : Hp} {a : Addr} {u : HO} (e : Ext S H H') (n : ¬ S a) (r : Rd H a u) : Rd H' a u :=
  r.elim (fun x => .inl (e _ _ n x)) fun ⟨o, x⟩ => .inr ⟨o, e _ _ n x⟩
theorem rd_some {H : Hp} {a : Addr} {u : HO} (r : Rd H a u) : H a ≠ none := fun z => by
  rcases r with x | ⟨o, x⟩ <;> rw [z] at x <;> cases x
section
variable {K : PySem.W.Frag} {H H' : Hp} {S A A' : AS}
theorem LA.mono {a xs} (e : Ext S H H') (sa : ∀ a, S a → A a) (s : ∀ a, A' a → A a ∨ H a = none) (h : LA K H A a xs) : LA K H' A' a xs := by
  rcases h with ⟨r, n⟩ | h
  · refine .inl ⟨rd_ext e (fun z => n (sa _ z)) r, fun z => ?_⟩
    rcases s _ z with q | q
    · exact n q
    · exact rd_some r q
  · exact .inr h
theorem TAv.mono {a xs} (e : Ext S H H') (sa : ∀ a, S a → A a) (s : ∀ a, A' a → A a ∨ H a = none) (h : TAv K H A a xs) : TAv K H' A' a xs := by
  rcases h with ⟨r, n⟩ | h
  · refine .inl ⟨rd_ext e (fun z => n (sa _ z)) r, fun z => ?_⟩
    rcases s _ z with q | q
    · exact n q
    · exact rd_some r q
  · exact .inr h
mutual
theorem Dv.mono (e : Ext S H H') (sa : ∀ a, S a → A a) (s : ∀ a, A' a → A a ∨ H a = none) : ∀ {v : V} {d : PD}, Dv K H A v d → Dv K H' A' v d
  | _, _, .non => .non
  | _, _, .bl b => .bl b
  | _, _, .int i => .int i
  | _, _, .str x => .str x
  | _, _, .lst h t => .lst (h.mono e sa s) (DvA.mono e sa s t)
  | _, _, .tup h t => .tup (h.mono e sa s) (DvA.mono e sa s t)
theorem DvA.mono (e : Ext S H H') (sa : ∀ a, S a → A a) (s : ∀ a, A' a → A a ∨ H a = none) : ∀ {vs : List V} {ds : List PD}, DvA K H A vs ds → DvA K H' A' vs ds
  | _, _, .nil => .nil
  | _, _, .cons h t => .cons (Dv.mono e sa s h) (DvA.mono e sa s t)
end
mutual
theorem Dv.dp : ∀ {v : V} {d : PD}, Dv K H A v d → Dp K H v d
  | _, _, .non => .non
  | _, _, .bl b => .bl b
  | _, _, .int i => .int i
  | _, _, .str x => .str x
  | _, _, .lst h t => .lst h.sq (DvA.dp t)
  | _, _, .tup h t => .tup h.sq (DvA.dp t)
theorem DvA.dp : ∀ {vs : List V} {ds : List PD}, DvA K H A vs ds → DpAll K H vs ds
  | _, _, .nil => .nil
  | _, _, .cons h t => .cons (Dv.dp h) (DvA.dp t)
end
theorem Ext.refl : Ext S H H := fun _ _ _ h => h
theorem Ext.new {p : Addr} {o : HO} (np : H p = none) : Ext S H (upd H p o) := fun a u _ e => by rw [upd_ne (ne_of_none e np)]; exact e
theorem Dv.weak {v d} (h : Dv K H A v d) (s : ∀ a, A' a → A a) : Dv K H A' v d := h.mono (S := fun _ => False) Ext.refl (fun _ z => z.elim) fun a z => .inl (s a z)
theorem DvA.weak {v d} (h : DvA K H A v d) (s : ∀ a, A' a → A a) : DvA K H A' v d := h.mono (S := fun _ => False) Ext.refl (fun _ z => z.elim) fun a z => .inl (s a z)
theorem DvA.len : ∀ {vs : List V} {ds : List PD}, DvA K H A vs ds → vs.length = ds.length
  | _, _, .nil => rfl
  | _, _, .cons _ t => by simp [DvA.len t]
theorem DvA.get : ∀ {vs : List V} {ds : List PD} {i : Nat} {d : PD}, DvA K H A vs ds → ds[i]? = some d → ∃ v, vs[i]? = some v ∧ Dv K H A v d
  | _, _, _, _, .nil, e => by simp at e
  | _, _, 0, _, .cons h _, e => by simp at e; subst e; exact ⟨_, rfl, h⟩
  | _, _, i + 1, _, .cons _ t, e => by
    obtain ⟨v, h1, h2⟩ := DvA.get (i := i) t (by simpa using e)
    exact ⟨v, by simpa using h1, h2⟩
theorem DvA.getV : ∀ {vs : List V} {ds : List PD} {i : Nat} {v : V}, DvA K H A vs ds → vs[i]? = some v → ∃ d, ds[i]? = some d ∧ Dv K H A v d
  | _, _, _, _, .nil, e => by simp at e
  | _, _, 0, _, .cons h _, e => by simp at e; subst e; exact ⟨_, rfl, h⟩
  | _, _, i + 1, _, .cons _ t, e => by
    obtain ⟨v, h1, h2⟩ := DvA.getV (i := i) t (by simpa using e)
    exact ⟨v, by simpa using h1, h2⟩
theorem DvA.append : ∀ {vs us : List V} {ds es : List PD}, DvA K H A vs ds → DvA K H A us es → DvA K H A (vs ++ us) (ds ++ es)
  | _, _, _, _, .nil, s => s
  | _, _, _, _, .cons h t, s => .cons h (DvA.append t s)
theorem DvA.take : ∀ {vs : List V} {ds : List PD} (n : Nat), DvA K H A vs ds → DvA K H A (vs.take n) (ds.take n)
  | _, _, 0, _ => .nil
  | _, _, _ + 1, .nil => .nil
  | _, _, n + 1, .cons h t => .cons h (DvA.take n t)
theorem DvA.drop : ∀ {vs : List V} {ds : List PD} (n : Nat), DvA K H A vs ds → DvA K H A (vs.drop n) (ds.drop n)
  | _, _, 0, r => r
  | _, _, _ + 1, .nil => .nil
  | _, _, n + 1, .cons _ t => DvA.drop n t
theorem DvA.set {v : V} {d : PD} (h : Dv K H A v d) : ∀ {vs : List V} {ds : List PD} (i : Nat), DvA K H A vs ds → DvA K H A (vs.set i v) (ds.set i d)
  | _, _, _, .nil => .nil
  | _, _, 0, .cons _ t => .cons h t
  | _, _, i + 1, .cons q t => .cons q (DvA.set h i t)
theorem DvA.one {v : V} {d : PD} (h : Dv K H A v d) : DvA K H A [v] [d] := .cons h .nil
end
inductive Ct where
  | l (ds : List PD) | m (kds : List (Key × PD))
def CtV (K : PySem.W.Frag) (H : Hp) (A : AS) : HO → Ct → Prop
  | .lst vs, .l ds => DvA K H A vs ds
  | .dK kvs, .m kds => kvs.map (·.1) = kds.map (·.1) ∧ DvA K H A (kvs.map (·.2)) (kds.map (·.2))
  | _, _ => False
section
variable {K : PySem.W.Frag} {H H' : Hp} {S A A' : AS} {o : HO}
theorem CtV.mono {ct : Ct} (h : CtV K H A o ct) (e : Ext S H H') (sa : ∀ a, S a → A a) (s : ∀ a, A' a → A a ∨ H a = none) : CtV K H' A' o ct := by
  cases o <;> cases ct <;> first
    | exact DvA.mono e sa s h
    | exact ⟨h.1, DvA.mono e sa s h.2⟩
    | exact h
theorem CtV.weak {ct : Ct} (h : CtV K H A o ct) (s : ∀ a, A' a → A a) : CtV K H A' o ct := h.mono (S := fun _ => False) Ext.refl (fun _ z => z.elim) fun a z => .inl (s a z)
theorem CtV.lst {ds : List PD} (h : CtV K H A o (.l ds)) : ∃ vs, o = .lst vs ∧ DvA K H A vs ds := by
  cases o <;> first
    | exact ⟨_, rfl, h⟩
    | exact False.elim h
theorem CtV.dct {kds : List (Key × PD)} (h : CtV K H A o (.m kds)) : ∃ kvs, o = .dK kvs ∧ kvs.map (·.1) = kds.map (·.1) ∧ DvA K H A (kvs.map (·.2)) (kds.map (·.2)) := by
  cases o <;> first
    | exact ⟨_, rfl, h⟩
    | exact False.elim h
end
inductive Sl where
  | im (d : PD) | ow (pm : Bool) (ct : Ct) | un
abbrev Nv := List Sl
def Own (σ : Sg) (n : Nv) : AS := fun a => ∃ (i : Nat) (pm : Bool) (ds : Ct), n[i]? = some (.ow pm ds) ∧ σ[i]? = some (some (.ref a))
def AV (S : AS) (σ : Sg) (n : Nv) : AS := fun a => S a ∨ Own σ n a
structure Rel (K : PySem.W.Frag) (S : AS) (H : Hp) (σ : Sg) (n : Nv) : Prop where
  len : n.length = σ.length
  im : ∀ (i : Nat) (d : PD), n[i]? = some (.im d) → ∃ v, σ[i]? = some (some v) ∧ Dv K H (AV S σ n) v d
  ow : ∀ (i : Nat) (pm : Bool) (ds : Ct), n[i]? = some (.ow pm ds) → ∃ (p : Addr) (vs : HO), σ[i]? = some (some (.ref p)) ∧ H p = some vs ∧ CtV K H (AV S σ n) vs ds ∧ (pm = false → ¬ S p)
  inj : ∀ (i j : Nat) (pm qm : Bool) (ds es : Ct) (p : Addr), n[i]? = some (.ow pm ds) → n[j]? = some (.ow qm es) → σ[i]? = some (some (.ref p)) → σ[j]? = some (some (.ref p)) → i = j
  trk : ∀ a, S a → H a ≠ none
structure Stp (σ : Sg) (n : Nv) (H : Hp) (σ' : Sg) (n' : Nv) (H' : Hp) : Prop where
  ext : ∀ a o, ¬ Own σ n a → H a = some o → H' a = some o
  own : ∀ a, Own σ' n' a → Own σ n a ∨ H a = none
  dom : ∀ a, H a ≠ none → H' a ≠ none
  pmk : ∀ (i : Nat) (ds : Ct), n[i]? = some (.ow true ds) → σ'[i]? = σ[i]? ∧ ∃ es, n'[i]? = some (.ow true es)
section
variable {K : PySem.W.Frag} {S : AS} {H H' H1 H2 : Hp} {σ σ' σ1 σ2 : Sg} {n n' n1 n2 : Nv}
theorem Stp.refl : Stp σ n H σ n H := ⟨fun _ _ _ h => h, fun _ h => .inl h, fun _ h => h, fun _ ds h => ⟨rfl, ds, h⟩⟩
theorem Stp.trans (a : Stp σ n H σ1 n1 H1) (b : Stp σ1 n1 H1 σ2 n2 H2) : Stp σ n H σ2 n2 H2 where
  ext := fun c o h e => b.ext c o (fun z => (a.own c z).elim h fun q => by rw [q] at e; cases e) (a.ext c o h e)
  own := fun c h => (b.own c h).elim (fun z => a.own c z) fun q => .inr (Classical.byContradiction fun z => a.dom c z q)
  dom := fun c h => b.dom c (a.dom c h)
  pmk := fun i ds h => by
    obtain ⟨e1, es, h1⟩ := a.pmk i ds h
    obtain ⟨e2, fs, h2⟩ := b.pmk i es h1
    exact ⟨e2.trans e1, fs, h2⟩
theorem Stp.av (s : Stp σ n H σ' n' H') : ∀ a, AV S σ' n' a → AV S σ n a ∨ H a = none := fun a z => z.elim (fun q => .inl (.inl q)) fun q => (s.own a q).elim (fun r => .inl (.inr r)) .inr
theorem Stp.dv {v d} (s : Stp σ n H σ' n' H') (h : Dv K H (AV S σ n) v d) : Dv K H' (AV S σ' n') v d := h.mono s.ext (fun _ z => .inr z) s.av
theorem Stp.dvA {v d} (s : Stp σ n H σ' n' H') (h : DvA K H (AV S σ n) v d) : DvA K H' (AV S σ' n') v d := h.mono s.ext (fun _ z => .inr z) s.av
theorem Stp.ctV {v d} (s : Stp σ n H σ' n' H') (h : CtV K H (AV S σ n) v d) : CtV K H' (AV S σ' n') v d := h.mono s.ext (fun _ z => .inr z) s.av
def NewH (H H' : Hp) : Prop := ∀ a o, H a = some o → H' a = some o
theorem NewH.refl : NewH H H := fun _ _ h => h
theorem NewH.upd {p : Addr} {o : HO} (np : H p = none) : NewH H (upd H p o) := fun a u e => by rw [upd_ne (ne_of_none e np)]; exact e
theorem NewH.trans (a : NewH H H1) (b : NewH H1 H2) : NewH H H2 := fun c o h => b c o (a c o h)
theorem NewH.dom (e : NewH H H') : ∀ a, H a ≠ none → H' a ≠ none := fun a h z => by
  cases w : H a with
  | none => exact h w
  | some o => rw [e a o w] at z; cases z
theorem Stp.grown (e : NewH H H') : Stp σ n H σ n H' :=
  ⟨fun a o _ h => e a o h, fun _ h => .inl h, e.dom, fun _ ds h => ⟨rfl, ds, h⟩⟩
theorem Stp.new {p : Addr} {o : HO} (np : H p = none) : Stp σ n H σ n (upd H p o) := .grown (.upd np)
theorem Stp.non (st : Stp σ n H σ' n' H') {p : Addr} (h : H' p = none) : H p = none := Classical.byContradiction fun z => st.dom p z h
theorem Rel.ownSome (r : Rel K S H σ n) : ∀ a, Own σ n a → H a ≠ none := fun a ⟨i, pm, ds, e1, e2⟩ z => by
  obtain ⟨p, vs, e3, h, _⟩ := r.ow i pm ds e1
  rw [e2] at e3
  cases e3
  rw [z] at h; cases h
theorem Rel.avSome (r : Rel K S H σ n) : ∀ a, AV S σ n a → H a ≠ none := fun a z => z.elim (r.trk a) (r.ownSome a)
theorem Rel.nav (r : Rel K S H σ n) {p : Addr} (np : H p = none) : ¬ AV S σ n p := fun z => r.avSome p z np
theorem Rel.ext (r : Rel K S H σ n) (e : ∀ a o, H a = some o → H' a = some o) : Rel K S H' σ n where
  len := r.len
  im := fun i d h => by
    obtain ⟨v, h1, h2⟩ := r.im i d h
    exact ⟨v, h1, h2.mono (S := fun _ => False) (fun a o _ q => e a o q) (fun _ z => z.elim) fun _ z => .inl z⟩
  ow := fun i pm ds h => by
    obtain ⟨p, vs, h1, h2, h3, h4⟩ := r.ow i pm ds h
    exact ⟨p, vs, h1, e _ _ h2, h3.mono (S := fun _ => False) (fun a o _ q => e a o q) (fun _ z => z.elim) (fun _ z => .inl z), h4⟩
  inj := r.inj
  trk := fun a z q => by
    have h := r.trk a z
    cases w : H a with
    | none => exact h w
    | some o => rw [e a o w] at q; cases q
theorem Rel.new (r : Rel K S H σ n) {p : Addr} {o : HO} (np : H p = none) : Rel K S (upd H p o) σ n := r.ext fun a u e => by rw [upd_ne (ne_of_none e np)]; exact e
end
section
variable {K : PySem.W.Frag} {S : AS} {H H' : Hp} {σ : Sg} {n : Nv} {i : Nat}
theorem get_set_ne {α : Type} {l : List α} {i j : Nat} {x : α} (h : i ≠ j) : (l.set i x)[j]? = l[j]? := List.getElem?_set_ne h
theorem get_set_at {α : Type} {l : List α} {i : Nat} {x y : α} (h : (l.set i x)[i]? = some y) : y = x ∧ i < l.length := by
  by_cases q : i < l.length
  · rw [List.getElem?_set_self q] at h
    cases h
    exact ⟨rfl, q⟩
  · rw [List.getElem?_eq_none (by simpa using q)] at h
    cases h
theorem own_set {s : Sl} (hs : ∀ pm ds, s ≠ .ow pm ds) {x : Option V} : ∀ a, Own (σ.set i x) (n.set i s) a → Own σ n a := fun a ⟨j, pm, ds, e1, e2⟩ => by
  by_cases q : i = j
  · subst q
    exact (hs _ _ (get_set_at e1).1.symm).elim
  · rw [get_set_ne q] at e1 e2
    exact ⟨j, pm, ds, e1, e2⟩
def Fre (n : Nv) (i : Nat) : Prop := ∀ ds, n[i]? ≠ some (.ow true ds)
theorem pmk_set {s : Sl} {x : Option V} (hf : Fre n i) : ∀ (j : Nat) (ds : Ct), n[j]? = some (.ow true ds) → (σ.set i x)[j]? = σ[j]? ∧ ∃ es, (n.set i s)[j]? = some (.ow true es) := fun j ds h => by
  have q : i ≠ j := fun z => by subst z; exact hf ds h
  rw [get_set_ne q, get_set_ne q]
  exact ⟨rfl, ds, h⟩
theorem Stp.setN {s : Sl} (hs : ∀ pm ds, s ≠ .ow pm ds) {x : Option V} (hf : Fre n i) : Stp σ n H (σ.set i x) (n.set i s) H :=
  ⟨fun _ _ _ h => h, fun a h => .inl (own_set hs a h), fun _ h => h, pmk_set hf⟩
theorem Rel.setN (r : Rel K S H σ n) {s : Sl} {x : Option V} (hs : ∀ pm ds, s ≠ .ow pm ds) (hd : ∀ d, s = .im d → ∃ v, x = some v ∧ Dv K H (AV S σ n) v d) (hf : Fre n i) : Rel K S H (σ.set i x) (n.set i s) where
  len := by simp [r.len]
  im := fun j d h => by
    have st : Stp σ n H (σ.set i x) (n.set i s) H := Stp.setN hs hf
    by_cases q : i = j
    · subst q
      obtain ⟨e, hl⟩ := get_set_at h
      obtain ⟨v, e2, hv⟩ := hd d e.symm
      exact ⟨v, by rw [List.getElem?_set_self (by rw [← r.len]; exact hl), e2], st.dv hv⟩
    · rw [get_set_ne q] at h
      obtain ⟨v, h1, h2⟩ := r.im j d h
      exact ⟨v, by rw [get_set_ne q]; exact h1, st.dv h2⟩
  ow := fun j pm ds h => by
    have st : Stp σ n H (σ.set i x) (n.set i s) H := Stp.setN hs hf
    by_cases q : i = j
    · subst q
      exact (hs _ _ (get_set_at h).1.symm).elim
    · rw [get_set_ne q] at h
      obtain ⟨p, vs, h1, h2, h3, h4⟩ := r.ow j pm ds h
      exact ⟨p, vs, by rw [get_set_ne q]; exact h1, h2, st.ctV h3, h4⟩
  inj := fun j k pm qm ds es p h1 h2 h3 h4 => by
    by_cases q : i = j
    · subst q
      exact (hs _ _ (get_set_at h1).1.symm).elim
    · by_cases q2 : i = k
      · subst q2
        exact (hs _ _ (get_set_at h2).1.symm).elim
      · rw [get_set_ne q] at h1 h3
        rw [get_set_ne q2] at h2 h4
        exact r.inj j k pm qm ds es p h1 h2 h3 h4
  trk := r.trk
theorem Rel.setIm (r : Rel K S H σ n) {v : V} {d : PD} (hf : Fre n i) (h : Dv K H (AV S σ n) v d) : Rel K S H (σ.set i (some v)) (n.set i (.im d)) :=
  r.setN (fun _ _ z => by cases z) (fun d' e => by cases e; exact ⟨v, rfl, h⟩) hf
theorem Stp.setIm {v : V} {d : PD} (hf : Fre n i) : Stp σ n H (σ.set i (some v)) (n.set i (.im d)) H := Stp.setN (fun _ _ z => by cases z) hf
theorem Rel.setUn (r : Rel K S H σ n) {x : Option V} (hf : Fre n i) : Rel K S H (σ.set i x) (n.set i .un) := r.setN (fun _ _ z => by cases z) (fun d' e => by cases e) hf
theorem Stp.setUn {x : Option V} (hf : Fre n i) : Stp σ n H (σ.set i x) (n.set i .un) H := Stp.setN (fun _ _ z => by cases z) hf
end
section
variable {K : PySem.W.Frag} {S : AS} {H H' : Hp} {σ : Sg} {n : Nv} {i : Nat}
theorem own_setO {p : Addr} {pm : Bool} {ds : Ct} : ∀ a, Own (σ.set i (some (.ref p))) (n.set i (.ow pm ds)) a → Own σ n a ∨ a = p := fun a ⟨j, qm, es, e1, e2⟩ => by
  by_cases q : i = j
  · subst q
    have z := (get_set_at e2).1
    cases z
    exact .inr rfl
  · rw [get_set_ne q] at e1 e2
    exact .inl ⟨j, qm, es, e1, e2⟩
structure Frs (K : PySem.W.Frag) (S : AS) (σ : Sg) (n : Nv) (H : Hp) (p : Addr) (ds : Ct) : Prop where
  rel : Rel K S H σ n
  nav : ¬ AV S σ n p
  av : ∃ vs, H p = some vs ∧ CtV K H (fun a => AV S σ n a ∨ a = p) vs ds
  imn : ∀ (i : Nat) (d : PD), n[i]? = some (.im d) → ∃ v, σ[i]? = some (some v) ∧ Dv K H (fun a => AV S σ n a ∨ a = p) v d
  own : ∀ (i : Nat) (pm : Bool) (es : Ct), n[i]? = some (.ow pm es) → ∃ (q : Addr) (vs : HO), σ[i]? = some (some (.ref q)) ∧ H q = some vs ∧ CtV K H (fun a => AV S σ n a ∨ a = p) vs es
variable {p : Addr} {ds : Ct}
theorem Frs.new {vs : HO} (r : Rel K S H σ n) (np : H p = none) (h : CtV K H (AV S σ n) vs ds) : Frs K S σ n (upd H p vs) p ds := by
  have mv : ∀ {v d}, Dv K H (AV S σ n) v d → Dv K (upd H p vs) (fun a => AV S σ n a ∨ a = p) v d := fun z => z.mono (S := fun _ => False) (Ext.new np) (fun _ z => z.elim) fun a z => z.elim .inl fun q => .inr (q ▸ np)
  have mvA : ∀ {v d}, CtV K H (AV S σ n) v d → CtV K (upd H p vs) (fun a => AV S σ n a ∨ a = p) v d := fun z => z.mono (S := fun _ => False) (Ext.new np) (fun _ z => z.elim) fun a z => z.elim .inl fun q => .inr (q ▸ np)
  refine ⟨r.new np, r.nav np, ⟨vs, upd_same, mvA h⟩, fun i d e => ?_, fun i pm es e => ?_⟩
  · obtain ⟨v, h1, h2⟩ := r.im i d e
    exact ⟨v, h1, mv h2⟩
  · obtain ⟨q, us, h1, h2, h3, _⟩ := r.ow i pm es e
    exact ⟨q, us, h1, NewH.upd np _ _ h2, mvA h3⟩
theorem Frs.dv {ds : List PD} (r : Frs K S σ n H p (.l ds)) : Dv K H (AV S σ n) (.ref p) (.list ds) := by
  obtain ⟨o, h1, h2⟩ := r.av
  obtain ⟨vs, rfl, h2⟩ := h2.lst
  exact .lst (.inl ⟨.inl h1, r.nav⟩) (h2.weak fun a z => .inl z)
theorem Stp.setOw {σ0 : Sg} {n0 : Nv} {H0 : Hp} (st : Stp σ0 n0 H0 σ n H) (np : H0 p = none) (hf : Fre n i) : Stp σ0 n0 H0 (σ.set i (some (.ref p))) (n.set i (.ow false ds)) H where
  ext := st.ext
  own := fun a h => (own_setO a h).elim (st.own a) fun q => .inr (q ▸ np)
  dom := st.dom
  pmk := fun j es h => by
    obtain ⟨e, fs, h1⟩ := st.pmk j es h
    have q : i ≠ j := fun z => by subst z; exact hf fs h1
    rw [get_set_ne q, get_set_ne q]
    exact ⟨e, fs, h1⟩
theorem Rel.setOw (r : Frs K S σ n H p ds) : Rel K S H (σ.set i (some (.ref p))) (n.set i (.ow false ds)) where
  len := by simp [r.rel.len]
  im := fun j d h => by
    by_cases q : i = j
    · subst q
      exact nomatch (get_set_at h).1
    · rw [get_set_ne q] at h
      obtain ⟨v, h1, h2⟩ := r.imn j d h
      exact ⟨v, by rw [get_set_ne q]; exact h1, h2.weak fun a z => z.elim (fun q => .inl (.inl q)) fun q => (own_setO a q).elim (fun z => .inl (.inr z)) .inr⟩
  ow := fun j pm es h => by
    by_cases q : i = j
    · subst q
      obtain ⟨e, hl⟩ := get_set_at h
      cases e
      obtain ⟨vs, h1, h2⟩ := r.av
      exact ⟨p, vs, by rw [List.getElem?_set_self (by rw [← r.rel.len]; exact hl)], h1, h2.weak fun a z => z.elim (fun q => .inl (.inl q)) fun q => (own_setO a q).elim (fun z => .inl (.inr z)) .inr, fun _ z => r.nav (.inl z)⟩
    · rw [get_set_ne q] at h
      obtain ⟨p', vs, h1, h2, h3⟩ := r.own j pm es h
      obtain ⟨p2, vs2, g1, g2, g3, g4⟩ := r.rel.ow j pm es h
      rw [h1] at g1
      cases g1
      exact ⟨p', vs, by rw [get_set_ne q]; exact h1, h2, h3.weak fun a z => z.elim (fun q => .inl (.inl q)) fun q => (own_setO a q).elim (fun z => .inl (.inr z)) .inr, g4⟩
  inj := fun j k pm qm ds' es p' h1 h2 h3 h4 => by
    by_cases q : i = j
    · subst q
      by_cases q2 : i = k
      · exact q2
      · rw [get_set_ne q2] at h2 h4
        have z := (get_set_at h3).1
        cases z
        exact (r.nav (.inr ⟨k, qm, es, h2, h4⟩)).elim
    · by_cases q2 : i = k
      · subst q2
        rw [get_set_ne q] at h1 h3
        have z := (get_set_at h4).1
        cases z
        exact (r.nav (.inr ⟨j, pm, ds', h1, h3⟩)).elim
      · rw [get_set_ne q] at h1 h3
        rw [get_set_ne q2] at h2 h4
        exact r.rel.inj j k pm qm ds' es p' h1 h2 h3 h4
  trk := r.rel.trk
end
end Dl
set_option Elab.async false
set_option linter.all false
set_option maxRecDepth 100000
namespace Dl
open PySem PySem.Spec PyProof.Rows L2
structure Er where
  nm : Str
  fs : List (Str × PD)
inductive Ar where | d (x : PD) | o (i : Nat)
abbrev Rs (α : Type) := Option (Except (Er × Nv) (α × Nv))
def bnd {α β : Type} (r : Rs α) (k : α → Nv → Rs β) : Rs β := match r with
  | none => none
  | some (.error e) => some (.error e)
  | some (.ok (a, n)) => k a n
def ret {α : Type} (a : α) (n : Nv) : Rs α := some (.ok (a, n))
def lft {α β : Type} (x : Option α) (k : α → Rs β) : Rs β := match x with
  | none => none
  | some a => k a
@[simp] theorem bnd_ret {α β : Type} {a : α} {n : Nv} {k : α → Nv → Rs β} : bnd (ret a n) k = k a n := (rfl)
@[simp] theorem bnd_none {α β : Type} {k : α → Nv → Rs β} : bnd none k = none := (rfl)
@[simp] theorem bnd_err {α β : Type} {e : Er × Nv} {k : α → Nv → Rs β} : bnd (some (.error e)) k = some (.error e) := (rfl)
@[simp] theorem lft_some {α β : Type} {a : α} {k : α → Rs β} : lft (some a) k = k a := (rfl)
@[simp] theorem lft_none {α β : Type} {k : α → Rs β} : lft none k = none := (rfl)
structure Cz where
  K : PySem.W.Frag
  cl : Str → Option Value
  E : Sg → XK
def ErrV (c : Cz) (H : Hp) (A : AS) (e : Er) (C : Value) (od : Option Addr) : Prop :=
  c.cl e.nm = some C ∧ ∃ (d : Addr) (vs : List (Str × V)), od = some d ∧ H d = some (.xd vs) ∧ vs.map (·.1) = e.fs.map (·.1) ∧ DvA c.K H A (vs.map (·.2)) (e.fs.map (·.2))
def Rz (c : Cz) (S : AS) (σ : Sg) (n : Nv) (H : Hp) (e : Er) : Prop :=
  ∀ C od H', (∀ a o, ¬ Own σ n a → H a = some o → H' a = some o) → (∀ a, H a ≠ none → H' a ≠ none) → ErrV c H' (AV S σ n) e C od → c.E σ C od H'
def Knd (n n' : Nv) : Prop := ∀ (i : Nat) (pm : Bool) (ds : Ct), n[i]? = some (.ow pm ds) → ∃ es, n'[i]? = some (.ow pm es)
theorem Knd.refl {n : Nv} : Knd n n := fun _ _ ds h => ⟨ds, h⟩
theorem Knd.trans {n n1 n2 : Nv} (a : Knd n n1) (b : Knd n1 n2) : Knd n n2 := fun i pm ds h => let ⟨_, h1⟩ := a i pm ds h; b i pm _ h1
theorem ErrV.weak {c : Cz} {H : Hp} {A A' : AS} {e : Er} {C od} (h : ErrV c H A e C od) (s : ∀ a, A' a → A a) : ErrV c H A' e C od :=
  let ⟨h1, d, vs, h2, h3, h4, h5⟩ := h
  ⟨h1, d, vs, h2, h3, h4, h5.weak s⟩
theorem Rz.move {c : Cz} {S : AS} {σ σ' : Sg} {n n' : Nv} {H H' : Hp} {e : Er} (hE : c.E σ' = c.E σ) (st : Stp σ n H σ' n' H') (sub : ∀ a, AV S σ n a → AV S σ' n' a) (h : Rz c S σ n H e) : Rz c S σ' n' H' e := fun C od H2 x d z => by
  rw [hE]
  exact h C od H2 (fun a o na ha => x a o (fun q => (st.own a q).elim na fun w => by rw [w] at ha; cases ha) (st.ext a o na ha)) (fun a ha => d a (st.dom a ha)) (z.weak sub)
def OkG {α β : Type} (c : Cz) (S : AS) (W : Nv → Hp → β → α → Prop) (r : Rs α) (σ : Sg) (n : Nv) (H : Hp) (Q : β → Hp → Prop) : Prop := match r with
  | none => False
  | some (.error (e, n')) => ∀ H', Stp σ n H σ n' H' → Knd n n' → Rel c.K S H' σ n' → Rz c S σ n' H' e
  | some (.ok (a, n')) => ∀ v H', Stp σ n H σ n' H' → Knd n n' → Rel c.K S H' σ n' → W n' H' v a → Q v H'
section
variable {α β γ δ : Type} {c : Cz} {S : AS} {W : Nv → Hp → β → α → Prop} {W2 : Nv → Hp → δ → γ → Prop} {σ : Sg} {n n1 : Nv} {H H1 : Hp} {r : Rs α} {k : α → Nv → Rs γ}
theorem OkG.move {Q : β → Hp → Prop} (st : Stp σ n H σ n1 H1) (kn : Knd n n1) (h : OkG c S W r σ n H Q) : OkG c S W r σ n1 H1 Q := by
  match r, h with
  | some (.error (e, n')), h => exact fun H' s k2 R => h H' (st.trans s) (kn.trans k2) R
  | some (.ok (a, n')), h => exact fun v H' s k2 R w => h v H' (st.trans s) (kn.trans k2) R w
theorem OkG.bind {Q : β → Hp → Prop} {Q2 : δ → Hp → Prop} (h : OkG c S W2 (bnd r k) σ n H Q2)
    (f : ∀ v a n1 H1, Stp σ n H σ n1 H1 → Knd n n1 → Rel c.K S H1 σ n1 → W n1 H1 v a → OkG c S W2 (k a n1) σ n1 H1 Q2 → Q v H1) : OkG c S W r σ n H Q := by
  match r, h with
  | some (.error e), h => exact h
  | some (.ok (a, n')), h => exact fun v H' s k2 R w => f v a n' H' s k2 R w (OkG.move s k2 h)
theorem OkG.ret {a : α} {Q : β → Hp → Prop} (h : OkG c S W (ret a n) σ n H Q) {v : β} {H' : Hp} (g : NewH H H') (R : Rel c.K S H' σ n) (w : W n H' v a) : Q v H' := h v H' (.grown g) .refl R w
theorem OkG.lft {x : Option α} {k : α → Rs γ} {Q2 : δ → Hp → Prop} (h : OkG c S W2 (lft x k) σ n H Q2) : ∃ a, x = some a ∧ OkG c S W2 (k a) σ n H Q2 := by
  cases x with
  | none => exact h.elim
  | some a => exact ⟨a, rfl, h⟩
end
def ArV (K : PySem.W.Frag) (S : AS) (σ : Sg) (n : Nv) (H : Hp) (v : V) : Ar → Prop
  | .d x => Dv K H (AV S σ n) v x
  | .o i => σ[i]? = some (some v) ∧ ∃ pm ds, n[i]? = some (.ow pm ds)
def ArD (n : Nv) : Ar → Option PD
  | .d x => some x
  | .o i => match n[i]? with
    | some (.ow _ (.l ds)) => some (.list ds)
    | _ => none
@[simp] theorem ArD_d {n : Nv} {x : PD} : ArD n (.d x) = some x := (rfl)
inductive ArVs (K : PySem.W.Frag) (S : AS) (σ : Sg) (n : Nv) (H : Hp) : List V → List Ar → Prop
  | nil : ArVs K S σ n H [] []
  | cons {v vs a as} : ArV K S σ n H v a → ArVs K S σ n H vs as → ArVs K S σ n H (v :: vs) (a :: as)
def Dw (K : PySem.W.Frag) (H : Hp) (A : AS) (v : V) (d : PD) : Prop :=
  Dv K H A v d ∨ ∃ p vs ds, v = .ref p ∧ d = .list ds ∧ H p = some (.lst vs) ∧ DvA K H A vs ds
section
variable {K : PySem.W.Frag} {S : AS} {H H1 : Hp} {σ : Sg} {n n1 : Nv} {A : AS} {v : V} {d : PD}
theorem ArV.move (st : Stp σ n H σ n1 H1) (kn : Knd n n1) : ∀ {a : Ar}, ArV K S σ n H v a → ArV K S σ n1 H1 v a
  | .d _, h => st.dv h
  | .o _, ⟨h1, pm, ds, h2⟩ => ⟨h1, pm, kn _ _ _ h2⟩
theorem ArVs.move (st : Stp σ n H σ n1 H1) (kn : Knd n n1) : ∀ {vs : List V} {as : List Ar}, ArVs K S σ n H vs as → ArVs K S σ n1 H1 vs as
  | _, _, .nil => .nil
  | _, _, .cons h t => .cons (h.move st kn) (ArVs.move st kn t)
theorem ArV.dw (R : Rel K S H σ n) : ∀ {a : Ar}, ArV K S σ n H v a → ArD n a = some d → Dw K H (AV S σ n) v d
  | .d x, h, e => by cases e; exact .inl h
  | .o i, ⟨h1, pm, ds, h2⟩, e => by
    unfold ArD at e
    simp only [h2] at e
    cases ds with
    | m _ => cases e
    | l ds =>
      cases e
      obtain ⟨p, o, e1, e2, e3, _⟩ := R.ow i pm _ h2
      obtain ⟨vs, rfl, e3⟩ := e3.lst
      rw [h1] at e1
      cases e1
      exact .inr ⟨p, vs, ds, rfl, rfl, e2, e3⟩
theorem Dw.dp (h : Dw K H A v d) : Dp K H v d := by
  rcases h with h | ⟨p, vs, ds, rfl, rfl, h, t⟩
  · exact h.dp
  · exact .lst (.inl (.inl h)) t.dp
theorem Dw.lst {ds : List PD} (h : Dw K H A v (.list ds)) : ∃ p vs, v = .ref p ∧ SqL K H p vs ∧ DvA K H A vs ds := by
  rcases h with h | ⟨p, vs, ds', rfl, e, h, t⟩
  · cases h with
    | lst h t => exact ⟨_, _, rfl, h.sq, t⟩
  · cases e
    exact ⟨_, _, rfl, .inl (.inl h), t⟩
theorem Dw.tup {ds : List PD} (h : Dw K H A v (.tuple ds)) : ∃ p vs, v = .ref p ∧ SqT K H p vs ∧ DvA K H A vs ds := by
  rcases h with h | ⟨p, vs, ds', rfl, e, h, t⟩
  · cases h with
    | tup h t => exact ⟨_, _, rfl, h.sq, t⟩
  · cases e
theorem Dw.int {i : Int} (h : Dw K H A v (.int i)) : v = .int i := by
  rcases h with h | ⟨p, vs, ds', rfl, e, h, t⟩
  · cases h; rfl
  · cases e
theorem Dw.bl {i : Bool} (h : Dw K H A v (.bool i)) : v = .bl i := by
  rcases h with h | ⟨p, vs, ds', rfl, e, h, t⟩
  · cases h; rfl
  · cases e
theorem Dw.str {i : Str} (h : Dw K H A v (.str i)) : v = .str i := by
  rcases h with h | ⟨p, vs, ds', rfl, e, h, t⟩
  · cases h; rfl
  · cases e
theorem Dw.non (h : Dw K H A v .none) : v = .non := by
  rcases h with h | ⟨p, vs, ds', rfl, e, h, t⟩
  · cases h; rfl
  · cases e
theorem Dv.isNone (h : Dv K H A v d) : decide (v = .non) = match d with | .none => true | _ => false := by cases h <;> simp
end
def DE (c : Cz) (t : TE) (f : Nv → Rs Ar) : Prop := ∀ S σ H n Q, Rel c.K S H σ n → OkG c S (fun n' H' v a => ArV c.K S σ n' H' v a) (f n) σ n H Q → t σ H Q
def DT (c : Cz) (t : TT) (f : Nv → Rs Bool) : Prop := ∀ S σ H n Q, Rel c.K S H σ n → OkG c S (fun _ _ (v : Bool) a => v = a) (f n) σ n H Q → t σ H Q
def DA (c : Cz) (t : TA) (f : Nv → Rs (List Ar)) : Prop := ∀ S σ H n Q, Rel c.K S H σ n → OkG c S (fun n' H' v a => ArVs c.K S σ n' H' v a) (f n) σ n H Q → t σ H Q
def DO (c : Cz) (t : TE) (f : Nv → Rs (List PD)) : Prop := ∀ S σ H n Q, Rel c.K S H σ n →
  OkG c S (fun n' H' v ds => ∃ p, v = .ref p ∧ H p = none ∧ Frs c.K S σ n' H' p (.l ds)) (f n) σ n H Q → t σ H Q
section
variable {c : Cz} {t ta tb tc : TE} {fa fb fc : Nv → Rs Ar}
def eC (x : PD) : Nv → Rs Ar := fun n => ret (.d x) n
def eV (i : Nat) : Nv → Rs Ar := fun n => match n[i]? with
  | some (.im d) => ret (.d d) n
  | some (.ow _ _) => ret (.o i) n
  | _ => none
theorem de_var {i : Nat} : DE c (tVar i) (eV i) := fun S σ H n Q R h => by
  unfold eV at h
  split at h
  · rename_i d e
    obtain ⟨v, e1, hv⟩ := R.im _ _ e
    exact ⟨v, e1, h.ret .refl R hv⟩
  · rename_i pm ds e
    obtain ⟨p, vs, e1, _⟩ := R.ow _ _ _ e
    exact ⟨_, e1, h.ret .refl R ⟨e1, pm, ds, e⟩⟩
  · exact h.elim
theorem de_int {i : Int} : DE c (tC (.int i)) (eC (.int i)) := fun S σ H n Q R h => h.ret .refl R (.int i)
theorem de_bl {i : Bool} : DE c (tC (.bl i)) (eC (.bool i)) := fun S σ H n Q R h => h.ret .refl R (.bl i)
theorem de_non : DE c (tC .non) (eC .none) := fun S σ H n Q R h => h.ret .refl R .non
theorem de_str {i : Str} : DE c (tC (.str i)) (eC (.str i)) := fun S σ H n Q R h => h.ret .refl R (.str i)
theorem de_glob {v : V} {d : PD} (h : ∀ H A, Dv c.K H A v d) : DE c (tC v) (eC d) := fun S σ H n Q R q => q.ret .refl R (h _ _)
def BopOk (K : PySem.W.Frag) (r : R2) (g : PD → PD → Option PD) : Prop := ∀ (A : AS) (H : Hp) (Q : VK) (x y : V) (dx dy d : PD), (∀ a, A a → H a ≠ none) → Dw K H A x dx → Dw K H A y dy → g dx dy = some d →
  (∀ v H', NewH H H' → Dv K H' A v d → Q v H') → r x y H Q
theorem BopOk.or {K r r' g g'} (h : BopOk K r g) (h' : BopOk K r' g') : BopOk K (fun x y H Q => r x y H Q ∨ r' x y H Q) (fun a b => (g a b).or (g' a b)) := fun A H Q x y dx dy d na wx wy e k => by
  dsimp only at e
  cases q : g dx dy with
  | some z =>
    rw [q] at e
    exact .inl (h A H Q x y dx dy d na wx wy (by rw [q]; exact e) k)
  | none =>
    rw [q] at e
    exact .inr (h' A H Q x y dx dy d na wx wy e k)
def eBin (g : PD → PD → Option PD) (fa fb : Nv → Rs Ar) : Nv → Rs Ar := fun n => bnd (fa n) fun a n1 => bnd (fb n1) fun b n2 =>
  lft (ArD n2 a) fun x => lft (ArD n2 b) fun y => lft (g x y) fun d => ret (.d d) n2
theorem de_bin {r : R2} {g : PD → PD → Option PD} (hr : BopOk c.K r g) (ha : DE c ta fa) (hb : DE c tb fb) : DE c (tOp r ta tb) (eBin g fa fb) := fun S σ H n Q R h => by
  refine ha S σ H n _ R (OkG.bind h fun v a n1 H1 s1 k1 R1 va h1 => ?_)
  refine hb S σ H1 n1 _ R1 (OkG.bind h1 fun u b n2 H2 s2 k2 R2' vb h2 => ?_)
  obtain ⟨x, ex, h2⟩ := h2.lft
  obtain ⟨y, ey, h2⟩ := h2.lft
  obtain ⟨d, ed, h2⟩ := h2.lft
  exact hr (AV S σ n2) H2 Q v u x y d R2'.avSome (ArV.dw R2' (va.move s2 k2) ex) (ArV.dw R2' vb ey) ed fun v' H' g' hv => h2.ret g' (R2'.ext g') hv
def UopOk (K : PySem.W.Frag) (r : V → Hp → VK → Prop) (g : PD → Option PD) : Prop := ∀ (A : AS) (H : Hp) (Q : VK) (x : V) (dx d : PD), (∀ a, A a → H a ≠ none) → Dw K H A x dx → g dx = some d →
  (∀ v H', NewH H H' → Dv K H' A v d → Q v H') → r x H Q
def eUn (g : PD → Option PD) (fa : Nv → Rs Ar) : Nv → Rs Ar := fun n => bnd (fa n) fun a n1 => lft (ArD n1 a) fun x => lft (g x) fun d => ret (.d d) n1
theorem de_un {r : V → Hp → VK → Prop} {g : PD → Option PD} (hr : UopOk c.K r g) (ha : DE c ta fa) : DE c (tUn r ta) (eUn g fa) := fun S σ H n Q R h => by
  refine ha S σ H n _ R (OkG.bind h fun v a n1 H1 s1 k1 R1 va h1 => ?_)
  obtain ⟨x, ex, h2⟩ := h1.lft
  obtain ⟨d, ed, h2⟩ := h2.lft
  exact hr (AV S σ n1) H1 Q v x d R1.avSome (ArV.dw R1 va ex) ed fun v' H' g' hv => h2.ret g' (R1.ext g') hv
def aNil : Nv → Rs (List Ar) := fun n => ret [] n
def aCons (fa : Nv → Rs Ar) (fr : Nv → Rs (List Ar)) : Nv → Rs (List Ar) := fun n => bnd (fa n) fun a n1 => bnd (fr n1) fun as n2 => ret (a :: as) n2
theorem da_nil : DA c tNil aNil := fun S σ H n Q R h => h.ret .refl R .nil
theorem da_cons {tr : TA} {fr : Nv → Rs (List Ar)} (ha : DE c ta fa) (hr : DA c tr fr) : DA c (tCons ta tr) (aCons fa fr) := fun S σ H n Q R h => by
  refine ha S σ H n _ R (OkG.bind h fun v a n1 H1 s1 k1 R1 va h1 => ?_)
  refine hr S σ H1 n1 _ R1 (OkG.bind h1 fun vs as n2 H2 s2 k2 R2' vr h2 => ?_)
  exact h2.ret .refl R2' (.cons (va.move s2 k2) vr)
def ArDs (n : Nv) (as : List Ar) : Option (List PD) := as.mapM (ArD n)
def ArI : List Ar → Option (List PD)
  | [] => some []
  | .d x :: r => (ArI r).map (x :: ·)
  | .o _ :: _ => none
@[simp] theorem ArI_nil : ArI [] = some [] := (rfl)
@[simp] theorem ArI_cons {x : PD} {r : List Ar} : ArI (.d x :: r) = (ArI r).map (x :: ·) := (rfl)
theorem ArVs.dvA {K S σ n H} : ∀ {vs : List V} {as : List Ar} {ds : List PD}, ArVs K S σ n H vs as → ArI as = some ds → DvA K H (AV S σ n) vs ds
  | _, _, ds, .nil, e => by cases e; exact .nil
  | _, _, ds, .cons (a := .d x) h t, e => by
    rw [ArI_cons] at e
    obtain ⟨r, e1, e2⟩ := Option.map_eq_some_iff.mp e
    subst e2
    exact .cons h (ArVs.dvA t e1)
  | _, _, ds, .cons (a := .o i) h t, e => by cases e
inductive Dws (K : PySem.W.Frag) (H : Hp) (A : AS) : List V → List PD → Prop
  | nil : Dws K H A [] []
  | cons {v vs d ds} : Dw K H A v d → Dws K H A vs ds → Dws K H A (v :: vs) (d :: ds)
theorem ArDs_nil {n : Nv} : ArDs n [] = some [] := rfl
theorem ArDs_cons {n : Nv} {a : Ar} {as : List Ar} : ArDs n (a :: as) = (ArD n a).bind fun x => (ArDs n as).bind fun xs => some (x :: xs) := by
  unfold ArDs
  rw [List.mapM_cons]
  rfl
theorem ArVs.dws {K S σ n H} (R : Rel K S H σ n) : ∀ {vs : List V} {as : List Ar} {ds : List PD}, ArVs K S σ n H vs as → ArDs n as = some ds → Dws K H (AV S σ n) vs ds
  | _, _, ds, .nil, e => by cases e; exact .nil
  | _, _, ds, .cons h t, e => by
    rw [ArDs_cons] at e
    obtain ⟨x, e1, e⟩ := Option.bind_eq_some_iff.mp e
    obtain ⟨xs, e2, e⟩ := Option.bind_eq_some_iff.mp e
    cases e
    exact .cons (ArV.dw R h e1) (ArVs.dws R t e2)
def lineB (n : Nat) : Bool := decide (n ≤ sizeLine)
def eTup (fr : Nv → Rs (List Ar)) : Nv → Rs Ar := fun n => bnd (fr n) fun as n1 => lft (ArI as) fun ds => if lineB ds.length = true then ret (.d (.tuple ds)) n1 else none
theorem de_tup {tr : TA} {fr : Nv → Rs (List Ar)} (hr : DA c tr fr) : DE c (tTup tr) (eTup fr) := fun S σ H n Q R h => by
  refine hr S σ H n _ R (OkG.bind h fun vs as n1 H1 s1 k1 R1 va h1 => ?_)
  obtain ⟨ds, e, h1⟩ := h1.lft
  have w := va.dvA e
  split at h1
  · rename_i q
    refine ⟨by rw [w.len]; exact of_decide_eq_true q, fun p np => h1.ret (.upd np) (R1.new np) ?_⟩
    exact .tup (.inl ⟨.inl upd_same, R1.nav np⟩) (w.mono (S := fun _ => False) (Ext.new np) (fun _ z => z.elim) fun _ z => .inl z)
  · exact h1.elim
def oLst (fr : Nv → Rs (List Ar)) : Nv → Rs (List PD) := fun n => bnd (fr n) fun as n1 => lft (ArI as) fun ds => if lineB ds.length = true then ret ds n1 else none
theorem do_lst {tr : TA} {fr : Nv → Rs (List Ar)} (hr : DA c tr fr) : DO c (tLst tr) (oLst fr) := fun S σ H n Q R h => by
  refine hr S σ H n _ R (OkG.bind h fun vs as n1 H1 s1 k1 R1 va h1 => ?_)
  obtain ⟨ds, e, h1⟩ := h1.lft
  have w := va.dvA e
  split at h1
  · rename_i q
    refine ⟨by rw [w.len]; exact of_decide_eq_true q, fun p np => h1.ret (.upd np) (R1.new np) ⟨p, rfl, s1.non np, .new R1 np w⟩⟩
  · exact h1.elim
end
end Dl
set_option Elab.async false
set_option linter.all false
set_option maxRecDepth 100000
namespace Dl
open PySem PySem.Spec PyProof.Rows L2
section
variable {c : Cz} {t ta tb : TE} {fa fb : Nv → Rs Ar} {tt uu : TT} {ft fu : Nv → Rs Bool}
def arB (n : Nv) (a : Ar) : Option Bool := match a with
  | .d (.bool b) => some b
  | _ => none
@[simp] theorem arB_d {n : Nv} {b : Bool} : arB n (.d (.bool b)) = some b := (rfl)
theorem ArV.bool {K S σ n H v b} {a : Ar} (h : ArV K S σ n H v a) (e : arB n a = some b) : v = .bl b := by
  cases a with
  | o i => cases e
  | d x =>
    cases x with
    | bool b' => cases e; cases h; rfl
    | _ => cases e
def tVal (fa : Nv → Rs Ar) : Nv → Rs Bool := fun n => bnd (fa n) fun a n1 => lft (arB n1 a) fun b => ret b n1
theorem dt_val (ha : DE c ta fa) : DT c (tB ta) (tVal fa) := fun S σ H n Q R h => by
  refine ha S σ H n _ R (OkG.bind h fun v a n1 H1 s1 k1 R1 va h1 => ?_)
  obtain ⟨b, e, h1⟩ := h1.lft
  exact ⟨b, va.bool e, h1.ret .refl R1 rfl⟩
theorem dt_test (ha : DE c ta fa) : DT c (tTest ta) (tVal fa) := dt_val ha
def tAndF (f g : Nv → Rs Bool) : Nv → Rs Bool := fun n => bnd (f n) fun b n1 => if b = true then g n1 else ret false n1
def tOrF (f g : Nv → Rs Bool) : Nv → Rs Bool := fun n => bnd (f n) fun b n1 => if b = true then ret true n1 else g n1
def tNotF (f : Nv → Rs Bool) : Nv → Rs Bool := fun n => bnd (f n) fun b n1 => ret (!b) n1
theorem dt_and (h1 : DT c tt ft) (h2 : DT c uu fu) : DT c (tAnd tt uu) (tAndF ft fu) := fun S σ H n Q R h => by
  refine h1 S σ H n _ R (OkG.bind h fun v a n1 H1 s1 k1 R1 va h1 => ?_)
  subst va
  cases v with
  | true => exact h2 S σ H1 n1 _ R1 h1
  | false => exact h1.ret .refl R1 rfl
theorem dt_or (h1 : DT c tt ft) (h2 : DT c uu fu) : DT c (tOr tt uu) (tOrF ft fu) := fun S σ H n Q R h => by
  refine h1 S σ H n _ R (OkG.bind h fun v a n1 H1 s1 k1 R1 va h1 => ?_)
  subst va
  cases v with
  | true => exact h1.ret .refl R1 rfl
  | false => exact h2 S σ H1 n1 _ R1 h1
theorem dt_not (h1 : DT c tt ft) : DT c (tNot tt) (tNotF ft) := fun S σ H n Q R h => by
  refine h1 S σ H n _ R (OkG.bind h fun v a n1 H1 s1 k1 R1 va h1 => ?_)
  subst va
  exact h1.ret .refl R1 rfl
def eAnd (f g : Nv → Rs Ar) : Nv → Rs Ar := fun n => bnd (f n) fun a n1 => lft (arB n1 a) fun b => if b = true then g n1 else ret (.d (.bool false)) n1
def eOr (f g : Nv → Rs Ar) : Nv → Rs Ar := fun n => bnd (f n) fun a n1 => lft (arB n1 a) fun b => if b = true then ret (.d (.bool true)) n1 else g n1
def eNot (f : Nv → Rs Ar) : Nv → Rs Ar := fun n => bnd (f n) fun a n1 => lft (arB n1 a) fun b => ret (.d (.bool (!b))) n1
def eIf (ft : Nv → Rs Bool) (f g : Nv → Rs Ar) : Nv → Rs Ar := fun n => bnd (ft n) fun b n1 => if b = true then f n1 else g n1
theorem de_and (h1 : DE c ta fa) (h2 : DE c tb fb) : DE c (tAndV ta tb) (eAnd fa fb) := fun S σ H n Q R h => by
  refine h1 S σ H n _ R (OkG.bind h fun v a n1 H1 s1 k1 R1 va h1 => ?_)
  obtain ⟨b, e, h1⟩ := h1.lft
  refine ⟨b, va.bool e, ?_⟩
  cases b with
  | true => exact h2 S σ H1 n1 _ R1 h1
  | false => exact h1.ret .refl R1 (Dv.bl _)
theorem de_or (h1 : DE c ta fa) (h2 : DE c tb fb) : DE c (tOrV ta tb) (eOr fa fb) := fun S σ H n Q R h => by
  refine h1 S σ H n _ R (OkG.bind h fun v a n1 H1 s1 k1 R1 va h1 => ?_)
  obtain ⟨b, e, h1⟩ := h1.lft
  refine ⟨b, va.bool e, ?_⟩
  cases b with
  | true => exact h1.ret .refl R1 (Dv.bl _)
  | false => exact h2 S σ H1 n1 _ R1 h1
theorem de_not (h1 : DE c ta fa) : DE c (tNotV ta) (eNot fa) := fun S σ H n Q R h => by
  refine h1 S σ H n _ R (OkG.bind h fun v a n1 H1 s1 k1 R1 va h1 => ?_)
  obtain ⟨b, e, h1⟩ := h1.lft
  exact ⟨b, va.bool e, h1.ret .refl R1 (Dv.bl _)⟩
theorem de_if (h0 : DT c tt ft) (h1 : DE c ta fa) (h2 : DE c tb fb) : DE c (tIf tt ta tb) (eIf ft fa fb) := fun S σ H n Q R h => by
  refine h0 S σ H n _ R (OkG.bind h fun v a n1 H1 s1 k1 R1 va h3 => ?_)
  subst va
  cases v with
  | true => exact h1 S σ H1 n1 _ R1 h3
  | false => exact h2 S σ H1 n1 _ R1 h3
def gIsN : PD → Bool | .none => true | _ => false
def eIsN (neg : Bool) (f : Nv → Rs Ar) : Nv → Rs Ar := fun n => bnd (f n) fun a n1 => lft (ArI [a]) fun ds => ret (.d (.bool (xor neg (ds.any gIsN)))) n1
theorem Dv.gIsN {K H A v d} (h : Dv K H A v d) : decide (v = .non) = Dl.gIsN d := by cases h <;> simp [Dl.gIsN]
theorem arI1 {K S σ n H v a ds} (h : ArV K S σ n H v a) (e : ArI [a] = some ds) : ∃ d, a = .d d ∧ ds = [d] ∧ Dv K H (AV S σ n) v d := by
  cases a with
  | d x => cases e; exact ⟨x, rfl, rfl, h⟩
  | o i => cases e
theorem de_isN (h1 : DE c ta fa) : DE c (tIsN ta) (eIsN false fa) := fun S σ H n Q R h => by
  refine h1 S σ H n _ R (OkG.bind h fun v a n1 H1 s1 k1 R1 va h1 => ?_)
  obtain ⟨ds, e, h1⟩ := h1.lft
  obtain ⟨d, rfl, rfl, w⟩ := arI1 va e
  refine h1.ret .refl R1 ?_
  rw [w.gIsN]
  simp
  exact Dv.bl _
theorem de_notN (h1 : DE c ta fa) : DE c (tNotN ta) (eIsN true fa) := fun S σ H n Q R h => by
  refine h1 S σ H n _ R (OkG.bind h fun v a n1 H1 s1 k1 R1 va h1 => ?_)
  obtain ⟨ds, e, h1⟩ := h1.lft
  obtain ⟨d, rfl, rfl, w⟩ := arI1 va e
  refine h1.ret .refl R1 ?_
  rw [w.gIsN]
  simp
  exact Dv.bl _
end
inductive Rv where | d (x : PD) | l (ds : List PD)
inductive Oc where | nx | bk | ct | rt (r : Rv)
abbrev RS := Option (Except (Er × Nv) (Oc × Nv))
def RvV (K : PySem.W.Frag) (S : AS) (σ : Sg) (n : Nv) (H : Hp) (fr : Addr → Prop) (v : V) : Rv → Prop
  | .d x => Dv K H (AV S σ n) v x
  | .l ds => ∃ p vs, v = .ref p ∧ fr p ∧ H p = some (.lst vs) ∧ DvA K H (AV S σ n) vs ds ∧ Own σ n p
def Ent (S : AS) (H0 : Hp) (σ : Sg) (n : Nv) (H : Hp) : Prop := ∃ (σ0 : Sg) (n0 : Nv), (∀ a, Own σ0 n0 a → S a) ∧ Stp σ0 n0 H0 σ n H
theorem Ent.trans {S H0 H H1 σ σ1 n n1} (e : Ent S H0 σ n H) (s : Stp σ n H σ1 n1 H1) : Ent S H0 σ1 n1 H1 := let ⟨σ0, n0, h, t⟩ := e; ⟨σ0, n0, h, t.trans s⟩
def OkS (c : Cz) (S : AS) (H0 : Hp) (r : RS) (σ : Sg) (n : Nv) (H : Hp) (D : Ends) : Prop := match r with
  | none => False
  | some (.error (e, n')) => ∀ σ' H', Stp σ n H σ' n' H' → Rel c.K S H' σ' n' → Rz c S σ' n' H' e
  | some (.ok (.nx, n')) => ∀ σ' H', Stp σ n H σ' n' H' → Rel c.K S H' σ' n' → D.nx σ' H'
  | some (.ok (.bk, n')) => ∀ σ' H', Stp σ n H σ' n' H' → Rel c.K S H' σ' n' → D.bk σ' H'
  | some (.ok (.ct, n')) => ∀ σ' H', Stp σ n H σ' n' H' → Rel c.K S H' σ' n' → D.ct σ' H'
  | some (.ok (.rt x, n')) => ∀ v σ' H', Stp σ n H σ' n' H' → Rel c.K S H' σ' n' → RvV c.K S σ' n' H' (fun p => H0 p = none) v x → D.rt v H'
def DS (c : Cz) (t : TS) (f : Nv → RS) : Prop := ∀ S H0 σ H n D, Rel c.K S H σ n → Ent S H0 σ n H → OkS c S H0 (f n) σ n H D → t D σ H
def sbn {α : Type} (r : Rs α) (k : α → Nv → RS) : RS := match r with
  | none => none
  | some (.error e) => some (.error e)
  | some (.ok (a, n)) => k a n
@[simp] theorem sbn_ret {α : Type} {a : α} {n : Nv} {k : α → Nv → RS} : sbn (ret a n) k = k a n := (rfl)
@[simp] theorem sbn_none {α : Type} {k : α → Nv → RS} : sbn none k = none := (rfl)
@[simp] theorem sbn_err {α : Type} {e : Er × Nv} {k : α → Nv → RS} : sbn (some (.error e)) k = some (.error e) := (rfl)
def nxt (n : Nv) : RS := some (.ok (.nx, n))
section
variable {c : Cz} {S : AS} {H0 H H1 : Hp} {σ σ1 : Sg} {n n1 : Nv} {r : RS} {D D' : Ends}
theorem OkS.move (st : Stp σ n H σ1 n1 H1) (h : OkS c S H0 r σ n H D) : OkS c S H0 r σ1 n1 H1 D := by
  match r, h with
  | some (.error (e, n')), h => exact fun σ' H' s R => h σ' H' (st.trans s) R
  | some (.ok (.nx, n')), h => exact fun σ' H' s R => h σ' H' (st.trans s) R
  | some (.ok (.bk, n')), h => exact fun σ' H' s R => h σ' H' (st.trans s) R
  | some (.ok (.ct, n')), h => exact fun σ' H' s R => h σ' H' (st.trans s) R
  | some (.ok (.rt x, n')), h => exact fun v σ' H' s R w => h v σ' H' (st.trans s) R w
theorem OkS.bind {α β : Type} {W : Nv → Hp → β → α → Prop} {q : Rs α} {k : α → Nv → RS} {Q : β → Hp → Prop} (h : OkS c S H0 (sbn q k) σ n H D)
    (f : ∀ v a n1 H1, Stp σ n H σ n1 H1 → Knd n n1 → Rel c.K S H1 σ n1 → W n1 H1 v a → OkS c S H0 (k a n1) σ n1 H1 D → Q v H1) : OkG c S W q σ n H Q := by
  match q, h with
  | some (.error (e, n')), h => exact fun H' s k2 R => h σ H' s R
  | some (.ok (a, n')), h => exact fun v H' s k2 R w => f v a n' H' s k2 R w (OkS.move s h)
theorem OkS.lft {α : Type} {x : Option α} {k : α → RS} (h : OkS c S H0 (match x with | none => none | some a => k a) σ n H D) : ∃ a, x = some a ∧ OkS c S H0 (k a) σ n H D := by
  cases x with
  | none => exact h.elim
  | some a => exact ⟨a, rfl, h⟩
end
def sNext : Nv → RS := nxt
def sSeq (f g : Nv → RS) : Nv → RS := fun n => match f n with
  | some (.ok (.nx, n')) => g n'
  | r => r
section
variable {c : Cz} {t u : TS} {f g : Nv → RS} {te : TE} {fe : Nv → Rs Ar} {tt : TT} {ft : Nv → Rs Bool}
theorem ds_next : DS c tNext sNext := fun S H0 σ H n D R hd h => h σ H .refl R
theorem ds_seq (h1 : DS c t f) (h2 : DS c u g) : DS c (tSeq t u) (sSeq f g) := fun S H0 σ H n D R hd h => by
  refine h1 S H0 σ H n { D with nx := u D } R hd ?_
  unfold sSeq at h
  match f n, h with
  | some (.error e), h => exact h
  | some (.ok (.nx, n')), h => exact fun σ' H' s R' => h2 S H0 σ' H' n' D R' (hd.trans s) (OkS.move s h)
  | some (.ok (.bk, n')), h => exact h
  | some (.ok (.ct, n')), h => exact h
  | some (.ok (.rt x, n')), h => exact h
def sBrk : Nv → RS := fun n => some (.ok (.bk, n))
def sCnt : Nv → RS := fun n => some (.ok (.ct, n))
theorem ds_brk : DS c tBreak sBrk := fun S H0 σ H n D R hd h => h σ H .refl R
theorem ds_cnt : DS c tCont sCnt := fun S H0 σ H n D R hd h => h σ H .refl R
def sExpr (fe : Nv → Rs Ar) : Nv → RS := fun n => sbn (fe n) fun _ n1 => nxt n1
theorem ds_expr (h1 : DE c te fe) : DS c (tDrop te) (sExpr fe) := fun S H0 σ H n D R hd h => by
  refine h1 S σ H n _ R (OkS.bind h fun v a n1 H1 s1 k1 R1 va h2 => ?_)
  exact h2 σ H1 .refl R1
def sIf (ft : Nv → Rs Bool) (f g : Nv → RS) : Nv → RS := fun n => sbn (ft n) fun b n1 => if b = true then f n1 else g n1
theorem ds_if (h0 : DT c tt ft) (h1 : DS c t f) (h2 : DS c u g) : DS c (tIfS tt t u) (sIf ft f g) := fun S H0 σ H n D R hd h => by
  refine h0 S σ H n _ R (OkS.bind h fun v a n1 H1 s1 k1 R1 va h3 => ?_)
  subst va
  cases v with
  | true => exact h1 S H0 σ H1 n1 D R1 (hd.trans s1) h3
  | false => exact h2 S H0 σ H1 n1 D R1 (hd.trans s1) h3
def sRet (fe : Nv → Rs Ar) : Nv → RS := fun n => sbn (fe n) fun a n1 => match a with
  | .d x => some (.ok (.rt (.d x), n1))
  | .o i => match n1[i]? with
    | some (.ow false (.l ds)) => some (.ok (.rt (.l ds), n1))
    | _ => none
theorem ds_ret (h1 : DE c te fe) : DS c (tRet te) (sRet fe) := fun S H0 σ H n D R hd h => by
  refine h1 S σ H n _ R (OkS.bind h fun v a n1 H1 s1 k1 R1 va h2 => ?_)
  cases a with
  | d x => exact h2 v σ H1 .refl R1 va
  | o i =>
    dsimp only at h2
    split at h2
    · rename_i ds e
      obtain ⟨p, o, e1, e2, e3, e4⟩ := R1.ow _ _ _ e
      obtain ⟨vs, rfl, e3⟩ := e3.lst
      rw [va.1] at e1
      cases e1
      obtain ⟨σ0, n0, q1, q2⟩ := hd.trans s1
      refine h2 _ σ H1 .refl R1 ⟨p, vs, rfl, ?_, e2, e3, i, false, _, e, va.1⟩
      rcases q2.own p ⟨i, false, _, e, va.1⟩ with z | z
      · exact (e4 rfl (q1 p z)).elim
      · exact z
    · exact h2.elim
theorem ds_retN : DS c tRetN (fun n => some (.ok (.rt (.d .none), n))) := fun S H0 σ H n D R hd h => h .non σ H .refl R .non
def free? (n : Nv) (i : Nat) : Bool := match n[i]? with
  | some (.ow true _) => false
  | _ => true
theorem free_of {n : Nv} {i : Nat} (h : free? n i = true) : Fre n i := fun ds e => by
  unfold free? at h
  rw [e] at h
  cases h
def sSet (i : Nat) (fe : Nv → Rs Ar) : Nv → RS := fun n => sbn (fe n) fun a n1 => match a with
  | .d x => if free? n1 i = true then nxt (n1.set i (.im x)) else none
  | .o _ => none
theorem ds_set {i : Nat} (h1 : DE c te fe) : DS c (tAsg te (gName i)) (sSet i fe) := fun S H0 σ H n D R hd h => by
  refine h1 S σ H n _ R (OkS.bind h fun v a n1 H1 s1 k1 R1 va h2 => ?_)
  cases a with
  | o j => exact h2.elim
  | d x =>
    dsimp only at h2
    split at h2
    · rename_i hf
      exact h2 _ H1 (.setIm (free_of hf)) (R1.setIm (free_of hf) va)
    · exact h2.elim
def sNew (i : Nat) (fo : Nv → Rs (List PD)) : Nv → RS := fun n => sbn (fo n) fun ds n1 => if free? n1 i = true then nxt (n1.set i (.ow false (.l ds))) else none
theorem ds_new {i : Nat} {fo : Nv → Rs (List PD)} (h1 : DO c te fo) : DS c (tAsg te (gName i)) (sNew i fo) := fun S H0 σ H n D R hd h => by
  refine h1 S σ H n _ R ?_
  unfold sNew at h
  match fo n, h with
  | some (.error (e, n')), h => exact fun H' s k2 R => h σ H' s R
  | some (.ok (ds, n1)), h =>
    rintro v H1 s1 k1 R1 ⟨p, rfl, np, fr⟩
    simp only [sbn] at h
    split at h
    · rename_i hf
      exact h _ H1 (Stp.setOw s1 np (free_of hf)) (.setOw fr)
    · exact h.elim
def frz (i : Nat) (n : Nv) : Nv := match n[i]? with
  | some (.ow false (.l ds)) => n.set i (.im (.list ds))
  | _ => n
end
end Dl
set_option Elab.async false
set_option linter.all false
set_option maxRecDepth 100000
namespace Dl
open PySem PySem.Spec PyProof.Rows L2
def OkF (c : Cz) (S : AS) (r : Rs Rv) (σ : Sg) (n : Nv) (H : Hp) (Q : VK) : Prop := match r with
  | none => False
  | some (.error (e, _)) => Rz c S σ n H e
  | some (.ok (.d x, n')) => ∀ v H', Stp σ n H σ n' H' → Rel c.K S H' σ n' → Dv c.K H' (AV S σ n') v x → Q v H'
  | some (.ok (.l ds, n')) => ∀ p vs H', Stp σ n H σ n' H' → Rel c.K (fun a => S a ∨ a = p) H' σ n' → H p = none → H' p = some (.lst vs) → DvA c.K H' (AV (fun a => S a ∨ a = p) σ n') vs ds → Q (.ref p) H'
def spM (K : PySem.W.Frag) (cl : Str → Option Value) (k : Nat) (f : Nv → Rs Rv) : Sp := fun vs H Q E => vs.length = k ∧ ∃ (S : AS) (as : Nv), Rel K S H (vs.map some) as ∧ (∀ a, Own (vs.map some) as a → S a) ∧ (∀ (i : Nat) (ds : Ct), as[i]? ≠ some (.ow false ds)) ∧ OkF ⟨K, cl, fun _ => E⟩ S (f as) (vs.map some) as H Q
def mrg : Nv → Nv → Nv
  | .ow true ds :: r, .ow true es :: r' => .ow true es :: mrg r r'
  | x :: r, _ :: r' => x :: mrg r r'
  | x, [] => x
  | [], _ => []
theorem mrg_len : ∀ a b : Nv, (mrg a b).length = a.length
  | [], [] => rfl
  | [], _ :: _ => rfl
  | x :: r, [] => by cases x with
    | ow pm ds => cases pm <;> rfl
    | _ => rfl
  | x :: r, y :: r' => by
    have h := mrg_len r r'
    cases x with
    | im d => simp [mrg, h]
    | un => simp [mrg, h]
    | ow pm ds =>
      cases pm with
      | false => simp [mrg, h]
      | true =>
        cases y with
        | im d => simp [mrg, h]
        | un => simp [mrg, h]
        | ow qm es => cases qm <;> simp [mrg, h]
theorem mrg_get : ∀ (a b : Nv) (i : Nat), (mrg a b)[i]? = match a[i]?, b[i]? with
    | some (.ow true ds), some (.ow true es) => some (.ow true es)
    | x, _ => x
  | [], [], i => by simp [mrg]
  | [], _ :: _, i => by simp [mrg]
  | x :: r, [], i => by
    have e : mrg (x :: r) [] = x :: r := by
      cases x with
      | ow pm ds => cases pm <;> rfl
      | _ => rfl
    rw [e]
    simp only [List.getElem?_nil]
    split <;> simp_all
  | x :: r, y :: r', 0 => by
    cases x with
    | im d => simp [mrg]
    | un => simp [mrg]
    | ow pm ds =>
      cases pm with
      | false => simp [mrg]
      | true =>
        cases y with
        | im d => simp [mrg]
        | un => simp [mrg]
        | ow qm es => cases qm <;> simp [mrg]
  | x :: r, y :: r', i + 1 => by
    have h := mrg_get r r' i
    have e : (mrg (x :: r) (y :: r'))[i + 1]? = (mrg r r')[i]? := by
      cases x with
      | im d => simp [mrg]
      | un => simp [mrg]
      | ow pm ds =>
        cases pm with
        | false => simp [mrg]
        | true =>
          cases y with
          | im d => simp [mrg]
          | un => simp [mrg]
          | ow qm es => cases qm <;> simp [mrg]
    rw [e, h]
    simp
def fin (as : Nv) (r : RS) : Rs Rv := match r with
  | none => none
  | some (.error e) => some (.error e)
  | some (.ok (.nx, n)) => some (.ok (.d .none, mrg as n))
  | some (.ok (.rt x, n)) => some (.ok (x, mrg as n))
  | some (.ok (_, _)) => none
def body (k : Nat) (g : Nv → RS) : Nv → Rs Rv := fun as => fin as (g (as ++ List.replicate k .un))
section
variable {c : Cz} {S : AS} {H H' : Hp} {σ σ' : Sg} {as n' : Nv} {vs : List V} {k : Nat}
theorem own_app {σa σb : Sg} {na : Nv} (hl : na.length = σa.length) : ∀ a, Own (σa ++ σb) (na ++ List.replicate k .un) a → Own σa na a := fun a ⟨i, pm, ds, e1, e2⟩ => by
  by_cases h : i < na.length
  · rw [List.getElem?_append_left h] at e1
    rw [List.getElem?_append_left (by omega)] at e2
    exact ⟨i, pm, ds, e1, e2⟩
  · rw [List.getElem?_append_right (by omega)] at e1
    rw [List.getElem?_replicate] at e1
    split at e1 <;> cases e1
theorem app_own {σa σb : Sg} {na nb : Nv} (hl : na.length = σa.length) : ∀ a, Own σa na a → Own (σa ++ σb) (na ++ nb) a := fun a ⟨i, pm, ds, e1, e2⟩ => by
  have h : i < na.length := (List.getElem?_eq_some_iff.mp e1).1
  exact ⟨i, pm, ds, by rw [List.getElem?_append_left h]; exact e1, by rw [List.getElem?_append_left (by omega)]; exact e2⟩
theorem rep_get {m i : Nat} {s : Sl} (h : (List.replicate m Sl.un)[i]? = some s) : s = .un := by
  rw [List.getElem?_replicate] at h
  split at h <;> cases h
  rfl
theorem Rel.start (R : Rel c.K S H σ as) : Rel c.K S H (σ ++ List.replicate k none) (as ++ List.replicate k .un) where
  len := by simp [R.len]
  im := fun i d h => by
    by_cases q : i < as.length
    · rw [List.getElem?_append_left q] at h
      obtain ⟨v, h1, h2⟩ := R.im i d h
      refine ⟨v, by rw [List.getElem?_append_left (by rw [← R.len]; exact q)]; exact h1, h2.weak fun a z => z.elim .inl fun w => .inr (own_app R.len a w)⟩
    · rw [List.getElem?_append_right (by omega)] at h
      cases rep_get h
  ow := fun i pm ds h => by
    by_cases q : i < as.length
    · rw [List.getElem?_append_left q] at h
      obtain ⟨p, vs, h1, h2, h3, h4⟩ := R.ow i pm ds h
      refine ⟨p, vs, by rw [List.getElem?_append_left (by rw [← R.len]; exact q)]; exact h1, h2, h3.weak fun a z => z.elim .inl fun w => .inr (own_app R.len a w), h4⟩
    · rw [List.getElem?_append_right (by omega)] at h
      cases rep_get h
  inj := fun i j pm qm ds es p h1 h2 h3 h4 => by
    have lt : ∀ {i pm ds}, (as ++ List.replicate k Sl.un)[i]? = some (.ow pm ds) → i < as.length := fun {i pm ds} h => by
      by_cases q : i < as.length
      · exact q
      · rw [List.getElem?_append_right (by omega)] at h
        cases rep_get h
    have q1 := lt h1
    have q2 := lt h2
    rw [List.getElem?_append_left q1] at h1
    rw [List.getElem?_append_left q2] at h2
    rw [List.getElem?_append_left (by rw [← R.len]; exact q1)] at h3
    rw [List.getElem?_append_left (by rw [← R.len]; exact q2)] at h4
    exact R.inj i j pm qm ds es p h1 h2 h3 h4
  trk := R.trk
theorem mrg_own (st : Stp (σ ++ List.replicate k none) (as ++ List.replicate k .un) H σ' n' H') (hl : as.length = σ.length) (nf : ∀ (i : Nat) (ds : Ct), as[i]? ≠ some (.ow false ds)) : ∀ a, Own σ (mrg as n') a → Own σ' n' a := fun a ⟨i, pm, ds, e1, e2⟩ => by
  rw [mrg_get] at e1
  have go : ∀ es, as[i]? = some (.ow true es) → Own σ' n' a := fun es h => by
    have hi : i < as.length := (List.getElem?_eq_some_iff.mp h).1
    obtain ⟨q1, fs, q2⟩ := st.pmk i es (by rw [List.getElem?_append_left hi]; exact h)
    exact ⟨i, true, fs, q2, by rw [q1, List.getElem?_append_left (by omega)]; exact e2⟩
  split at e1
  · rename_i es fs h1 h2
    exact go _ h1
  · rename_i x y h
    cases pm with
    | true => exact go _ e1
    | false => exact (nf _ _ e1).elim
theorem Rel.fin (R : Rel c.K S H σ as) (nf : ∀ (i : Nat) (ds : Ct), as[i]? ≠ some (.ow false ds)) (st : Stp (σ ++ List.replicate k none) (as ++ List.replicate k .un) H σ' n' H') (R' : Rel c.K S H' σ' n') (T : AS)
    (hT : ∀ a, T a → S a ∨ Own σ' n' a) (tk : ∀ a, T a → H' a ≠ none) (tp : ∀ a, T a → S a ∨ H a = none) : Rel c.K T H' σ (mrg as n') ∧ Stp σ as H σ (mrg as n') H' := by
  have ow0 : ∀ a, Own (σ ++ List.replicate k none) (as ++ List.replicate k .un) a → Own σ as a := own_app R.len
  have mo := mrg_own (k := k) st R.len nf
  have own' : ∀ a, Own σ (mrg as n') a → Own σ as a := fun a ⟨i, pm, ds, e1, e2⟩ => by
    rw [mrg_get] at e1
    split at e1
    · rename_i es fs h1 h2
      exact ⟨i, true, _, h1, e2⟩
    · exact ⟨i, pm, ds, e1, e2⟩
  refine ⟨⟨by rw [mrg_len]; exact R.len, fun i d h => ?_, fun i pm ds h => ?_, fun i j pm qm ds es p h1 h2 h3 h4 => ?_, tk⟩, ⟨fun a o h e => st.ext a o (fun z => h (ow0 a z)) e, fun a h => .inl (own' a h), st.dom, fun i ds h => ⟨rfl, ?_⟩⟩⟩
  · rw [mrg_get] at h
    have h' : as[i]? = some (.im d) := by
      split at h
      · cases h
      · exact h
    obtain ⟨v, h1, h2⟩ := R.im i d h'
    refine ⟨v, h1, h2.mono (S := Own σ as) (fun a o z e => st.ext a o (fun w => z (ow0 a w)) e) (fun a z => .inr z) fun a z => ?_⟩
    rcases z with z | z
    · rcases tp a z with w | w
      · exact .inl (.inl w)
      · exact .inr w
    · exact .inl (.inr (own' a z))
  · have q : ∃ es, as[i]? = some (.ow true es) ∧ pm = true ∧ n'[i]? = some (.ow true ds) := by
      rw [mrg_get] at h
      split at h
      · rename_i es fs h1 h2
        cases h
        exact ⟨_, h1, rfl, h2⟩
      · rename_i x y hh
        cases pm with
        | false => exact (nf _ _ h).elim
        | true =>
          have hi : i < as.length := (List.getElem?_eq_some_iff.mp h).1
          obtain ⟨_, fs, q2⟩ := st.pmk i ds (by rw [List.getElem?_append_left hi]; exact h)
          exact (hh _ _ h q2).elim
    obtain ⟨es, h1, rfl, h2⟩ := q
    have hi : i < as.length := (List.getElem?_eq_some_iff.mp h1).1
    obtain ⟨q1, fs, q2⟩ := st.pmk i es (by rw [List.getElem?_append_left hi]; exact h1)
    rw [List.getElem?_append_left (by rw [← R.len]; exact hi)] at q1
    obtain ⟨p, vs, g1, g2, g3, g4⟩ := R'.ow i true ds h2
    refine ⟨p, vs, by rw [← q1]; exact g1, g2, g3.weak fun a z => ?_, fun z => by cases z⟩
    rcases z with z | z
    · exact hT a z
    · exact .inr (mo a z)
  · have g : ∀ {i : Nat} {pm : Bool} {ds : Ct}, (mrg as n')[i]? = some (.ow pm ds) → ∃ (qm : Bool) (es : Ct), as[i]? = some (.ow qm es) := fun {i pm ds} h => by
      rw [mrg_get] at h
      split at h
      · rename_i es fs h1 h2
        exact ⟨_, _, h1⟩
      · exact ⟨_, _, h⟩
    obtain ⟨_, _, w1⟩ := g h1
    obtain ⟨_, _, w2⟩ := g h2
    exact R.inj i j _ _ _ _ p w1 w2 h3 h4
  · rw [mrg_get, h]
    split
    · rename_i es fs h1 h2
      exact ⟨_, rfl⟩
    · exact ⟨_, rfl⟩
theorem OkF.body {g : Nv → RS} {Q : VK} (hE : ∀ σ σ', c.E σ = c.E σ') (R : Rel c.K S H σ as) (sub : ∀ a, Own σ as a → S a) (nf : ∀ (i : Nat) (ds : Ct), as[i]? ≠ some (.ow false ds)) (h : OkF c S (body k g as) σ as H Q) :
    OkS c S H (g (as ++ List.replicate k .un)) (σ ++ List.replicate k none) (as ++ List.replicate k .un) H { nx := fun _ H' => Q .non H', rt := Q } := by
  unfold Dl.body at h
  generalize g (as ++ List.replicate k .un) = r at h
  match r, h with
  | some (.error (e, n')), h =>
    have h' : Rz c S σ as H e := h
    intro σ' H' st R'
    have s0 : Stp σ as H (σ ++ List.replicate k none) (as ++ List.replicate k .un) H := ⟨fun a o z e => e, fun a z => .inl (own_app R.len a z), fun a z => z, fun i ds e => by
      have hi : i < as.length := (List.getElem?_eq_some_iff.mp e).1
      exact ⟨by rw [List.getElem?_append_left (by rw [← R.len]; exact hi)], ds, by rw [List.getElem?_append_left hi]; exact e⟩⟩
    refine Rz.move (hE _ _) (s0.trans st) (fun a z => z.elim .inl fun ⟨i, pm, ds, e1, e2⟩ => ?_) h'
    cases pm with
    | false => exact (nf _ _ e1).elim
    | true =>
      obtain ⟨q1, es, q2⟩ := (s0.trans st).pmk i ds e1
      exact .inr ⟨i, true, es, q2, by rw [q1]; exact e2⟩
  | some (.ok (.nx, n')), h =>
    intro σ' H' st R'
    obtain ⟨r1, r2⟩ := R.fin nf st R' S (fun a z => .inl z) R'.trk fun a z => .inl z
    exact h _ _ r2 r1 .non
  | some (.ok (.rt (.d x), n')), h =>
    intro v σ' H' st R' w
    obtain ⟨r1, r2⟩ := R.fin nf st R' S (fun a z => .inl z) R'.trk fun a z => .inl z
    exact h v _ r2 r1 (Dv.weak w fun a z => z.elim .inl fun q => .inr (mrg_own st R.len nf a q))
  | some (.ok (.rt (.l ds), n')), h =>
    rintro v σ' H' st R' ⟨p, vs, rfl, h0, h1, h2, h3⟩
    obtain ⟨r1, r2⟩ := R.fin nf st R' (fun a => S a ∨ a = p) (fun a z => z.elim .inl fun q => .inr (q ▸ h3)) (fun a z => z.elim (R'.trk a) fun q => by rw [q, h1]; simp) fun a z => z.elim .inl fun q => .inr (q ▸ h0)
    exact h p vs _ r2 r1 h0 h1 (h2.weak fun a z => z.elim (fun q => q.elim .inl fun w => .inr (w ▸ h3)) fun q => .inr (mrg_own st R.len nf a q))
  | none, h => exact h.elim
  | some (.ok (.bk, n')), h => exact h.elim
  | some (.ok (.ct, n')), h => exact h.elim
end
theorem fn_dl {P : Program} {w : World} {K : PySem.W.Frag} {mg : Str → Option Value} {base : Heap} {x qual : Str} {st : Stmt} {f : Addr} {fd : FuncData} {N ps : List Str} {k : Nat} {cl : Str → Option Value} {g : Nv → RS} {m : Nat}
    (F : Fun K x qual st f fd) (Sc : FnScope N ps (defScope st)) (hN : N.length = ps.length + m)
    (hbody : ∀ (cdv : Value) (A : Around) (outer : List Env) (s : Shared) (H : Hp) (E : XK), Room k (A.deeper (envOfC qual (defScope st) s.heap.objs.size f cdv)) →
      ∃ t, PSs (cxOf (L2.CX P w) P w K mg base N qual (defScope st) f cdv A outer s H E) (defBody st) t ∧ DS ⟨K, cl, fun _ => E⟩ t g) : FnOk P w K mg base (L2.CX P w) (k + 1) f fd ps (spM K cl ps.length (body m g)) := by
  refine F.okX Sc (fun vs H Q E h => h.1) fun cdv A outer s H vs Q E hr hsp => ?_
  obtain ⟨t, h1, h2⟩ := hbody cdv A outer s H E hr
  obtain ⟨hl, S, as, R, sub, nf, hf⟩ := hsp
  refine ⟨t, h1, ?_⟩
  have e : L2.start N vs = vs.map some ++ List.replicate m none := by
    unfold L2.start
    rw [hN, hl]
    congr 2
    omega
  rw [e]
  refine h2 S H _ H _ _ (Rel.start (c := ⟨K, cl, fun _ => E⟩) R) ⟨vs.map some, as, sub, ⟨fun a o z q => q, fun a z => .inl (own_app R.len a z), fun a z => z, fun i ds q => ?_⟩⟩ (OkF.body (c := ⟨K, cl, fun _ => E⟩) (fun _ _ => rfl) R sub nf hf)
  have hi : i < as.length := (List.getElem?_eq_some_iff.mp q).1
  exact ⟨by rw [List.getElem?_append_left (by rw [← R.len]; exact hi)], ds, by rw [List.getElem?_append_left hi]; exact q⟩
end Dl
set_option Elab.async false
set_option linter.all false
set_option maxRecDepth 100000
namespace Dl
open PySem PySem.Spec PyProof.Rows L2
def slots (n : Nv) : List Ar → Option Nv
  | [] => some []
  | .d x :: r => (slots n r).map (.im x :: ·)
  | .o i :: r => match n[i]? with
    | some (.ow _ ds) => (slots n r).map (.ow true ds :: ·)
    | _ => none
def hasO (i : Nat) : List Ar → Bool
  | [] => false
  | .o j :: r => decide (j = i) || hasO i r
  | .d _ :: r => hasO i r
def dist : List Ar → Bool
  | [] => true
  | .o i :: r => !hasO i r && dist r
  | .d _ :: r => dist r
def look : List Ar → Nv → Nat → Option Ct
  | .o j :: r, .ow _ es :: m, i => if j = i then some es else look r m i
  | _ :: r, _ :: m, i => look r m i
  | _, _, _ => none
def back (as : List Ar) (m n : Nv) : Nv := n.mapIdx fun i s => match s with
  | .ow pm ds => .ow pm ((look as m i).getD ds)
  | s => s
theorem slots_len {n : Nv} : ∀ {as : List Ar} {m : Nv}, slots n as = some m → m.length = as.length
  | [], m, h => by cases h; rfl
  | .d x :: r, m, h => by
    obtain ⟨m', h1, h2⟩ := Option.map_eq_some_iff.mp h
    subst h2
    simp [slots_len h1]
  | .o i :: r, m, h => by
    unfold slots at h
    split at h
    · obtain ⟨m', h1, h2⟩ := Option.map_eq_some_iff.mp h
      subst h2
      simp [slots_len h1]
    · cases h
theorem slots_o {n : Nv} : ∀ {as : List Ar} {m : Nv} {j i : Nat}, slots n as = some m → as[j]? = some (.o i) → ∃ pm ds, n[i]? = some (.ow pm ds) ∧ m[j]? = some (.ow true ds)
  | [], m, j, i, h, e => by simp at e
  | .d x :: r, m, 0, i, h, e => by simp at e
  | .d x :: r, m, j + 1, i, h, e => by
    obtain ⟨m', h1, h2⟩ := Option.map_eq_some_iff.mp h
    subst h2
    simpa using slots_o h1 (by simpa using e)
  | .o k :: r, m, 0, i, h, e => by
    simp at e
    subst e
    unfold slots at h
    split at h
    · rename_i pm ds q
      obtain ⟨m', h1, h2⟩ := Option.map_eq_some_iff.mp h
      subst h2
      exact ⟨pm, ds, q, rfl⟩
    · cases h
  | .o k :: r, m, j + 1, i, h, e => by
    unfold slots at h
    split at h
    · obtain ⟨m', h1, h2⟩ := Option.map_eq_some_iff.mp h
      subst h2
      simpa using slots_o h1 (by simpa using e)
    · cases h
theorem slots_m {n : Nv} : ∀ {as : List Ar} {m : Nv} {j : Nat} {s : Sl}, slots n as = some m → m[j]? = some s → (∃ x, s = .im x ∧ as[j]? = some (.d x)) ∨ ∃ i pm ds, s = .ow true ds ∧ as[j]? = some (.o i) ∧ n[i]? = some (.ow pm ds)
  | [], m, j, s, h, e => by cases h; simp at e
  | .d x :: r, m, 0, s, h, e => by
    obtain ⟨m', h1, h2⟩ := Option.map_eq_some_iff.mp h
    subst h2
    simp at e
    exact .inl ⟨x, e.symm, rfl⟩
  | .d x :: r, m, j + 1, s, h, e => by
    obtain ⟨m', h1, h2⟩ := Option.map_eq_some_iff.mp h
    subst h2
    simpa using slots_m h1 (by simpa using e)
  | .o k :: r, m, 0, s, h, e => by
    unfold slots at h
    split at h
    · rename_i pm ds q
      obtain ⟨m', h1, h2⟩ := Option.map_eq_some_iff.mp h
      subst h2
      simp at e
      exact .inr ⟨k, pm, ds, e.symm, rfl, q⟩
    · cases h
  | .o k :: r, m, j + 1, s, h, e => by
    unfold slots at h
    split at h
    · obtain ⟨m', h1, h2⟩ := Option.map_eq_some_iff.mp h
      subst h2
      simpa using slots_m h1 (by simpa using e)
    · cases h
theorem hasO_of : ∀ {as : List Ar} {i j : Nat}, as[j]? = some (.o i) → hasO i as = true
  | [], i, j, e => by simp at e
  | .d x :: r, i, 0, e => by simp at e
  | .d x :: r, i, j + 1, e => hasO_of (as := r) (by simpa using e)
  | .o k :: r, i, 0, e => by simp at e; simp [hasO, e]
  | .o k :: r, i, j + 1, e => by simp [hasO, hasO_of (as := r) (by simpa using e)]
theorem dist_ix : ∀ {as : List Ar} {i j k : Nat}, dist as = true → as[j]? = some (.o i) → as[k]? = some (.o i) → j = k
  | [], i, j, k, d, e, f => by simp at e
  | .d x :: r, i, 0, k, d, e, f => by simp at e
  | .d x :: r, i, j + 1, 0, d, e, f => by simp at f
  | .d x :: r, i, j + 1, k + 1, d, e, f => congrArg (· + 1) (dist_ix (as := r) (i := i) (j := j) (k := k) d (by simpa using e) (by simpa using f))
  | .o q :: r, i, 0, 0, d, e, f => rfl
  | .o q :: r, i, 0, k + 1, d, e, f => by
    simp at e
    subst e
    have h := hasO_of (as := r) (by simpa using f)
    simp [dist, h] at d
  | .o q :: r, i, j + 1, 0, d, e, f => by
    simp at f
    subst f
    have h := hasO_of (as := r) (by simpa using e)
    simp [dist, h] at d
  | .o q :: r, i, j + 1, k + 1, d, e, f => by
    simp [dist] at d
    exact congrArg (· + 1) (dist_ix (as := r) (i := i) (j := j) (k := k) d.2 (by simpa using e) (by simpa using f))
theorem look_some : ∀ {as : List Ar} {m : Nv} {i : Nat} {es : Ct}, look as m i = some es → ∃ (j : Nat) (b : Bool), as[j]? = some (.o i) ∧ m[j]? = some (.ow b es)
  | [], m, i, es, h => by cases m <;> cases h
  | a :: r, [], i, es, h => by
    cases a <;> cases h
  | .d x :: r, y :: m, i, es, h => by
    obtain ⟨j, b, h1, h2⟩ := look_some (as := r) (m := m) (by cases y <;> exact h)
    exact ⟨j + 1, b, by simpa using h1, by simpa using h2⟩
  | .o k :: r, .im y :: m, i, es, h => by
    obtain ⟨j, b, h1, h2⟩ := look_some (as := r) (m := m) h
    exact ⟨j + 1, b, by simpa using h1, by simpa using h2⟩
  | .o k :: r, .un :: m, i, es, h => by
    obtain ⟨j, b, h1, h2⟩ := look_some (as := r) (m := m) h
    exact ⟨j + 1, b, by simpa using h1, by simpa using h2⟩
  | .o k :: r, .ow b0 ds :: m, i, es, h => by
    simp only [look] at h
    split at h
    · rename_i q
      cases h
      exact ⟨0, b0, by simp [q], rfl⟩
    · obtain ⟨j, b, h1, h2⟩ := look_some (as := r) (m := m) h
      exact ⟨j + 1, b, by simpa using h1, by simpa using h2⟩
theorem look_none : ∀ {as : List Ar} {m : Nv} {i j : Nat} {b : Bool} {es : Ct}, look as m i = none → as[j]? = some (.o i) → m[j]? ≠ some (.ow b es)
  | [], m, i, j, b, es, h, e => by simp at e
  | a :: r, [], i, j, b, es, h, e => by simp
  | .d x :: r, y :: m, i, 0, b, es, h, e => by simp at e
  | .d x :: r, y :: m, i, j + 1, b, es, h, e => by simpa using look_none (as := r) (m := m) (by cases y <;> exact h) (by simpa using e)
  | .o k :: r, .im y :: m, i, 0, b, es, h, e => by simp
  | .o k :: r, .un :: m, i, 0, b, es, h, e => by simp
  | .o k :: r, .ow b0 ds :: m, i, 0, b, es, h, e => by
    simp at e
    simp [look, e] at h
  | .o k :: r, .im y :: m, i, j + 1, b, es, h, e => by simpa using look_none (as := r) (m := m) h (by simpa using e)
  | .o k :: r, .un :: m, i, j + 1, b, es, h, e => by simpa using look_none (as := r) (m := m) h (by simpa using e)
  | .o k :: r, .ow b0 ds :: m, i, j + 1, b, es, h, e => by
    simp only [look] at h
    split at h
    · cases h
    · simpa using look_none (as := r) (m := m) h (by simpa using e)
theorem back_get {as : List Ar} {m n : Nv} {i : Nat} : (back as m n)[i]? = match n[i]? with
    | some (.ow pm ds) => some (.ow pm ((look as m i).getD ds))
    | s => s := by
  unfold back
  rw [List.getElem?_mapIdx]
  cases n[i]? with
  | none => rfl
  | some s => cases s <;> rfl
theorem back_len {as : List Ar} {m n : Nv} : (back as m n).length = n.length := by simp [back]
theorem ArVs.get {K S σ n H} : ∀ {vs : List V} {as : List Ar} {j : Nat} {a : Ar}, ArVs K S σ n H vs as → as[j]? = some a → ∃ v, vs[j]? = some v ∧ ArV K S σ n H v a
  | _, _, _, _, .nil, e => by simp at e
  | _, _, 0, _, .cons h _, e => by simp at e; subst e; exact ⟨_, rfl, h⟩
  | _, _, j + 1, _, .cons _ t, e => by
    obtain ⟨v, h1, h2⟩ := ArVs.get (j := j) t (by simpa using e)
    exact ⟨v, by simpa using h1, h2⟩
theorem ArVs.len {K S σ n H} : ∀ {vs : List V} {as : List Ar}, ArVs K S σ n H vs as → vs.length = as.length
  | _, _, .nil => rfl
  | _, _, .cons _ t => by simp [ArVs.len t]
section
variable {K : PySem.W.Frag} {S : AS} {H H' : Hp} {σ : Sg} {n m m' : Nv} {vs : List V} {as : List Ar}
theorem map_some_get {j : Nat} {v : V} : (vs.map some)[j]? = some (some v) ↔ vs[j]? = some v := by
  rw [List.getElem?_map]
  cases vs[j]? <;> simp
theorem own_callee (av : ArVs K S σ n H vs as) (hs : slots n as = some m) : ∀ a, Own (vs.map some) m a → ∃ (i j : Nat) (pm : Bool) (ds : Ct), as[j]? = some (.o i) ∧ n[i]? = some (.ow pm ds) ∧ σ[i]? = some (some (.ref a)) ∧ vs[j]? = some (.ref a) := fun a ⟨j, b, ds, e1, e2⟩ => by
  have e2' := map_some_get.mp e2
  rcases slots_m hs e1 with ⟨x, q, _⟩ | ⟨i, pm, ds', q, h1, h2⟩
  · cases q
  · obtain ⟨v, h3, h4⟩ := av.get h1
    rw [e2'] at h3
    cases h3
    exact ⟨i, j, pm, ds', h1, h2, h4.1, e2'⟩
theorem call_pre (R : Rel K S H σ n) (av : ArVs K S σ n H vs as) (hs : slots n as = some m) (hd : dist as = true) :
    Rel K (AV S σ n) H (vs.map some) m ∧ (∀ a, Own (vs.map some) m a → AV S σ n a) ∧ ∀ (i : Nat) (ds : Ct), m[i]? ≠ some (.ow false ds) := by
  have sub : ∀ a, Own (vs.map some) m a → AV S σ n a := fun a h => by
    obtain ⟨i, j, pm, ds, h1, h2, h3, _⟩ := own_callee av hs a h
    exact .inr ⟨i, pm, ds, h2, h3⟩
  refine ⟨⟨by rw [slots_len hs, List.length_map, av.len], fun j d e => ?_, fun j b ds e => ?_, fun j k b b' ds es p h1 h2 h3 h4 => ?_, R.avSome⟩, sub, fun j ds e => ?_⟩
  · rcases slots_m hs e with ⟨x, q, h1⟩ | ⟨i, pm, ds', q, h1, h2⟩
    · cases q
      obtain ⟨v, h3, h4⟩ := av.get h1
      exact ⟨v, map_some_get.mpr h3, Dv.weak h4 fun a z => z.elim id (sub a)⟩
    · cases q
  · rcases slots_m hs e with ⟨x, q, h1⟩ | ⟨i, pm, ds', q, h1, h2⟩
    · cases q
    · cases q
      obtain ⟨v, h3, h4, _⟩ := av.get h1
      obtain ⟨p, us, g1, g2, g3, g4⟩ := R.ow _ _ _ h2
      rw [h4] at g1
      cases g1
      exact ⟨p, us, map_some_get.mpr h3, g2, g3.weak fun a z => z.elim id (sub a), fun z => by cases z⟩
  · rcases slots_m hs h1 with ⟨x, q, _⟩ | ⟨i, pm, ds', q, g1, g2⟩
    · cases q
    · rcases slots_m hs h2 with ⟨x, q', _⟩ | ⟨i', pm', ds'', q', g1', g2'⟩
      · cases q'
      · obtain ⟨v, a1, a2, _⟩ := av.get g1
        obtain ⟨v', b1, b2, _⟩ := av.get g1'
        rw [map_some_get.mp h3] at a1
        cases a1
        rw [map_some_get.mp h4] at b1
        cases b1
        have e := R.inj i i' _ _ _ _ p g2 g2' a2 b2
        subst e
        exact dist_ix hd g1 g1'
  · rcases slots_m hs e with ⟨x, q, _⟩ | ⟨i, pm, ds', q, g1, g2⟩
    · cases q
    · cases q
theorem call_post (R : Rel K S H σ n) (av : ArVs K S σ n H vs as) (hs : slots n as = some m) (hd : dist as = true) {T B : AS} (st : Stp (vs.map some) m H (vs.map some) m' H') (R' : Rel K T H' (vs.map some) m')
    (hT : ∀ a, B a → T a) (hB : ∀ a, B a → AV S σ n a ∨ H a = none) :
    (∀ (i : Nat) (d : PD), (back as m' n)[i]? = some (.im d) → ∃ v, σ[i]? = some (some v) ∧ Dv K H' B v d) ∧
    (∀ (i : Nat) (pm : Bool) (es : Ct), (back as m' n)[i]? = some (.ow pm es) → ∃ p us, σ[i]? = some (some (.ref p)) ∧ H' p = some us ∧ CtV K H' B us es ∧ (pm = false → ¬ S p)) := by
  have oc := own_callee av hs
  have sub : ∀ a, Own (vs.map some) m a → AV S σ n a := fun a h => by
    obtain ⟨i, j, pm, ds, h1, h2, h3, _⟩ := oc a h
    exact .inr ⟨i, pm, ds, h2, h3⟩
  refine ⟨fun i d e => ?_, fun i pm es e => ?_⟩
  · rw [back_get] at e
    have e' : n[i]? = some (.im d) := by
      cases q : n[i]? with
      | none => rw [q] at e; cases e
      | some s => rw [q] at e; cases s <;> simp_all
    obtain ⟨v, h1, h2⟩ := R.im i d e'
    exact ⟨v, h1, h2.mono (S := Own (vs.map some) m) st.ext sub hB⟩
  · rw [back_get] at e
    have e' : ∃ ds, n[i]? = some (.ow pm ds) ∧ es = (look as m' i).getD ds := by
      cases q : n[i]? with
      | none => rw [q] at e; cases e
      | some s =>
        rw [q] at e
        cases s with
        | ow b ds =>
          cases e
          exact ⟨ds, rfl, rfl⟩
        | _ => cases e
    obtain ⟨ds, e1, e2⟩ := e'
    obtain ⟨p, us, h1, h2, h3, h4⟩ := R.ow _ _ _ e1
    cases lk : look as m' i with
    | some fs =>
      rw [lk] at e2
      have e2 : es = fs := e2
      subst e2
      obtain ⟨j, b, g1, g2⟩ := look_some lk
      obtain ⟨v, a1, a2, _⟩ := av.get g1
      rw [h1] at a2
      cases a2
      obtain ⟨p', us', c1, c2, c3, _⟩ := R'.ow j b _ g2
      rw [map_some_get.mpr a1] at c1
      cases c1
      exact ⟨p, us', h1, c2, c3.weak fun a z => .inl (hT a z), h4⟩
    | none =>
      rw [lk] at e2
      have e2 : es = ds := e2
      subst e2
      refine ⟨p, us, h1, st.ext _ _ (fun z => ?_) h2, h3.mono (S := Own (vs.map some) m) st.ext sub hB, h4⟩
      obtain ⟨i', j, pm', ds', q1, q2, q3, q4⟩ := oc p z
      have e := R.inj i i' _ _ _ _ p e1 q2 h1 q3
      subst e
      obtain ⟨pm2, ds2, w1, w2⟩ := slots_o hs q1
      obtain ⟨_, fs, w3⟩ := st.pmk j ds2 w2
      exact look_none lk q1 w3
theorem back_own : ∀ a, Own σ (back as m' n) a ↔ Own σ n a := fun a => by
  constructor
  · rintro ⟨i, pm, ds, e1, e2⟩
    rw [back_get] at e1
    cases q : n[i]? with
    | none => rw [q] at e1; cases e1
    | some s =>
      rw [q] at e1
      cases s with
      | ow b fs => cases e1; exact ⟨i, pm, fs, q, e2⟩
      | _ => cases e1
  · rintro ⟨i, pm, ds, e1, e2⟩
    exact ⟨i, pm, _, by rw [back_get, e1], e2⟩
theorem back_inj (R : Rel K S H σ n) (i j : Nat) (pm qm : Bool) (ds es : Ct) (p : Addr) (h1 : (back as m' n)[i]? = some (.ow pm ds)) (h2 : (back as m' n)[j]? = some (.ow qm es)) (h3 : σ[i]? = some (some (.ref p))) (h4 : σ[j]? = some (some (.ref p))) : i = j := by
  have g : ∀ {i : Nat} {pm : Bool} {ds : Ct}, (back as m' n)[i]? = some (.ow pm ds) → ∃ fs, n[i]? = some (.ow pm fs) := fun {i pm ds} e => by
    rw [back_get] at e
    cases q : n[i]? with
    | none => rw [q] at e; cases e
    | some s =>
      rw [q] at e
      cases s with
      | ow b fs => cases e; exact ⟨fs, rfl⟩
      | _ => cases e
  obtain ⟨_, g1⟩ := g h1
  obtain ⟨_, g2⟩ := g h2
  exact R.inj i j _ _ _ _ p g1 g2 h3 h4
theorem back_knd : Knd n (back as m' n) := fun i pm ds h => ⟨(look as m' i).getD ds, by rw [back_get, h]⟩
theorem call_stp (av : ArVs K S σ n H vs as) (hs : slots n as = some m) (st : Stp (vs.map some) m H (vs.map some) m' H') : Stp σ n H σ (back as m' n) H' where
  ext := fun a o h e => st.ext a o (fun z => by
    obtain ⟨i, j, pm, ds, h1, h2, h3, _⟩ := own_callee av hs a z
    exact h ⟨i, pm, ds, h2, h3⟩) e
  own := fun a h => .inl ((back_own a).mp h)
  dom := st.dom
  pmk := fun i ds h => ⟨rfl, (look as m' i).getD ds, by rw [back_get, h]⟩
theorem call_rel (R : Rel K S H σ n) (av : ArVs K S σ n H vs as) (hs : slots n as = some m) (hd : dist as = true) {T : AS} (st : Stp (vs.map some) m H (vs.map some) m' H') (R' : Rel K T H' (vs.map some) m') (hT : ∀ a, AV S σ n a → T a) :
    Rel K S H' σ (back as m' n) := by
  have z := call_post R av hs hd st R' hT fun a z => .inl z
  have w : ∀ a, AV S σ (back as m' n) a → AV S σ n a := fun a z => z.elim .inl fun q => .inr ((back_own a).mp q)
  refine ⟨by rw [back_len]; exact R.len, fun i d e => ?_, fun i pm ds e => ?_, back_inj R, fun a q => st.dom a (R.trk a q)⟩
  · obtain ⟨v, h1, h2⟩ := z.1 i d e
    exact ⟨v, h1, h2.weak w⟩
  · obtain ⟨p, us, h1, h2, h3, h4⟩ := z.2 i pm ds e
    exact ⟨p, us, h1, h2, h3.weak w, h4⟩
theorem call_frs (R : Rel K S H σ n) (av : ArVs K S σ n H vs as) (hs : slots n as = some m) (hd : dist as = true) {p : Addr} {ws : List V} {ds : List PD} (st : Stp (vs.map some) m H (vs.map some) m' H') (R' : Rel K (fun a => AV S σ n a ∨ a = p) H' (vs.map some) m')
    (np : H p = none) (hp : H' p = some (.lst ws)) (hw : DvA K H' (AV (fun a => AV S σ n a ∨ a = p) (vs.map some) m') ws ds) : Frs K S σ (back as m' n) H' p (.l ds) := by
  have z := call_post R av hs hd st R' (B := fun a => AV S σ n a ∨ a = p) (fun a z => z) fun a z => z.elim .inl fun q => .inr (q ▸ np)
  have w : ∀ a, AV S σ (back as m' n) a → AV S σ n a := fun a z => z.elim .inl fun q => .inr ((back_own a).mp q)
  have w2 : ∀ a, (AV S σ (back as m' n) a ∨ a = p) → (AV S σ n a ∨ a = p) := fun a z => z.elim (fun q => .inl (w a q)) .inr
  refine ⟨call_rel R av hs hd st R' fun a z => .inl z, fun q => R.nav np (w p q), ⟨.lst ws, hp, DvA.weak hw fun a z => .inl (w2 a z)⟩, fun i d e => ?_, fun i pm es e => ?_⟩
  · obtain ⟨v, h1, h2⟩ := z.1 i d e
    exact ⟨v, h1, h2.weak w2⟩
  · obtain ⟨q, us, h1, h2, h3, h4⟩ := z.2 i pm es e
    exact ⟨q, us, h1, h2, h3.weak w2⟩
end
def cal {β : Type} (r : Rs Rv) (n : Nv) (k : Rv → Nv → Rs β) : Rs β := match r with
  | none => none
  | some (.error (e, _)) => some (.error (e, n))
  | some (.ok (r, m)) => k r m
@[simp] theorem cal_ret {β : Type} {a : Rv} {m n : Nv} {k : Rv → Nv → Rs β} : cal (ret a m) n k = k a m := (rfl)
@[simp] theorem cal_ok {β : Type} {a : Rv} {m n : Nv} {k : Rv → Nv → Rs β} : cal (some (.ok (a, m))) n k = k a m := (rfl)
@[simp] theorem cal_err {β : Type} {e : Er} {m n : Nv} {k : Rv → Nv → Rs β} : cal (some (.error (e, m))) n k = some (.error (e, n)) := (rfl)
def eRv (as : List Ar) (n : Nv) (r : Rv) (m : Nv) : Rs Ar := match r with
  | .d x => ret (.d x) (back as m n)
  | .l ds => ret (.d (.list ds)) (back as m n)
def oRv (as : List Ar) (n : Nv) (r : Rv) (m : Nv) : Rs (List PD) := match r with
  | .d _ => none
  | .l ds => ret ds (back as m n)
def eCall (f : Nv → Rs Rv) (fr : Nv → Rs (List Ar)) : Nv → Rs Ar := fun n => bnd (fr n) fun as n1 => if dist as = true then lft (slots n1 as) fun m => cal (f m) n1 (eRv as n1) else none
def oCall (f : Nv → Rs Rv) (fr : Nv → Rs (List Ar)) : Nv → Rs (List PD) := fun n => bnd (fr n) fun as n1 => if dist as = true then lft (slots n1 as) fun m => cal (f m) n1 (oRv as n1) else none
def Ary (k : Nat) (f : Nv → Rs Rv) : Prop := ∀ m x, f m = some x → m.length = k
def ary (k : Nat) (f : Nv → Rs Rv) : Nv → Rs Rv := fun m => if m.length = k then f m else none
theorem ary_ok {k : Nat} {f : Nv → Rs Rv} : Ary k (ary k f) := fun m x h => by
  unfold ary at h
  split at h
  · assumption
  · cases h
section
variable {c : Cz} {k : Nat} {f : Nv → Rs Rv} {ta : TA} {fr : Nv → Rs (List Ar)}
theorem Rz.callee {E : XK} {S σ n H vs as m e} (av : ArVs c.K S σ n H vs as) (hs : slots n as = some m) (hE : E = c.E σ) (h : Rz c S σ n H e) : Rz ⟨c.K, c.cl, fun _ => E⟩ (AV S σ n) (vs.map some) m H e := fun C od H2 x d z => by
  subst hE
  exact h C od H2 (fun a o na ha => x a o (fun q => by
    obtain ⟨i, j, pm, ds, h1, h2, h3, _⟩ := own_callee av hs a q
    exact na ⟨i, pm, ds, h2, h3⟩) ha) d (ErrV.weak z fun a q => .inl q)
theorem call_core {E : Sg → XK} {W : Nv → Hp → V → Ar → Prop} {S σ n1 H1 Q} {vs : List V} {as : List Ar} (hf : Ary k f) (hE : E σ = c.E σ) (R1 : Rel c.K S H1 σ n1) (va : ArVs c.K S σ n1 H1 vs as)
    (h1 : OkG c S (fun n' H' v a => ArV c.K S σ n' H' v a) (if dist as = true then lft (slots n1 as) fun m => cal (f m) n1 (eRv as n1) else none) σ n1 H1 Q) : spM c.K c.cl k f vs H1 Q (E σ) := by
  split at h1
  · rename_i hd
    obtain ⟨m, hs, h1⟩ := h1.lft
    obtain ⟨p1, p2, p3⟩ := call_pre R1 va hs hd
    have hl : ∀ x, f m = some x → vs.length = k := fun x e => by rw [va.len, ← slots_len hs]; exact hf _ _ e
    refine ⟨?_, AV S σ n1, m, p1, p2, p3, ?_⟩
    · cases q : f m with
      | none => rw [q] at h1; exact h1.elim
      | some x => exact hl x q
    · match f m, h1 with
      | some (.error (e, _)), h1 => exact Rz.callee va hs hE (h1 H1 .refl .refl R1)
      | some (.ok (.d x, m')), h1 =>
        intro v H' st R' w
        exact h1 v H' (call_stp va hs st) back_knd (call_rel R1 va hs hd st R' fun a z => z) (Dv.weak w fun a z => .inl (z.elim .inl fun q => .inr ((back_own a).mp q)))
      | some (.ok (.l ds, m')), h1 =>
        intro p ws H' st R' np hp hw
        have fr := call_frs R1 va hs hd st R' np hp hw
        exact h1 _ H' (call_stp va hs st) back_knd fr.rel fr.dv
  · exact h1.elim
theorem de_call {E : XK} (hr : DA c ta fr) (hf : Ary k f) (hE : ∀ σ, E = c.E σ) : DE c (tCall (spM c.K c.cl k f) [] E ta) (eCall f fr) := fun S σ H n Q R h => by
  refine hr S σ H n _ R (OkG.bind h fun vs as n1 H1 s1 k1 R1 va h1 => ?_)
  rw [List.append_nil]
  exact call_core (E := fun _ => E) (W := fun _ _ _ _ => True) hf (hE σ) R1 va h1
theorem de_callS {E : Sg → XK} (hr : DA c ta fr) (hf : Ary k f) (hE : ∀ σ, E σ = c.E σ) : DE c (tCallS (spM c.K c.cl k f) E ta) (eCall f fr) := fun S σ H n Q R h => by
  refine hr S σ H n _ R (OkG.bind h fun vs as n1 H1 s1 k1 R1 va h1 => ?_)
  exact call_core (W := fun _ _ _ _ => True) hf (hE σ) R1 va h1
theorem do_call {E : XK} (hr : DA c ta fr) (hf : Ary k f) (hE : ∀ σ, E = c.E σ) : DO c (tCall (spM c.K c.cl k f) [] E ta) (oCall f fr) := fun S σ H n Q R h => by
  refine hr S σ H n _ R (OkG.bind h fun vs as n1 H1 s1 k1 R1 va h1 => ?_)
  split at h1
  · rename_i hd
    obtain ⟨m, hs, h1⟩ := h1.lft
    obtain ⟨p1, p2, p3⟩ := call_pre R1 va hs hd
    rw [List.append_nil]
    have hl : ∀ x, f m = some x → vs.length = k := fun x e => by rw [va.len, ← slots_len hs]; exact hf _ _ e
    refine ⟨?_, AV S σ n1, m, p1, p2, p3, ?_⟩
    · cases q : f m with
      | none => rw [q] at h1; exact h1.elim
      | some x => exact hl x q
    · match f m, h1 with
      | some (.error (e, _)), h1 => exact Rz.callee va hs (hE σ) (h1 H1 .refl .refl R1)
      | some (.ok (.d x, m')), h1 => exact h1.elim
      | some (.ok (.l ds, m')), h1 =>
        intro p ws H' st R' np hp hw
        have fr := call_frs R1 va hs hd st R' np hp hw
        exact h1 _ H' (call_stp va hs st) back_knd fr.rel ⟨p, rfl, s1.non np, fr⟩
  · exact h1.elim
end
end Dl
set_option Elab.async false
set_option linter.all false
set_option maxRecDepth 100000
namespace Dl
open PySem PySem.Spec PyProof.Rows L2
def JOk (K : PySem.W.Frag) (J : It) (bs : List V) (bd : List PD) (ds : List PD) : Prop := ∀ (H : Hp) (A : AS) (i : Nat), (∀ a, A a → H a ≠ none) → DvA K H A bs bd →
  (ds.length ≤ i → J.stop i H) ∧ ∀ d, ds[i]? = some d → J.go i H ∧ ∀ x H', J.yld i H x H' → NewH H H' ∧ Dv K H' A x d
def DI (c : Cz) (wi : TI) (f : Nv → Rs (List PD)) : Prop := ∀ S σ H n (Q : It → Hp → Prop), Rel c.K S H σ n →
  OkG c S (fun n' H' J ds => ∃ bs bd, DvA c.K H' (AV S σ n') bs bd ∧ JOk c.K J bs bd ds) (f n) σ n H Q → wi σ H Q
def DG (c : Cz) (g : TG) (tg : PD → Nv → Option Nv) : Prop := ∀ S σ H n v d n' (Q : Sg → Hp → Prop), Rel c.K S H σ n → Dv c.K H (AV S σ n) v d → tg d n = some n' →
  (∀ σ', Stp σ n H σ' n' H → Rel c.K S H σ' n' → Q σ' H) → g v σ H Q
def DGs (c : Cz) (g : TGs) (tg : List PD → Nv → Option Nv) : Prop := ∀ S σ H n vs ds n' (Q : Sg → Hp → Prop), Rel c.K S H σ n → DvA c.K H (AV S σ n) vs ds → tg ds n = some n' →
  (∀ σ', Stp σ n H σ' n' H → Rel c.K S H σ' n' → Q σ' H) → g vs σ H Q
def gN (i : Nat) (d : PD) (n : Nv) : Option Nv := if free? n i = true then some (n.set i (.im d)) else none
def gsN (ds : List PD) (n : Nv) : Option Nv := match ds with
  | [] => some n
  | _ => none
def gsC (f : PD → Nv → Option Nv) (g : List PD → Nv → Option Nv) (ds : List PD) (n : Nv) : Option Nv := match ds with
  | d :: r => match f d n with
    | some n1 => g r n1
    | none => none
  | [] => none
def gT (k : Nat) (g : List PD → Nv → Option Nv) (d : PD) (n : Nv) : Option Nv := match d with
  | .tuple ds => if ds.length = k then g ds n else none
  | _ => none
section
variable {c : Cz} {t : TS} {f : Nv → RS} {te : TE} {fe : Nv → Rs Ar}
theorem dg_name {i : Nat} : DG c (gName i) (gN i) := fun S σ H n v d n' Q R h e q => by
  unfold gN at e
  split at e
  · rename_i hf
    cases e
    exact q _ (.setIm (free_of hf)) (R.setIm (free_of hf) h)
  · cases e
theorem dgs_nil : DGs c gNil gsN := fun S σ H n vs ds n' Q R h e q => by
  unfold gsN at e
  split at e
  · cases e
    cases h
    exact ⟨rfl, q _ .refl R⟩
  · cases e
theorem dgs_cons {g : TG} {gs : TGs} {a b} (h1 : DG c g a) (h2 : DGs c gs b) : DGs c (gCons g gs) (gsC a b) := fun S σ H n vs ds n' Q R h e q => by
  unfold gsC at e
  split at e
  · rename_i d r
    split at e
    · rename_i n1 e1
      cases h with
      | cons hv hr =>
        refine ⟨_, _, rfl, h1 S σ H n _ d n1 _ R hv e1 fun σ1 s1 R1 => ?_⟩
        exact h2 S σ1 H n1 _ r n' Q R1 (s1.dvA hr) e fun σ2 s2 R2 => q σ2 (s1.trans s2) R2
    · cases e
  · cases e
theorem dg_tup {gs : TGs} {b} {k : Nat} (h : DGs c gs b) : DG c (gTup c.K k gs) (gT k b) := fun S σ H n v d n' Q R hv e q => by
  unfold gT at e
  split at e
  · split at e
    · rename_i ds hk
      cases hv with
      | tup hs ha => exact ⟨_, _, rfl, hs.sq, by rw [ha.len]; exact hk, h S σ H n _ ds n' Q R ha e q⟩
    · cases e
  · cases e
def sAsg (fe : Nv → Rs Ar) (tg : PD → Nv → Option Nv) : Nv → RS := fun n => sbn (fe n) fun a n1 => match a with
  | .d x => match tg x n1 with
    | some n2 => nxt n2
    | none => none
  | .o _ => none
theorem ds_asg {g : TG} {tg} (h1 : DE c te fe) (h2 : DG c g tg) : DS c (tAsg te g) (sAsg fe tg) := fun S H0 σ H n D R hd h => by
  refine h1 S σ H n _ R (OkS.bind h fun v a n1 H1 s1 k1 R1 va h3 => ?_)
  cases a with
  | o j => exact h3.elim
  | d x =>
    dsimp only at h3
    split at h3
    · rename_i n2 e
      exact h2 S σ H1 n1 v x n2 _ R1 va e fun σ' s R' => h3 σ' H1 s R'
    · exact h3.elim
def lp (k : Nv → RS) (r : RS) : RS := match r with
  | some (.ok (.nx, n)) => k n
  | some (.ok (.ct, n)) => k n
  | some (.ok (.bk, n)) => nxt n
  | r => r
def loopF (tg : PD → Nv → Option Nv) (b : Nv → RS) : List PD → Nv → RS
  | [], n => nxt n
  | d :: r, n => match tg d n with
    | some n1 => lp (loopF tg b r) (b n1)
    | none => none
def sFor (fi : Nv → Rs (List PD)) (tg : PD → Nv → Option Nv) (b : Nv → RS) : Nv → RS := fun n => sbn (fi n) fun ds n1 => loopF tg b ds n1
theorem drop_get {α : Type} {l : List α} {i : Nat} {d : α} (h : l[i]? = some d) : l.drop i = d :: l.drop (i + 1) := by
  obtain ⟨hi, e⟩ := List.getElem?_eq_some_iff.mp h
  rw [List.drop_eq_getElem_cons hi, e]
theorem ds_for {wi : TI} {g : TG} {tb : TS} {fi tg b} (hi : DI c wi fi) (hg : DG c g tg) (hb : DS c tb b) : DS c (tFor wi g tb) (sFor fi tg b) := fun S H0 σ H n D R hd h => by
  refine hi S σ H n _ R (OkS.bind h fun J ds n1 H1 s1 k1 R1 vJ h1 => ?_)
  obtain ⟨bs, bd, hbs, jok⟩ := vJ
  have hd1 := hd.trans s1
  refine ⟨fun i m σ' H' => m = ds.length - i ∧ i ≤ ds.length ∧ ∃ n', Rel c.K S H' σ' n' ∧ Stp σ n1 H1 σ' n' H' ∧ OkS c S H0 (loopF tg b (ds.drop i) n') σ' n' H' D, ⟨ds.length, by simp, Nat.zero_le _, n1, R1, .refl, by simpa using h1⟩, ?_⟩
  rintro i m σ' H' ⟨rfl, hi, n', R', st, ok⟩
  have J' := jok H' (AV S σ' n') i R'.avSome (st.dvA hbs)
  by_cases q : i = ds.length
  · subst q
    refine .inl ⟨J'.1 (Nat.le_refl _), ?_⟩
    rw [List.drop_length] at ok
    exact ok σ' H' .refl R'
  · have hlt : i < ds.length := by omega
    obtain ⟨go, yl⟩ := J'.2 ds[i] (List.getElem?_eq_getElem hlt)
    refine .inr ⟨go, fun σ2 H2 => (i + 1 ≤ ds.length) ∧ ∃ n2, Rel c.K S H2 σ2 n2 ∧ Stp σ n1 H1 σ2 n2 H2 ∧ OkS c S H0 (loopF tg b (ds.drop (i + 1)) n2) σ2 n2 H2 D, fun σ2 H2 hN => ⟨ds.length - (i + 1), by omega, rfl, hN⟩, fun x H2 y => ?_⟩
    obtain ⟨nh, hx⟩ := yl x H2 y
    rw [drop_get (List.getElem?_eq_getElem hlt)] at ok
    unfold loopF at ok
    have sg : Stp σ' n' H' σ' n' H2 := .grown nh
    have R2 := R'.ext nh
    split at ok
    · rename_i n2 e2
      refine hg S σ' H2 n' x _ n2 _ R2 hx e2 fun σ2 s2 R3 => ?_
      refine hb S H0 σ2 H2 n2 _ R3 (hd1.trans (st.trans (sg.trans s2))) ?_
      have ok2 := OkS.move (sg.trans s2) ok
      have st2 := st.trans (sg.trans s2)
      match b n2, ok2 with
      | some (.error e), ok2 => exact ok2
      | some (.ok (.nx, n3)), ok2 => exact fun σ3 H3 s3 R3 => ⟨hlt, n3, R3, st2.trans s3, OkS.move s3 ok2⟩
      | some (.ok (.ct, n3)), ok2 => exact fun σ3 H3 s3 R3 => ⟨hlt, n3, R3, st2.trans s3, OkS.move s3 ok2⟩
      | some (.ok (.bk, n3)), ok2 => exact ok2
      | some (.ok (.rt x, n3)), ok2 => exact ok2
      | none, ok2 => exact ok2
    · exact ok.elim
end
section
variable {c : Cz} {te : TE} {fe : Nv → Rs Ar} {ta : TA} {fa : Nv → Rs (List Ar)}
def iL (fe : Nv → Rs Ar) : Nv → Rs (List PD) := fun n => bnd (fe n) fun a n1 => match a with
  | .d (.list ds) => ret ds n1
  | _ => none
def iT (fe : Nv → Rs Ar) : Nv → Rs (List PD) := fun n => bnd (fe n) fun a n1 => match a with
  | .d (.tuple ds) => ret ds n1
  | _ => none
theorem jok_list {K : PySem.W.Frag} {a : Addr} {ds : List PD} : JOk K (Itl K a) [.ref a] [.list ds] ds := fun H A i na h => by
  cases h with
  | cons h _ =>
    cases h with
    | lst hl ha =>
      refine ⟨fun q => ⟨_, hl.sq, by rw [ha.len]; exact q⟩, fun d e => ?_⟩
      obtain ⟨v, e1, hv⟩ := ha.get e
      exact ⟨⟨_, v, hl.sq, e1⟩, fun x H' ⟨e2, y⟩ => by
        subst e2
        have e3 := y _ hl.sq
        rw [e1] at e3
        cases e3
        exact ⟨.refl, hv⟩⟩
theorem jok_tup {K : PySem.W.Frag} {a : Addr} {ds : List PD} : JOk K (Itt K a) [.ref a] [.tuple ds] ds := fun H A i na h => by
  cases h with
  | cons h _ =>
    cases h with
    | tup hl ha =>
      refine ⟨fun q => ⟨_, hl.sq, by rw [ha.len]; exact q⟩, fun d e => ?_⟩
      obtain ⟨v, e1, hv⟩ := ha.get e
      exact ⟨⟨_, v, hl.sq, e1⟩, fun x H' ⟨e2, y⟩ => by
        subst e2
        have e3 := y _ hl.sq
        rw [e1] at e3
        cases e3
        exact ⟨.refl, hv⟩⟩
theorem di_list (h1 : DE c te fe) : DI c (iList c.K te) (iL fe) := fun S σ H n Q R h => by
  refine h1 S σ H n _ R (OkG.bind h fun v a n1 H1 s1 k1 R1 va h2 => ?_)
  match a, va, h2 with
  | .d (.list ds), va, h2 =>
    cases va with
    | lst hl ha => exact ⟨_, rfl, ⟨_, hl.sq⟩, h2.ret .refl R1 ⟨_, _, .cons (.lst hl ha) .nil, jok_list⟩⟩
theorem di_tup (h1 : DE c te fe) : DI c (iTup c.K te) (iT fe) := fun S σ H n Q R h => by
  refine h1 S σ H n _ R (OkG.bind h fun v a n1 H1 s1 k1 R1 va h2 => ?_)
  match a, va, h2 with
  | .d (.tuple ds), va, h2 =>
    cases va with
    | tup hl ha => exact ⟨_, rfl, ⟨_, hl.sq⟩, h2.ret .refl R1 ⟨_, _, .cons (.tup hl ha) .nil, jok_tup⟩⟩
def rngD (lo : Int) (k : Nat) : List PD := (List.range k).map fun (i : Nat) => .int (lo + (i : Int))
theorem jok_rng {K : PySem.W.Frag} {lo : Int} {k : Nat} : JOk K (Itr lo k) [] [] (rngD lo k) := fun H A i na h => by
  refine ⟨fun q => show k ≤ i by simpa [rngD] using q, fun d e => ?_⟩
  have hi : i < k := by
    have := (List.getElem?_eq_some_iff.mp e).1
    simpa [rngD] using this
  have e2 : d = .int (lo + (i : Int)) := by
    simp [rngD, hi] at e
    exact e.symm
  subst e2
  exact ⟨hi, fun x H' ⟨e3, y⟩ => by subst e3 y; exact ⟨.refl, .int _⟩⟩
def in62 (i : Int) : Bool := decide (-(2 ^ 62) ≤ i) && decide (i < 2 ^ 62)
theorem in62_of {i : Int} (h : in62 i = true) : -(2 ^ 62) ≤ i ∧ i < 2 ^ 62 := by
  unfold in62 at h
  simpa using h
def iR1 (fa : Nv → Rs (List Ar)) : Nv → Rs (List PD) := fun n => bnd (fa n) fun as n1 => match as with
  | [.d (.int j)] => if in62 j = true then ret (rngD 0 j.toNat) n1 else none
  | _ => none
def iR2 (fa : Nv → Rs (List Ar)) : Nv → Rs (List PD) := fun n => bnd (fa n) fun as n1 => match as with
  | [.d (.int i), .d (.int j)] => if in62 i = true then if in62 j = true then ret (rngD i (j - i).toNat) n1 else none else none
  | _ => none
theorem di_rng1 (h1 : DA c ta fa) : DI c (iRng1 ta) (iR1 fa) := fun S σ H n Q R h => by
  refine h1 S σ H n _ R (OkG.bind h fun vs as n1 H1 s1 k1 R1 va h2 => ?_)
  match as, va, h2 with
  | [.d (.int j)], va, h2 =>
    cases va with
    | cons a r =>
      cases a
      cases r
      dsimp only at h2
      split at h2
      · rename_i q
        exact ⟨j, rfl, (in62_of q).1, (in62_of q).2, h2.ret .refl R1 ⟨[], [], .nil, jok_rng⟩⟩
      · exact h2.elim
theorem di_rng2 (h1 : DA c ta fa) : DI c (iRng2 ta) (iR2 fa) := fun S σ H n Q R h => by
  refine h1 S σ H n _ R (OkG.bind h fun vs as n1 H1 s1 k1 R1 va h2 => ?_)
  match as, va, h2 with
  | [.d (.int i), .d (.int j)], va, h2 =>
    cases va with
    | cons a r =>
      cases a
      cases r with
      | cons b r =>
        cases b
        cases r
        dsimp only at h2
        split at h2
        · rename_i q
          split at h2
          · rename_i q2
            exact ⟨i, j, rfl, ⟨(in62_of q).1, (in62_of q).2, (in62_of q2).1, (in62_of q2).2⟩, h2.ret .refl R1 ⟨[], [], .nil, jok_rng⟩⟩
          · exact h2.elim
        · exact h2.elim
end
end Dl
set_option Elab.async false
set_option linter.all false
set_option maxRecDepth 100000
namespace Dl
open PySem PySem.Spec PyProof.Rows L2
def wipeN (n : Nv) : List Nat → Nv
  | [] => n
  | v :: vs => (wipeN n vs).set v .un
def clr (n : Nv) (vs : List Nat) : Bool := vs.all fun i => match n[i]? with
  | some .un => true
  | _ => false
def noE {α : Type} (r : Rs α) : Rs α := match r with
  | some (.error _) => none
  | r => r
def elemK (vs : List Nat) (rest : Nv → Rs (List PD)) (a : Ar) (n : Nv) : Rs (List PD) := match a with
  | .d x => if vs.all (free? n) = true then bnd (rest (wipeN n vs)) fun xs n4 => ret (x :: xs) n4 else none
  | .o _ => none
def compF (vs : List Nat) (tg : PD → Nv → Option Nv) (ft : Nv → Rs Bool) (fe : Nv → Rs Ar) : List PD → Nv → Rs (List PD)
  | [], n => ret [] n
  | d :: r, n => lft (tg d n) fun n1 => bnd (noE (ft n1)) fun b n2 =>
    if b = true then bnd (noE (fe n2)) (elemK vs (compF vs tg ft fe r))
    else if vs.all (free? n2) = true then compF vs tg ft fe r (wipeN n2 vs) else none
def kndB : Nv → Nv → Bool
  | [], _ => true
  | .ow p _ :: r, .ow q _ :: r' => (p == q) && kndB r r'
  | .ow _ _ :: _, _ => false
  | _ :: r, _ :: r' => kndB r r'
  | _ :: r, [] => kndB r []
theorem kndB_of : ∀ {n n' : Nv}, kndB n n' = true → Knd n n'
  | [], _, _ => fun i pm ds e => by simp at e
  | .ow p ds0 :: r, .ow q es0 :: r', h => fun i pm ds e => by
    simp only [kndB, Bool.and_eq_true, beq_iff_eq] at h
    cases i with
    | zero => simp at e; exact ⟨es0, by simp [← h.1, e.1]⟩
    | succ i => simpa using kndB_of h.2 i pm ds (by simpa using e)
  | .ow p _ :: _, .im _ :: _, h => by simp [kndB] at h
  | .ow p _ :: _, .un :: _, h => by simp [kndB] at h
  | .ow p _ :: _, [], h => by simp [kndB] at h
  | .im _ :: r, s :: r', h => fun i pm ds e => by
    cases i with
    | zero => simp at e
    | succ i => simpa using kndB_of (n := r) (n' := r') (by simpa [kndB] using h) i pm ds (by simpa using e)
  | .un :: r, s :: r', h => fun i pm ds e => by
    cases i with
    | zero => simp at e
    | succ i => simpa using kndB_of (n := r) (n' := r') (by simpa [kndB] using h) i pm ds (by simpa using e)
  | .im _ :: r, [], h => fun i pm ds e => by
    cases i with
    | zero => simp at e
    | succ i =>
      obtain ⟨es, q⟩ := kndB_of (n := r) (n' := []) (by simpa [kndB] using h) i pm ds (by simpa using e)
      simp at q
  | .un :: r, [], h => fun i pm ds e => by
    cases i with
    | zero => simp at e
    | succ i =>
      obtain ⟨es, q⟩ := kndB_of (n := r) (n' := []) (by simpa [kndB] using h) i pm ds (by simpa using e)
      simp at q
def oComp (vs : List Nat) (fi : Nv → Rs (List PD)) (tg : PD → Nv → Option Nv) (ft : Nv → Rs Bool) (fe : Nv → Rs Ar) : Nv → Rs (List PD) := fun n => bnd (fi n) fun ds n1 =>
  if clr n1 vs = true then if decide (ds.length < sizeLine) = true then bnd (compF vs tg ft fe ds n1) fun xs n2 => if kndB n1 n2 = true then ret xs n2 else none else none else none
def GIn (g : TG) (vs : List Nat) : Prop := ∀ v σ H Q, g v σ H Q → g v σ H fun σ' H' => Q σ' H' ∧ wipe σ' vs = wipe σ vs
def GsIn (g : TGs) (vs : List Nat) : Prop := ∀ v σ H Q, g v σ H Q → g v σ H fun σ' H' => Q σ' H' ∧ wipe σ' vs = wipe σ vs
theorem wipe_set {σ : Sg} {i : Nat} {x : Option V} : ∀ {vs : List Nat}, i ∈ vs → wipe (σ.set i x) vs = wipe σ vs
  | v :: vs, h => by
    unfold wipe
    by_cases q : i ∈ vs
    · rw [wipe_set q]
    · have e : v = i := by
        rcases List.mem_cons.mp h with z | z
        · exact z.symm
        · exact (q z).elim
      subst e
      have aux : ∀ {us : List Nat} {τ : Sg}, v ∉ us → wipe (τ.set v x) us = (wipe τ us).set v x := fun {us τ} => by
        induction us with
        | nil => intro _; rfl
        | cons u us ih =>
          intro h2
          simp only [List.mem_cons, not_or] at h2
          unfold wipe
          rw [ih h2.2, List.set_comm _ _ h2.1]
      rw [aux q, List.set_set]
theorem gin_name {i : Nat} {vs : List Nat} (h : i ∈ vs) : GIn (gName i) vs := fun v σ H Q q => ⟨q, wipe_set h⟩
theorem gsin_nil {vs : List Nat} : GsIn gNil vs := fun v σ H Q ⟨e, q⟩ => ⟨e, q, rfl⟩
theorem gsin_cons {g : TG} {gs : TGs} {vs : List Nat} (h1 : GIn g vs) (m : ∀ v σ H Q Q', (∀ σ' H', Q σ' H' → Q' σ' H') → g v σ H Q → g v σ H Q') (h2 : GsIn gs vs) : GsIn (gCons g gs) vs := fun v σ H Q ⟨x, r, e, q⟩ =>
  ⟨x, r, e, m _ _ _ _ _ (fun σ' H' ⟨z1, z2⟩ => by
    have w := h2 _ _ _ _ z1
    rw [z2] at w
    exact w) (h1 _ _ _ _ q)⟩
theorem mono_name {i : Nat} : ∀ v σ H (Q Q' : Sg → Hp → Prop), (∀ σ' H', Q σ' H' → Q' σ' H') → gName i v σ H Q → gName i v σ H Q' := fun _ _ _ _ _ h q => h _ _ q
theorem gin_tup {K : PySem.W.Frag} {k : Nat} {gs : TGs} {vs : List Nat} (h : GsIn gs vs) : GIn (gTup K k gs) vs := fun v σ H Q ⟨a, xs, e1, e2, e3, q⟩ => ⟨a, xs, e1, e2, e3, h _ _ _ _ q⟩
section
variable {c : Cz} {S : AS} {H H' : Hp} {σ : Sg} {n n' : Nv}
theorem noE_ok {α β : Type} {W : Nv → Hp → β → α → Prop} {r : Rs α} {Q : β → Hp → Prop} {c' : Cz} (e : c'.K = c.K) (h : OkG c S W (noE r) σ n H Q) : OkG c' S W r σ n H Q := by
  match r, h with
  | some (.ok (a, n')), h => exact fun v H' s k R w => h v H' s k (e ▸ R) w
theorem wipeN_len : ∀ {vs : List Nat}, (wipeN n vs).length = n.length
  | [] => rfl
  | v :: vs => by unfold wipeN; rw [List.length_set, wipeN_len]
theorem fre_wipe {vs : List Nat} (h : ∀ i ∈ vs, Fre n i) : ∀ i, Fre n i → Fre (wipeN n vs) i := by
  induction vs with
  | nil => exact fun i h => h
  | cons v vs ih =>
    intro i hi ds e
    unfold wipeN at e
    by_cases q : v = i
    · subst q
      exact nomatch (get_set_at e).1
    · rw [get_set_ne q] at e
      exact ih (fun j hj => h j (List.mem_cons_of_mem _ hj)) i hi ds e
theorem wipe_rel {vs : List Nat} (R : Rel c.K S H σ n) (h : ∀ i ∈ vs, Fre n i) : Rel c.K S H (wipe σ vs) (wipeN n vs) ∧ Stp σ n H (wipe σ vs) (wipeN n vs) H := by
  induction vs with
  | nil => exact ⟨R, .refl⟩
  | cons v vs ih =>
    have hm : ∀ i ∈ vs, Fre n i := fun i hi => h i (List.mem_cons_of_mem _ hi)
    obtain ⟨r1, s1⟩ := ih hm
    have hf : Fre (wipeN n vs) v := fre_wipe hm v (h v (List.mem_cons_self ..))
    exact ⟨r1.setUn hf, s1.trans (.setUn hf)⟩
theorem clr_at {vs : List Nat} (h : clr n vs = true) : ∀ i ∈ vs, n[i]? = some .un := fun i hi => by
  have z := List.all_eq_true.mp h i hi
  split at z
  · rename_i e
    exact e
  · cases z
theorem wipeN_clr {vs : List Nat} (h : ∀ i ∈ vs, n[i]? = some .un) : wipeN n vs = n := by
  induction vs with
  | nil => rfl
  | cons v vs ih =>
    unfold wipeN
    rw [ih fun i hi => h i (List.mem_cons_of_mem _ hi)]
    have e := h v (List.mem_cons_self ..)
    refine List.ext_getElem? fun j => ?_
    by_cases q : v = j
    · subst q
      rw [List.getElem?_set_self (List.getElem?_eq_some_iff.mp e).1, e]
    · rw [get_set_ne q]
theorem wipeN_at : ∀ {vs : List Nat} {i : Nat}, i ∈ vs → i < n.length → (wipeN n vs)[i]? = some .un
  | v :: vs, i, h, hl => by
    unfold wipeN
    by_cases q : v = i
    · subst q
      rw [List.getElem?_set_self (by rw [wipeN_len]; exact hl)]
    · rw [get_set_ne q]
      exact wipeN_at ((List.mem_cons.mp h).resolve_left (Ne.symm q)) hl
theorem wipe_ne : ∀ {vs : List Nat} {i : Nat}, i ∉ vs → (wipe σ vs)[i]? = σ[i]?
  | [], i, h => rfl
  | v :: vs, i, h => by
    unfold wipe
    simp only [List.mem_cons, not_or] at h
    rw [get_set_ne (Ne.symm h.1), wipe_ne h.2]
theorem Rel.swap {σ' : Sg} (R : Rel c.K S H σ n) (hl : σ'.length = σ.length) (h : ∀ i : Nat, n[i]? ≠ some .un → σ'[i]? = σ[i]?) : Rel c.K S H σ' n := by
  have ow : ∀ a, Own σ' n a → Own σ n a := fun a ⟨i, pm, ds, e1, e2⟩ => ⟨i, pm, ds, e1, by rw [← h i (by rw [e1]; simp)]; exact e2⟩
  have av : ∀ a, AV S σ' n a → AV S σ n a := fun a z => z.elim .inl fun q => .inr (ow a q)
  refine ⟨by rw [hl]; exact R.len, fun i d e => ?_, fun i pm ds e => ?_, fun i j pm qm ds es p h1 h2 h3 h4 => ?_, R.trk⟩
  · obtain ⟨v, h1, h2⟩ := R.im i d e
    exact ⟨v, by rw [h i (by rw [e]; simp)]; exact h1, h2.weak av⟩
  · obtain ⟨p, vs, h1, h2, h3, h4⟩ := R.ow i pm ds e
    exact ⟨p, vs, by rw [h i (by rw [e]; simp)]; exact h1, h2, h3.weak av, h4⟩
  · exact R.inj i j pm qm ds es p h1 h2 (by rw [← h i (by rw [h1]; simp)]; exact h3) (by rw [← h j (by rw [h2]; simp)]; exact h4)
theorem Rel.updD {D : Addr} {o : HO} (R : Rel c.K S H σ n) (hD : S D) (no : ¬ Own σ n D) : Rel c.K S (L2.upd H D o) σ n := by
  have ex : Ext (fun a => a = D) H (L2.upd H D o) := fun a u z e => by rw [upd_ne z]; exact e
  have sb : ∀ a, a = D → AV S σ n a := fun a z => z ▸ .inl hD
  refine ⟨R.len, fun i d e => ?_, fun i pm ds e => ?_, R.inj, fun a q => ?_⟩
  · obtain ⟨v, h1, h2⟩ := R.im i d e
    exact ⟨v, h1, h2.mono ex sb fun a z => .inl z⟩
  · obtain ⟨p, vs, h1, h2, h3, h4⟩ := R.ow i pm ds e
    exact ⟨p, vs, h1, ex _ _ (fun z => no ⟨i, pm, ds, e, z ▸ h1⟩) h2, h3.mono ex sb (fun a z => .inl z), h4⟩
  · by_cases z : a = D
    · subst z
      rw [upd_same]
      simp
    · rw [upd_ne z]
      exact R.trk a q
theorem Stp.swap {σ' : Sg} (hl : σ'.length = σ.length) (h : ∀ i : Nat, n[i]? ≠ some .un → σ'[i]? = σ[i]?) : Stp σ n H σ' n H :=
  ⟨fun _ _ _ h => h, fun a ⟨i, pm, ds, e1, e2⟩ => .inl ⟨i, pm, ds, e1, by rw [← h i (by rw [e1]; simp)]; exact e2⟩, fun _ h => h, fun i ds e => ⟨h i (by rw [e]; simp), ds, e⟩⟩
end
theorem wipe_wipe {σ : Sg} : ∀ vs : List Nat, wipe (wipe σ vs) vs = wipe σ vs := fun vs => by
  refine List.ext_getElem? fun j => ?_
  by_cases q : j ∈ vs
  · have aux : ∀ {us : List Nat} {τ : Sg}, j ∈ us → (wipe τ us)[j]? = if j < τ.length then some none else none := fun {us τ} => by
      induction us with
      | nil => intro h; cases h
      | cons u us ih =>
        intro h
        unfold wipe
        by_cases z : u = j
        · subst z
          by_cases l : u < τ.length
          · rw [List.getElem?_set_self (by rw [wipe_length]; exact l), if_pos l]
          · rw [List.getElem?_eq_none (by rw [List.length_set, wipe_length]; omega), if_neg l]
        · rw [get_set_ne z]
          exact ih ((List.mem_cons.mp h).resolve_left (Ne.symm z))
    rw [aux q, aux q, wipe_length]
  · rw [wipe_ne q]
theorem Stp.updD {σ σ' : Sg} {n n' : Nv} {H H' : Hp} {D : Addr} {o : HO} (st : Stp σ n H σ' n' H') (h : H D = none) : Stp σ n H σ' n' (L2.upd H' D o) where
  ext := fun a u na e => by
    rw [upd_ne (ne_of_none e h)]
    exact st.ext a u na e
  own := st.own
  dom := fun a z => by
    by_cases q : a = D
    · subst q
      rw [upd_same]
      simp
    · rw [upd_ne q]
      exact st.dom a z
  pmk := st.pmk
theorem Rel.weakS {K : PySem.W.Frag} {S S' : AS} {H : Hp} {σ : Sg} {n : Nv} (R : Rel K S' H σ n) (h : ∀ a, S a → S' a) : Rel K S H σ n :=
  ⟨R.len, fun i d e => let ⟨v, h1, h2⟩ := R.im i d e; ⟨v, h1, h2.weak fun a z => z.elim (fun q => .inl (h a q)) .inr⟩,
    fun i pm ds e => let ⟨p, vs, h1, h2, h3, h4⟩ := R.ow i pm ds e; ⟨p, vs, h1, h2, h3.weak fun a z => z.elim (fun q => .inl (h a q)) .inr, fun q z => h4 q (h p z)⟩, R.inj, fun a z => R.trk a (h a z)⟩
section
variable {c : Cz} {te : TE} {fe : Nv → Rs Ar} {tt : TT} {ft : Nv → Rs Bool}
theorem do_comp {wi : TI} {g : TG} {fi tg} {vs : List Nat} (hi : DI c wi fi) (hg : DG c g tg) (gi : GIn g vs) (ht : DT ⟨c.K, c.cl, fun _ _ _ _ => False⟩ tt ft) (he : DE ⟨c.K, c.cl, fun _ _ _ _ => False⟩ te fe)
    (gm : ∀ v σ H (Q Q' : Sg → Hp → Prop), (∀ σ' H', Q σ' H' → Q' σ' H') → g v σ H Q → g v σ H Q') : DO c (tLc wi g tt te vs) (oComp vs fi tg ft fe) := fun S σ H n Q R h => by
  refine hi S σ H n _ R (OkG.bind h fun J ds n1 H1 s1 k1 R1 vJ h1 => ?_)
  obtain ⟨bs, bd, hbs, jok⟩ := vJ
  split at h1
  case isFalse => exact h1.elim
  rename_i hc
  split at h1
  case isFalse => exact h1.elim
  rename_i hz
  have hz := of_decide_eq_true hz
  have hun := clr_at hc
  intro D nD
  have sw : ∀ i : Nat, n1[i]? ≠ some .un → (wipe σ vs)[i]? = σ[i]? := fun i q => wipe_ne fun z => q (hun i z)
  have wl : (wipe σ vs).length = σ.length := wipe_length σ vs
  have R1w : Rel c.K S H1 (wipe σ vs) n1 := R1.swap wl sw
  have S1w : Stp σ n1 H1 (wipe σ vs) n1 H1 := .swap wl sw
  have extA : ∀ {v : HO} {d : Ct}, CtV c.K H1 (AV S (wipe σ vs) n1) v d → CtV c.K (L2.upd H1 D (.lst [])) (AV (fun a => S a ∨ a = D) (wipe σ vs) n1) v d := fun z =>
    z.mono (S := fun _ => False) (Ext.new nD) (fun _ z => z.elim) fun a z => z.elim (fun q => q.elim (fun w => .inl (.inl w)) fun w => .inr (w ▸ nD)) fun q => .inl (.inr q)
  have R0 : Rel c.K (fun a => S a ∨ a = D) (L2.upd H1 D (.lst [])) (wipe σ vs) n1 := by
    refine ⟨R1w.len, fun i d e => ?_, fun i pm es e => ?_, R1w.inj, fun a z => ?_⟩
    · obtain ⟨v, h1, h2⟩ := R1w.im i d e
      refine ⟨v, h1, h2.mono (S := fun _ => False) (Ext.new nD) (fun _ z => z.elim) fun a z => z.elim (fun q => q.elim (fun w => .inl (.inl w)) fun w => .inr (w ▸ nD)) fun q => .inl (.inr q)⟩
    · obtain ⟨p, us, h1, h2, h3, h4⟩ := R1w.ow i pm es e
      exact ⟨p, us, h1, NewH.upd nD _ _ h2, extA h3, fun q z => z.elim (h4 q) fun w => by rw [w, nD] at h2; cases h2⟩
    · rcases z with z | z
      · exact (NewH.upd nD).dom a (R1w.trk a z)
      · subst z
        rw [upd_same]
        simp
  have noD0 : ¬ Own (wipe σ vs) n1 D := fun z => R1w.ownSome D z nD
  have hbw := S1w.dvA hbs
  refine ⟨fun i m H' => m = ds.length - i ∧ i ≤ ds.length ∧ ∃ (n' : Nv) (acc : List V) (xs : List PD), Rel c.K (fun a => S a ∨ a = D) H' (wipe σ vs) n' ∧ (∀ j ∈ vs, n'[j]? = some .un) ∧
      Stp (wipe σ vs) n1 H1 (wipe σ vs) n' H' ∧ H' D = some (.lst acc) ∧ DvA c.K H' (AV (fun a => S a ∨ a = D) (wipe σ vs) n') acc xs ∧ ¬ Own (wipe σ vs) n' D ∧ xs.length ≤ i ∧
      OkG c S (fun n'' H'' v zs => ∃ p, v = .ref p ∧ H p = none ∧ Frs c.K S σ n'' H'' p (.l zs)) (bnd (compF vs tg ft fe (ds.drop i) n') fun ys n2 => if kndB n1 n2 = true then ret (xs ++ ys) n2 else none) σ n1 H1 Q, ⟨ds.length, ?_⟩, ?_⟩
  · refine ⟨by simp, Nat.zero_le _, n1, [], [], R0, hun, .updD .refl nD, upd_same, .nil, noD0, Nat.le_refl _, ?_⟩
    simpa using h1
  · rintro i m H' ⟨rfl, hi, n', acc, xs, R', un', st, hD, hacc, noD, hlen, ok⟩
    have J' := jok H' (AV (fun a => S a ∨ a = D) (wipe σ vs) n') i R'.avSome (hbw.mono st.ext (fun _ z => .inr z) fun a z => z.elim (fun q => q.elim (fun w => .inl (.inl w)) fun w => .inr (w ▸ nD)) fun q => (st.own a q).elim (fun w => .inl (.inr w)) .inr)
    by_cases q : i = ds.length
    · subst q
      refine .inl ⟨J'.1 (Nat.le_refl _), ?_⟩
      rw [List.drop_length] at ok
      unfold compF at ok
      rw [bnd_ret] at ok
      split at ok
      case isFalse => exact ok.elim
      rename_i hk
      have sw' : ∀ i : Nat, n'[i]? ≠ some .un → σ[i]? = (wipe σ vs)[i]? := fun i q => (wipe_ne fun z => q (un' i z)).symm
      have RS' : Rel c.K (fun a => S a ∨ a = D) H' σ n' := R'.swap wl.symm sw'
      have ownE : ∀ a, Own σ n' a → Own (wipe σ vs) n' a := fun a ⟨i, pm, es, e1, e2⟩ => ⟨i, pm, es, e1, by rw [← sw' i (by rw [e1]; simp)]; exact e2⟩
      have Rf : Rel c.K S H' σ n' := RS'.weakS fun a z => .inl z
      have st' : Stp σ n1 H1 σ n' H' := S1w.trans (st.trans (.swap wl.symm sw'))
      rw [List.append_nil] at ok
      refine ok _ H' st' (kndB_of hk) Rf ⟨D, rfl, s1.non nD, Rf, fun z => ?_, ⟨.lst acc, hD, DvA.weak hacc fun a z => ?_⟩, fun i d e => ?_, fun i pm es e => ?_⟩
      · rcases z with z | z
        · exact R1.trk D z nD
        · exact noD (ownE D z)
      · rcases z with z | z
        · exact z.elim (fun q => .inl (.inl q)) fun q => .inr (ownE a q)
        · exact .inl (.inr z)
      · obtain ⟨v, g1, g2⟩ := RS'.im i d e
        exact ⟨v, g1, g2.weak fun a z => z.elim (fun q => q.elim (fun w => .inl (.inl w)) .inr) fun q => .inl (.inr q)⟩
      · obtain ⟨p, us, g1, g2, g3, _⟩ := RS'.ow i pm es e
        exact ⟨p, us, g1, g2, g3.weak fun a z => z.elim (fun q => q.elim (fun w => .inl (.inl w)) .inr) fun q => .inl (.inr q)⟩
    · have hlt : i < ds.length := by omega
      obtain ⟨go, yl⟩ := J'.2 ds[i] (List.getElem?_eq_getElem hlt)
      refine .inr ⟨go, fun H2 => (i + 1 ≤ ds.length) ∧ ∃ (n' : Nv) (acc : List V) (xs : List PD), Rel c.K (fun a => S a ∨ a = D) H2 (wipe σ vs) n' ∧ (∀ j ∈ vs, n'[j]? = some .un) ∧
        Stp (wipe σ vs) n1 H1 (wipe σ vs) n' H2 ∧ H2 D = some (.lst acc) ∧ DvA c.K H2 (AV (fun a => S a ∨ a = D) (wipe σ vs) n') acc xs ∧ ¬ Own (wipe σ vs) n' D ∧ xs.length ≤ i + 1 ∧
        OkG c S (fun n'' H'' v zs => ∃ p, v = .ref p ∧ H p = none ∧ Frs c.K S σ n'' H'' p (.l zs)) (bnd (compF vs tg ft fe (ds.drop (i + 1)) n') fun ys n2 => if kndB n1 n2 = true then ret (xs ++ ys) n2 else none) σ n1 H1 Q, fun H2 hN => ⟨ds.length - (i + 1), by omega, rfl, hN⟩, fun x H2 y => ?_⟩
      obtain ⟨nh, hx⟩ := yl x H2 y
      rw [drop_get (List.getElem?_eq_getElem hlt)] at ok
      unfold compF at ok
      have sg : Stp (wipe σ vs) n' H' (wipe σ vs) n' H2 := .grown nh
      have R2 := R'.ext nh
      cases et : tg ds[i] n' with
      | none =>
        rw [et] at ok
        exact ok.elim
      | some n2 =>
      rw [et, lft_some] at ok
      refine gm _ _ _ _ _ (fun σ2 H2' z => ?_) (gi x _ H2 _ (hg _ _ H2 n' x _ n2 (fun σ2 H3 => H3 = H2 ∧ Stp (wipe σ vs) n' H2 σ2 n2 H2 ∧ Rel c.K (fun a => S a ∨ a = D) H2 σ2 n2) R2 hx et fun σ2 s2 R3 => ⟨rfl, s2, R3⟩))
      obtain ⟨⟨e1, s2, R3⟩, ew⟩ := z
      subst e1
      rw [wipe_wipe] at ew
      refine ⟨ew, ?_⟩
      have s2' := sg.trans s2
      -- behind the block's step: a common end
      have wp : ∀ {n3 : Nv} {H3 : Hp}, Rel c.K (fun a => S a ∨ a = D) H3 σ2 n3 → Stp (wipe σ vs) n' H' σ2 n3 H3 → vs.all (free? n3) = true →
          Rel c.K (fun a => S a ∨ a = D) H3 (wipe σ vs) (wipeN n3 vs) ∧ (∀ j ∈ vs, (wipeN n3 vs)[j]? = some .un) ∧ Stp (wipe σ vs) n' H' (wipe σ vs) (wipeN n3 vs) H3 ∧ Stp σ2 n3 H3 (wipe σ vs) (wipeN n3 vs) H3 ∧ H3 D = some (.lst acc) ∧
          DvA c.K H3 (AV (fun a => S a ∨ a = D) (wipe σ vs) (wipeN n3 vs)) acc xs ∧ ¬ Own (wipe σ vs) (wipeN n3 vs) D := fun {n3 H3} r s hf => by
        have hf' : ∀ i ∈ vs, Fre n3 i := fun i hi => free_of (List.all_eq_true.mp hf i hi)
        obtain ⟨w1, w2⟩ := wipe_rel (c := c) r hf'
        rw [ew] at w1 w2
        have sA := s.trans w2
        refine ⟨w1, fun j hj => wipeN_at hj ?_, sA, w2, sA.ext D _ noD hD, sA.dvA hacc, fun z => ?_⟩
        · have l1 := r.len
          have l2 : σ2.length = σ.length := by
            have := congrArg List.length ew
            rwa [wipe_length, wipe_length] at this
          have l3 := R1.len
          have l4 := (List.getElem?_eq_some_iff.mp (hun j hj)).1
          omega
        · rcases sA.own D z with q | q
          · exact noD q
          · rw [hD] at q
            cases q
      refine ht (fun a => S a ∨ a = D) σ2 H2' n2 _ R3 ?_
      match eb : ft n2, ok with
      | some (.ok (b, n3)), ok =>
        intro v H3 s3 k3 R4 vb
        subst vb
        cases v with
        | false =>
          have ok : OkG c S _ (bnd (if vs.all (free? n3) = true then compF vs tg ft fe (ds.drop (i + 1)) (wipeN n3 vs) else none) _) σ n1 H1 Q := ok
          rw [if_neg (by simp)]
          split at ok
          case isFalse => exact ok.elim
          rename_i hf
          obtain ⟨w1, w2, w3, _, w4, w5, w6⟩ := wp R4 (s2'.trans s3) hf
          exact ⟨hlt, _, acc, xs, w1, w2, st.trans w3, w4, w5, w6, by omega, ok⟩
        | true =>
          have ok : OkG c S _ (bnd (bnd (noE (fe n3)) (elemK vs (compF vs tg ft fe (ds.drop (i + 1))))) _) σ n1 H1 Q := ok
          rw [if_pos rfl]
          refine he (fun a => S a ∨ a = D) σ2 H3 n3 _ R4 ?_
          match ee : fe n3, ok with
          | some (.ok (.d z, n4)), ok =>
            intro yv H4 s4 k4 R5 hy
            have ok : OkG c S _ (bnd (if vs.all (free? n4) = true then bnd (compF vs tg ft fe (ds.drop (i + 1)) (wipeN n4 vs)) fun xs n4 => ret (z :: xs) n4 else none) _) σ n1 H1 Q := ok
            split at ok
            case isFalse => exact ok.elim
            rename_i hf
            obtain ⟨w1, w2, w3, w7, w4, w5, w6⟩ := wp R5 ((s2'.trans s3).trans s4) hf
            have ex : Ext (fun a => a = D) H4 (L2.upd H4 D (.lst (acc ++ [yv]))) := fun a u z e => by rw [upd_ne z]; exact e
            have sb : ∀ a, a = D → AV (fun a => S a ∨ a = D) (wipe σ vs) (wipeN n4 vs) a := fun a z => .inl (.inr z)
            have hl := hacc.len
            refine ⟨acc, w4, by omega, hlt, _, acc ++ [yv], xs ++ [z], w1.updD (c := c) (.inr rfl) w6, w2, (st.trans w3).updD nD, upd_same, ?_, w6, by simp; omega, ?_⟩
            · exact DvA.mono ex sb (fun a z => .inl z) (w5.append (.cons (w7.dv hy) .nil))
            · cases ec : compF vs tg ft fe (ds.drop (i + 1)) (wipeN n4 vs) with
              | none => rw [ec] at ok; exact ok.elim
              | some r =>
                cases r with
                | error e => rw [ec] at ok; exact ok
                | ok p =>
                  rw [ec] at ok
                  obtain ⟨ys, n5⟩ := p
                  simpa [bnd, ret] using ok
end
end Dl
set_option Elab.async false
set_option linter.all false
set_option maxRecDepth 100000
namespace Dl
open PySem PySem.Spec PyProof.Rows L2
section
variable {K : PySem.W.Frag} {S : AS} {H : Hp} {σ : Sg} {n : Nv} {i : Nat} {pm : Bool} {ct ct' : Ct} {p : Addr} {o o' : HO}
theorem put_own (e : n[i]? = some (.ow pm ct)) : ∀ a, Own σ (n.set i (.ow pm ct')) a → Own σ n a := fun a ⟨j, qm, ds, e1, e2⟩ => by
  by_cases q : i = j
  · subst q
    have z := (get_set_at e1).1
    cases z
    exact ⟨i, pm, ct, e, e2⟩
  · rw [get_set_ne q] at e1
    exact ⟨j, qm, ds, e1, e2⟩
theorem Rel.put (R : Rel K S H σ n) (e : n[i]? = some (.ow pm ct)) (ep : σ[i]? = some (some (.ref p))) (hc : CtV K H (AV S σ n) o' ct') :
    Rel K S (L2.upd H p o') σ (n.set i (.ow pm ct')) ∧ Stp σ n H σ (n.set i (.ow pm ct')) (L2.upd H p o') ∧ Knd n (n.set i (.ow pm ct')) := by
  have ho : Own σ n p := ⟨i, pm, ct, e, ep⟩
  have ex : Ext (fun a => a = p) H (L2.upd H p o') := fun a u z q => by rw [upd_ne z]; exact q
  have sb : ∀ a, a = p → AV S σ n a := fun a z => z ▸ .inr ho
  have hi : i < n.length := (List.getElem?_eq_some_iff.mp e).1
  have po := put_own (σ := σ) (ct' := ct') e
  have dm : ∀ a, H a ≠ none → (L2.upd H p o') a ≠ none := fun a z => by
    by_cases q : a = p
    · subst q
      rw [upd_same]
      simp
    · rw [upd_ne q]
      exact z
  have av : ∀ a, AV S σ (n.set i (.ow pm ct')) a → AV S σ n a ∨ H a = none := fun a z => .inl (z.elim .inl fun q => .inr (po a q))
  refine ⟨⟨by simp [R.len], fun j d q => ?_, fun j qm ds q => ?_, fun j k qm qm' ds es r h1 h2 h3 h4 => ?_, fun a z => dm a (R.trk a z)⟩, ⟨fun a u na q => ex a u (fun z => na (z ▸ ho)) q, fun a z => .inl (po a z), dm, fun j ds q => ⟨rfl, ?_⟩⟩, fun j qm ds q => ?_⟩
  · by_cases z : i = j
    · subst z
      exact nomatch (get_set_at q).1
    · rw [get_set_ne z] at q
      obtain ⟨v, h1, h2⟩ := R.im j d q
      exact ⟨v, h1, h2.mono ex sb av⟩
  · by_cases z : i = j
    · subst z
      have w := (get_set_at q).1
      cases w
      obtain ⟨p', o0, h1, _, _, h4⟩ := R.ow i pm ct e
      rw [ep] at h1
      cases h1
      exact ⟨p, o', ep, upd_same, hc.mono ex sb av, h4⟩
    · rw [get_set_ne z] at q
      obtain ⟨p', o0, h1, h2, h3, h4⟩ := R.ow j qm ds q
      exact ⟨p', o0, h1, ex _ _ (fun w => z (R.inj i j _ _ _ _ p e q ep (w ▸ h1))) h2, h3.mono ex sb av, h4⟩
  · have g : ∀ {j : Nat} {qm : Bool} {ds : Ct}, (n.set i (.ow pm ct'))[j]? = some (.ow qm ds) → ∃ (qm : Bool) (es : Ct), n[j]? = some (.ow qm es) := fun {j qm ds} q => by
      by_cases z : i = j
      · subst z
        exact ⟨_, _, e⟩
      · rw [get_set_ne z] at q
        exact ⟨_, _, q⟩
    obtain ⟨_, _, g1⟩ := g h1
    obtain ⟨_, _, g2⟩ := g h2
    exact R.inj j k _ _ _ _ r g1 g2 h3 h4
  · by_cases z : i = j
    · subst z
      rw [e] at q
      cases q
      exact ⟨ct', by rw [List.getElem?_set_self hi]⟩
    · exact ⟨ds, by rw [get_set_ne z]; exact q⟩
  · by_cases z : i = j
    · subst z
      rw [e] at q
      cases q
      exact ⟨ct', by rw [List.getElem?_set_self hi]⟩
    · exact ⟨ds, by rw [get_set_ne z]; exact q⟩
end
def ltLine (n : Nat) : Bool := decide (n < sizeLine)
def sApp (i : Nat) (fr : Nv → Rs (List Ar)) : Nv → RS := fun n => match n[i]? with
  | some (.ow _ (.l _)) => sbn (fr n) fun as n1 => match as, n1[i]? with
    | [.d x], some (.ow pm (.l ds)) => if ltLine ds.length = true then nxt (n1.set i (.ow pm (.l (ds ++ [x])))) else none
    | _, _ => none
  | _ => none
def eItmK (i : Nat) (x : PD) (b : Ar) (n : Nv) : RS := match b, n[i]? with
  | .d (.int k), some (.ow pm (.l ds)) => match ixN ds.length k with
    | some j => nxt (n.set i (.ow pm (.l (ds.set j x))))
    | none => none
  | _, _ => none
def sItm (i : Nat) (fe fk : Nv → Rs Ar) : Nv → RS := fun n => sbn (fe n) fun a n1 => match a, n1[i]? with
  | .d x, some (.ow _ (.l _)) => sbn (fk n1) fun b n2 => eItmK i x b n2
  | _, _ => none
section
variable {c : Cz} {te tk : TE} {fe fk : Nv → Rs Ar} {tr : TA} {fr : Nv → Rs (List Ar)}
theorem ds_app {i : Nat} (h1 : DA c tr fr) : DS c (tDrop (tBM c.K "list" rAppend (tVar i) tr)) (sApp i fr) := fun S H0 σ H n D R hd h => by
  unfold sApp at h
  split at h
  · rename_i pm0 ds0 e0
    obtain ⟨p, o, ep, hp, hc, _⟩ := R.ow i _ _ e0
    obtain ⟨vs0, rfl, _⟩ := hc.lst
    refine ⟨_, ep, Or.inl ⟨rfl, _, .inl (.inl hp)⟩, ?_⟩
    refine h1 S σ H n _ R (OkS.bind h fun vs as n1 H1 s1 k1 R1 va h2 => ?_)
    split at h2
    · rename_i x pm ds e1
      split at h2
      · rename_i hl
        obtain ⟨p', o1, ep', hp', hc', _⟩ := R1.ow i _ _ e1
        rw [ep] at ep'
        cases ep'
        obtain ⟨vs1, rfl, hc'⟩ := hc'.lst
        cases va with
        | cons hx hr =>
          cases hr
          have hx : Dv c.K H1 (AV S σ n1) _ x := hx
          refine ⟨p, vs1, _, rfl, rfl, hp', by rw [hc'.len]; exact of_decide_eq_true hl, ?_⟩
          obtain ⟨r1, r2, r3⟩ := R1.put e1 ep (o' := .lst (vs1 ++ [_])) (ct' := .l (ds ++ [x])) (hc'.append (.cons hx .nil))
          exact h2 σ _ r2 r1
      · exact h2.elim
    · exact h2.elim
  · exact h.elim
theorem ds_itm {i : Nat} (h1 : DE c te fe) (h2 : DE c tk fk) : DS c (tAsg te (gSub (tVar i) tk rSetL)) (sItm i fe fk) := fun S H0 σ H n D R hd h => by
  refine h1 S σ H n _ R (OkS.bind h fun v a n1 H1 s1 k1 R1 va h3 => ?_)
  split at h3
  · rename_i x pm0 ds0 e0
    obtain ⟨p, o, ep, hp, hc, _⟩ := R1.ow i _ _ e0
    refine ⟨_, ep, ?_⟩
    refine h2 S σ H1 n1 _ R1 (OkS.bind h3 fun u b n2 H2 s2 k2 R2 vb h4 => ?_)
    unfold eItmK at h4
    split at h4
    · rename_i k pm ds e1
      split at h4
      · rename_i j ej
        obtain ⟨p', o1, ep', hp', hc', _⟩ := R2.ow i _ _ e1
        rw [ep] at ep'
        cases ep'
        obtain ⟨vs1, rfl, hc'⟩ := hc'.lst
        cases (show Dv c.K H2 _ u (.int k) from vb)
        have hx : Dv c.K H1 (AV S σ n1) v x := va
        obtain ⟨r1, r2, r3⟩ := R2.put e1 ep (o' := .lst (vs1.set j v)) (ct' := .l (ds.set j x)) (hc'.set (s2.dv hx) j)
        exact ⟨p, vs1, k, j, rfl, rfl, hp', by rw [hc'.len]; exact ej, h4 σ _ r2 r1⟩
      · exact h4.elim
    · exact h4.elim
  · exact h3.elim
end
def keyD : PD → Option Key
  | .int i => some (.inl i)
  | .str x => some (.inr x)
  | _ => none
theorem Dv.key {K H A v d k} (h : Dv K H A v d) (e : keyD d = some k) : v = kV k := by
  cases h <;> first | (cases e; rfl) | cases e
def valD (kds : List (Key × PD)) (k : Key) : Option PD := (kds.find? fun kv => decide (kv.1 = k)).map (·.2)
def putD (kds : List (Key × PD)) (k : Key) (d : PD) : List (Key × PD) :=
  if (kds.any fun kv => decide (kv.1 = k)) = true then kds.map (fun kv => if kv.1 = k then (kv.1, d) else kv) else kds ++ [(k, d)]
section
variable {K : PySem.W.Frag} {H : Hp} {A : AS}
theorem val_rel : ∀ {kvs : List (Key × V)} {kds : List (Key × PD)} {k : Key}, kvs.map (·.1) = kds.map (·.1) → DvA K H A (kvs.map (·.2)) (kds.map (·.2)) →
    (valD kds k = none ∧ valV kvs k = none) ∨ ∃ v d, valV kvs k = some v ∧ valD kds k = some d ∧ Dv K H A v d
  | [], [], k, _, _ => .inl ⟨rfl, rfl⟩
  | [], b :: r, k, e, _ => by simp at e
  | a :: r, [], k, e, _ => by simp at e
  | a :: r, b :: r', k, e, h => by
    simp only [List.map_cons, List.cons.injEq] at e
    simp only [List.map_cons] at h
    cases h with
    | cons h1 h2 =>
      by_cases q : b.1 = k
      · refine .inr ⟨a.2, b.2, by simp [valV, e.1, q], by simp [valD, q], h1⟩
      · have z := val_rel (k := k) e.2 h2
        have e1 : valD (b :: r') k = valD r' k := by simp [valD, List.find?_cons, q]
        have e2 : valV (a :: r) k = valV r k := by simp [valV, List.find?_cons, e.1, q]
        rw [e1, e2]
        exact z
theorem any_rel {kvs : List (Key × V)} {kds : List (Key × PD)} {k : Key} (e : kvs.map (·.1) = kds.map (·.1)) : (kvs.any fun kv => decide (kv.1 = k)) = (kds.any fun kv => decide (kv.1 = k)) := by
  have h1 : (kvs.any fun kv => decide (kv.1 = k)) = (kvs.map (·.1)).any (fun x => decide (x = k)) := by simp [List.any_map]; rfl
  have h2 : (kds.any fun kv => decide (kv.1 = k)) = (kds.map (·.1)).any (fun x => decide (x = k)) := by simp [List.any_map]; rfl
  rw [h1, h2, e]
theorem put_rel1 {v : V} {d : PD} {k : Key} (hv : Dv K H A v d) : ∀ {kvs : List (Key × V)} {kds : List (Key × PD)}, kvs.map (·.1) = kds.map (·.1) → DvA K H A (kvs.map (·.2)) (kds.map (·.2)) →
    (kvs.map (fun kv => if kv.1 = k then (kv.1, v) else kv)).map (·.1) = (kds.map (fun kv => if kv.1 = k then (kv.1, d) else kv)).map (·.1) ∧
    DvA K H A ((kvs.map (fun kv => if kv.1 = k then (kv.1, v) else kv)).map (·.2)) ((kds.map (fun kv => if kv.1 = k then (kv.1, d) else kv)).map (·.2))
  | [], [], _, _ => ⟨rfl, .nil⟩
  | [], b :: r, e, _ => by simp at e
  | a :: r, [], e, _ => by simp at e
  | a :: r, b :: r', e, h => by
    simp only [List.map_cons, List.cons.injEq] at e
    simp only [List.map_cons] at h
    cases h with
    | cons h1 h2 =>
      obtain ⟨z1, z2⟩ := put_rel1 hv e.2 h2
      by_cases q : b.1 = k
      · have qa : a.1 = k := e.1.trans q
        simp only [List.map_cons, if_pos q, if_pos qa]
        exact ⟨by rw [z1, e.1], .cons hv z2⟩
      · have qa : ¬ a.1 = k := fun w => q (e.1.symm.trans w)
        simp only [List.map_cons, if_neg q, if_neg qa]
        exact ⟨by rw [z1, e.1], .cons h1 z2⟩
theorem put_rel {v : V} {d : PD} {k : Key} (hv : Dv K H A v d) {kvs : List (Key × V)} {kds : List (Key × PD)} (e : kvs.map (·.1) = kds.map (·.1)) (h : DvA K H A (kvs.map (·.2)) (kds.map (·.2))) :
    (putK kvs k v).map (·.1) = (putD kds k d).map (·.1) ∧ DvA K H A ((putK kvs k v).map (·.2)) ((putD kds k d).map (·.2)) := by
  unfold putK putD
  rw [any_rel e]
  split
  · exact put_rel1 hv e h
  · simp only [List.map_append, List.map_cons, List.map_nil]
    exact ⟨by rw [e], h.append (.cons hv .nil)⟩
end
def sDnew (i : Nat) : Nv → RS := fun n => if free? n i = true then nxt (n.set i (.ow false (.m []))) else none
def eDput (i : Nat) (x : PD) (b : Ar) (n : Nv) : RS := match b, n[i]? with
  | .d y, some (.ow pm (.m kds)) => match keyD y with
    | some k => if ltLine kds.length = true then nxt (n.set i (.ow pm (.m (putD kds k x)))) else none
    | none => none
  | _, _ => none
def sDput (i : Nat) (fe fk : Nv → Rs Ar) : Nv → RS := fun n => sbn (fe n) fun a n1 => match a, n1[i]? with
  | .d x, some (.ow _ (.m _)) => sbn (fk n1) fun b n2 => eDput i x b n2
  | _, _ => none
def valO (i : Nat) (b : Ar) (n : Nv) : Option (Option PD) := match b, n[i]? with
  | .d y, some (.ow _ (.m kds)) => match keyD y with
    | some k => some (valD kds k)
    | none => none
  | _, _ => none
def eDget (i : Nat) (fk : Nv → Rs Ar) : Nv → Rs Ar := fun n => match n[i]? with
  | some (.ow _ (.m _)) => bnd (fk n) fun b n1 => match valO i b n1 with
    | some (some d) => ret (.d d) n1
    | _ => none
  | _ => none
def eDin (neg : Bool) (i : Nat) (fk : Nv → Rs Ar) : Nv → Rs Ar := fun n => bnd (fk n) fun b n1 => match valO i b n1 with
  | some r => ret (.d (.bool (xor neg r.isSome))) n1
  | none => none
section
variable {c : Cz} {te tk : TE} {fe fk : Nv → Rs Ar}
theorem ds_dnew {i : Nat} : DS c (tAsg tDNewK (gName i)) (sDnew i) := fun S H0 σ H n D R hd h => by
  unfold sDnew at h
  split at h
  · rename_i hf
    intro p np
    have fr : Frs c.K S σ n (L2.upd H p (.dK [])) p (.m []) := Frs.new (vs := .dK []) R np ⟨rfl, .nil⟩
    exact h _ _ (Stp.setOw (.new np) np (free_of hf)) (.setOw fr)
  · exact h.elim
theorem val_at {S σ n H i b r u} (R : Rel c.K S H σ n) (vb : ArV c.K S σ n H u b) (e : valO i b n = some r) : ∃ p, σ[i]? = some (some (.ref p)) ∧
    ((r = none ∧ DGet H p u none) ∨ ∃ v d, r = some d ∧ DGet H p u (some v) ∧ Dv c.K H (AV S σ n) v d) := by
  unfold valO at e
  split at e
  · rename_i y pm kds e1
    split at e
    · rename_i k ek
      cases e
      obtain ⟨p, o, ep, hp, hc, _⟩ := R.ow i _ _ e1
      obtain ⟨kvs, rfl, h1, h2⟩ := hc.dct
      have eu := (show Dv c.K H _ u y from vb).key ek
      refine ⟨p, ep, ?_⟩
      rcases val_rel (k := k) h1 h2 with ⟨z1, z2⟩ | ⟨v, d, z1, z2, z3⟩
      · exact .inl ⟨z1, eu ▸ z2 ▸ DGet.k hp⟩
      · exact .inr ⟨v, d, z2, eu ▸ z1 ▸ DGet.k hp, z3⟩
    · cases e
  · cases e
theorem de_dget {i : Nat} (h1 : DE c tk fk) : DE c (tDGet (tVar i) tk) (eDget i fk) := fun S σ H n Q R h => by
  unfold eDget at h
  split at h
  · rename_i pm0 kds0 e0
    obtain ⟨p0, o, ep0, hp, hc, _⟩ := R.ow i _ _ e0
    refine ⟨_, ep0, ?_⟩
    refine h1 S σ H n _ R (OkG.bind h fun u b n1 H1 s1 k1 R1 vb h2 => ?_)
    split at h2
    · rename_i d e
      obtain ⟨p, ep, z | ⟨v, d', z1, z2, z3⟩⟩ := val_at R1 vb e
      · cases z.1
      · cases z1
        rw [ep0] at ep
        cases ep
        exact ⟨p0, v, rfl, z2, h2.ret .refl R1 z3⟩
    · exact h2.elim
  · exact h.elim
theorem de_din {i : Nat} (h1 : DE c tk fk) : DE c (tDIn tk (tVar i)) (eDin false i fk) := fun S σ H n Q R h => by
  refine h1 S σ H n _ R (OkG.bind h fun u b n1 H1 s1 k1 R1 vb h2 => ?_)
  split at h2
  · rename_i r e
    obtain ⟨p, ep, z⟩ := val_at R1 vb e
    refine ⟨_, ep, ?_⟩
    rcases z with ⟨rfl, g⟩ | ⟨v, d, rfl, g, _⟩
    · exact ⟨p, none, rfl, g, h2.ret .refl R1 (Dv.bl _)⟩
    · exact ⟨p, some v, rfl, g, h2.ret .refl R1 (Dv.bl _)⟩
  · exact h2.elim
theorem de_dnotin {i : Nat} (h1 : DE c tk fk) : DE c (tDNotIn tk (tVar i)) (eDin true i fk) := fun S σ H n Q R h => by
  refine h1 S σ H n _ R (OkG.bind h fun u b n1 H1 s1 k1 R1 vb h2 => ?_)
  split at h2
  · rename_i r e
    obtain ⟨p, ep, z⟩ := val_at R1 vb e
    refine ⟨_, ep, ?_⟩
    rcases z with ⟨rfl, g⟩ | ⟨v, d, rfl, g, _⟩
    · exact ⟨p, none, rfl, g, h2.ret .refl R1 (Dv.bl _)⟩
    · exact ⟨p, some v, rfl, g, h2.ret .refl R1 (Dv.bl _)⟩
  · exact h2.elim
theorem ds_dput {i : Nat} (h1 : DE c te fe) (h2 : DE c tk fk) : DS c (sDPut (tVar i) tk te) (sDput i fe fk) := fun S H0 σ H n D R hd h => by
  refine h1 S σ H n _ R (OkS.bind h fun v a n1 H1 s1 k1 R1 va h3 => ?_)
  split at h3
  · rename_i x pm0 ds0 e0
    obtain ⟨p, o, ep, hp, hc, _⟩ := R1.ow i _ _ e0
    refine ⟨_, ep, ?_⟩
    refine h2 S σ H1 n1 _ R1 (OkS.bind h3 fun u b n2 H2 s2 k2 R2 vb h4 => ?_)
    unfold eDput at h4
    split at h4
    · rename_i y pm kds e1
      split at h4
      · rename_i k ek
        split at h4
        · rename_i hl
          obtain ⟨p', o1, ep', hp', hc', _⟩ := R2.ow i _ _ e1
          rw [ep] at ep'
          cases ep'
          obtain ⟨kvs, rfl, g1, g2⟩ := hc'.dct
          have eu := (show Dv c.K H2 _ u y from vb).key ek
          have hx : Dv c.K H1 (AV S σ n1) v x := va
          have pr := put_rel (k := k) (s2.dv hx) g1 g2
          obtain ⟨r1, r2, r3⟩ := R2.put e1 ep (o' := .dK (putK kvs k v)) (ct' := .m (putD kds k x)) pr
          have hlen : kvs.length < sizeLine := by
            have := congrArg List.length g1
            rw [List.length_map, List.length_map] at this
            rw [this]
            exact of_decide_eq_true hl
          exact ⟨p, _, rfl, eu ▸ DPut.k hp' hlen, h4 σ _ r2 r1⟩
        · exact h4.elim
      · exact h4.elim
    · exact h4.elim
  · exact h3.elim
end
end Dl
set_option Elab.async false
set_option linter.all false
set_option maxRecDepth 100000
namespace Dl
open PySem PySem.Spec PyProof.Rows L2
section
variable {X : Cx}
def rIsB (neg : Bool) : R2 := fun x y H Q => ∃ b, y = .bl b ∧ (∀ n, x ≠ .ty n) ∧ Q (.bl (xor neg (decide (x = .bl b)))) H
theorem rel_bool {x : V} {v : Value} {b : Bool} (r : RelV x v) : (v == Value.bool b) = decide (x = .bl b) := by
  cases x with
  | bl c => cases r; cases b <;> cases c <;> rfl
  | non => cases r; rfl
  | int _ => obtain ⟨t, rfl⟩ := r; rfl
  | str _ => obtain ⟨t, rfl⟩ := r; rfl
  | byt _ => obtain ⟨t, rfl⟩ := r; rfl
  | flt _ => obtain ⟨t, rfl⟩ := r; rfl
  | ref _ => cases r; rfl
  | ty _ => cases r; rfl
theorem op_isB : OpR X (compareOp .Is) (rIsB false) := by
  intro pins s σ H x y v u Q I rx ry h
  obtain ⟨b, rfl, nt, q⟩ := h
  cases ry
  have e := rel_bool (b := b) rx
  have fin : EP X pins σ Q (.bool (v == Value.bool b)) s := ⟨.bl (decide (x = .bl b)), H, I, by rw [e]; rfl, by simpa using q⟩
  cases x with
  | bl c => cases rx; exact wpAny_pure fin
  | non => cases rx; exact wpAny_pure fin
  | int _ => obtain ⟨t, rfl⟩ := rx; exact wpAny_pure fin
  | str _ => obtain ⟨t, rfl⟩ := rx; exact wpAny_pure fin
  | byt _ => obtain ⟨t, rfl⟩ := rx; exact wpAny_pure fin
  | flt _ => obtain ⟨t, rfl⟩ := rx; exact wpAny_pure fin
  | ref _ => cases rx; exact wpAny_pure fin
  | ty n => exact (nt n rfl).elim
theorem op_isnotB : OpR X (compareOp .IsNot) (rIsB true) := by
  intro pins s σ H x y v u Q I rx ry h
  obtain ⟨b, rfl, nt, q⟩ := h
  cases ry
  have e := rel_bool (b := b) rx
  have fin : EP X pins σ Q (.bool (!(v == Value.bool b))) s := ⟨.bl (!decide (x = .bl b)), H, I, by rw [e]; rfl, by simpa using q⟩
  cases x with
  | bl c => cases rx; exact wpAny_pure fin
  | non => cases rx; exact wpAny_pure fin
  | int _ => obtain ⟨t, rfl⟩ := rx; exact wpAny_pure fin
  | str _ => obtain ⟨t, rfl⟩ := rx; exact wpAny_pure fin
  | byt _ => obtain ⟨t, rfl⟩ := rx; exact wpAny_pure fin
  | flt _ => obtain ⟨t, rfl⟩ := rx; exact wpAny_pure fin
  | ref _ => cases rx; exact wpAny_pure fin
  | ty n => exact (nt n rfl).elim
def rCat0 (K : PySem.W.Frag) : R2 := fun x y H Q => ∃ a b ys, x = .ref a ∧ y = .ref b ∧ SqT K H a [] ∧ SqT K H b ys ∧ Q (.ref b) H
theorem op_cat0 : OpR X (binaryOp .Add) (rCat0 X.K) := by
  intro pins s σ H x y v u Q I rx ry h
  obtain ⟨a, b, ys, rfl, rfl, ha, hb, q⟩ := h
  cases rx
  cases ry
  obtain ⟨its, r1, p1, _⟩ := I.tuple ha
  obtain ⟨its2, r2, p2, _⟩ := I.tuple hb
  cases r1
  obtain ⟨⟨cls, dd, data, sl⟩, ho, hc, n, hd⟩ := id p1
  obtain ⟨⟨cls2, dd2, data2, sl2⟩, ho2, hc2, n2, hd2⟩ := id p2
  simp only at hc hd hc2 hd2
  subst hc hd hc2 hd2
  have go := tuple_addW0 a b #[] its2.toArray n n2 dd dd2 sl sl2 rfl
  exact concat_meets ⟨_, ho, rfl⟩ ⟨_, ho2, rfl⟩ noFill_tuple_add seq_tuple_add PySem.F.slot_tuple_add PySem.F.entry_tuple_add (PySem.F.args_tuple_add_2 _ _) go
    ⟨ho, ho2, .ref b, H, I, rfl, q⟩
def rCatL (K : PySem.W.Frag) : R2 := fun x y H Q => ∃ l b xs zs, x = .ref l ∧ y = .ref b ∧ SqL K H l xs ∧ SqL K H b zs ∧ xs.length + zs.length ≤ sizeLine ∧ ∀ p, H p = none → Q (.ref p) (L2.upd H p (.lst (xs ++ zs)))
theorem op_catL : OpR X (binaryOp .Add) (rCatL X.K) := by
  intro pins s σ H x y v u Q I rx ry h
  obtain ⟨l, b, xs, zs, rfl, rfl, hl, hb, hz, q⟩ := h
  cases rx
  cases ry
  obtain ⟨its, r1, ⟨⟨cls, dd, data, sl⟩, n, ho, hc, hdd, hd⟩, _⟩ := I.list hl
  obtain ⟨its2, r2, ⟨⟨cls2, dd2, data2, sl2⟩, n2, ho2, hc2, hdd2, hd2⟩, _⟩ := I.list hb
  simp only at hc hd hc2 hd2
  subst hc hd hc2 hd2
  have l1 := r1.length
  have l2 := r2.length
  refine concat_meets ⟨_, ho, rfl⟩ ⟨_, ho2, rfl⟩ noFill_list_add seq_list_add PySem.F.slot_list_add PySem.F.entry_list_add (PySem.F.args_list_add_2 _ _)
    (list_addW l b its.toArray its2.toArray n n2 dd dd2 sl sl2 (by rw [List.size_toArray, List.size_toArray]; omega)) ⟨ho, ho2, ?_⟩
  have ea : its.toArray ++ its2.toArray = (its ++ its2).toArray := by simp
  rw [ea]
  exact ⟨.ref _, _, I.lnew (t' := s.toks) (r1.append r2) (by rw [List.length_append]; omega), rfl, q _ I.fresh⟩
theorem tuple_mulS (l : Addr) (items : Array Value) (n : Nat) (dd : Option Addr) (sl : Array (Option Value)) (x : Int) (u : Tok) (c0 : (decide (x < -(2 ^ 63)) || decide (x ≥ 2 ^ 63)) = false) (c1 : (items.isEmpty || x == 1) = true) :
    Meets (Builtin.«tuple.__mul__» ⟨[.ref l, .int x u], []⟩) (fun _ R s => s.heap.get? l = some { cls := .type "tuple", dict := dd, data := .seq items n, slots := sl } ∧ R (.ok (.ret (Value.ref l))) { s with heap := s.heap, toks := s.toks }) :=
  .of_wp fun prog w A R s h => by
    obtain ⟨hp, g, d, tk, os⟩ := s
    obtain ⟨hl, h⟩ := h
    have f1 := AutoSeq1.idx_int
    wp_walk using wpAny_loadPart' hl
    repeat (first
      | (refine wpAny_ite_false (decide_eq_false (by rw [c0]; exact Bool.false_ne_true)) ?_; wp_walk using wpAny_loadPart' hl)
      | (refine wpAny_ite_true (decide_eq_true c1) ?_; wp_walk using wpAny_loadPart' hl))
    exact ⟨_, rfl, h⟩
theorem tuple_mulN (l : Addr) (items : Array Value) (n : Nat) (dd : Option Addr) (sl : Array (Option Value)) (x : Int) (u : Tok) (c0 : (decide (x < -(2 ^ 63)) || decide (x ≥ 2 ^ 63)) = false) (c1 : (items.isEmpty || x == 1) = false) (c2 : (decide (x ≤ 0) || items.isEmpty) = true) :
    Meets (Builtin.«tuple.__mul__» ⟨[.ref l, .int x u], []⟩) (fun _ R s => s.heap.get? l = some { cls := .type "tuple", dict := dd, data := .seq items n, slots := sl } ∧ R (.ok (.ret (Value.ref s.heap.objs.size))) { s with heap := s.heap.push { cls := Value.type "tuple", data := Data.seq #[] }, toks := s.toks }) :=
  .of_wp fun prog w A R s h => by
    obtain ⟨hp, g, d, tk, os⟩ := s
    obtain ⟨hl, h⟩ := h
    have f1 := AutoSeq1.idx_int
    wp_walk using wpAny_loadPart' hl
    repeat (first
      | (refine wpAny_ite_false (decide_eq_false (by rw [c0]; exact Bool.false_ne_true)) ?_; wp_walk using wpAny_loadPart' hl)
      | (refine wpAny_ite_false (decide_eq_false (by rw [c1]; exact Bool.false_ne_true)) ?_; wp_walk using wpAny_loadPart' hl)
      | (refine wpAny_ite_true (decide_eq_true c2) ?_; wp_walk using wpAny_loadPart' hl))
    exact ⟨_, rfl, h⟩
def rMulT (K : PySem.W.Frag) : R2 := fun x y H Q => ∃ l k xs, x = .ref l ∧ y = .int k ∧ SqT K H l xs ∧ k ≤ 1000 ∧ -1000 ≤ k ∧ xs.length ≤ 1000 ∧
  (((xs = [] ∨ k = 1) ∧ Q (.ref l) H) ∨ (xs ≠ [] ∧ k ≠ 1 ∧ ∀ p, H p = none → Q (.ref p) (L2.upd H p (.tup (List.replicate k.toNat xs).flatten))))
theorem op_mulT : OpR X (binaryOp .Mult) (rMulT X.K) := by
  intro pins s σ H x y v u Q I rx ry h
  obtain ⟨l, k, xs, rfl, rfl, hT, h1, h0, hz, hq⟩ := h
  by_cases h2 : xs ≠ [] ∧ 2 ≤ k
  · refine op_repT pins s σ H _ _ v u Q I rx ry ⟨l, k, xs, rfl, rfl, hT, h2.1, h2.2, h1, hz, ?_⟩
    rcases hq with ⟨z, _⟩ | ⟨_, _, q⟩
    · exact (z.elim (fun e => h2.1 e) fun e => by omega).elim
    · exact q
  cases rx
  obtain ⟨t, rfl⟩ := ry
  obtain ⟨its, r, ⟨⟨cls, dd, data, sl⟩, ho, hc, n, hd⟩, hs⟩ := I.tuple hT
  simp only at hc hd
  subst hc hd
  have c0 : (decide (k < -(2 ^ 63)) || decide (k ≥ 2 ^ 63)) = false := by
    rw [decide_eq_false (by omega), decide_eq_false (by omega)] <;> rfl
  have hem : its.toArray.isEmpty = true ↔ xs = [] := by
    have e := r.nil_iff
    simp only [List.isEmpty_toArray, List.isEmpty_iff]
    exact e
  by_cases h3 : xs = [] ∨ k = 1
  · have c1 : (its.toArray.isEmpty || k == 1) = true := by
      rcases h3 with e | e
      · rw [hem.mpr e, Bool.true_or]
      · rw [e]
        simp
    refine wpAny_binaryOp_repeat_ref (T := "tuple") (U := "int") (by decide) ⟨_, ho, rfl⟩ (fun s' => typeIs_int s' k t) noFill_tuple_mul F.fills_int_mul F.slot_int_rmul repeat_tuple F.slot_int_index.lookup
      (call_meets F.slot_int_rmul (typeIs_int s k t) F.entry_int_rmul (F.args_int_rmul_2 _ _) (int_rmul_tuple k t l its.toArray n dd sl)
        ⟨ho, rfl, ⟨_, ho, rfl⟩, call_meets F.slot_tuple_mul ⟨_, ho, rfl⟩ F.entry_tuple_mul (F.args_tuple_mul_2 _ _) (tuple_mulS l its.toArray n dd sl k t c0 c1) ⟨ho, ?_⟩⟩)
    rcases hq with ⟨_, q⟩ | ⟨z1, z2, _⟩
    · exact ⟨.ref l, H, I, rfl, q⟩
    · exact (h3.elim z1 z2).elim
  · have h4 : ¬ xs = [] ∧ ¬ k = 1 := ⟨fun e => h3 (.inl e), fun e => h3 (.inr e)⟩
    have hk : k ≤ 0 := by
      have := h4.2
      have : ¬ 2 ≤ k := fun e => h2 ⟨h4.1, e⟩
      omega
    have ne : its.toArray.isEmpty = false := by
      cases q : its.toArray.isEmpty with
      | false => rfl
      | true => exact (h4.1 (hem.mp q)).elim
    have c1 : (its.toArray.isEmpty || k == 1) = false := by
      rw [ne, Bool.false_or]
      exact beq_eq_false_iff_ne.mpr h4.2
    have c2 : (decide (k ≤ 0) || its.toArray.isEmpty) = true := by
      rw [decide_eq_true hk, Bool.true_or]
    refine wpAny_binaryOp_repeat_ref (T := "tuple") (U := "int") (by decide) ⟨_, ho, rfl⟩ (fun s' => typeIs_int s' k t) noFill_tuple_mul F.fills_int_mul F.slot_int_rmul repeat_tuple F.slot_int_index.lookup
      (call_meets F.slot_int_rmul (typeIs_int s k t) F.entry_int_rmul (F.args_int_rmul_2 _ _) (int_rmul_tuple k t l its.toArray n dd sl)
        ⟨ho, rfl, ⟨_, ho, rfl⟩, call_meets F.slot_tuple_mul ⟨_, ho, rfl⟩ F.entry_tuple_mul (F.args_tuple_mul_2 _ _) (tuple_mulN l its.toArray n dd sl k t c0 c1 c2) ⟨ho, ?_⟩⟩)
    rcases hq with ⟨z, _⟩ | ⟨_, _, q⟩
    · exact (h3 z).elim
    · have e0 : k.toNat = 0 := by omega
      rw [e0] at q
      refine ⟨.ref s.heap.objs.size, _, I.laid (t' := s.toks) (o := .tup []) (fun b ob q => Heap.get?_push_of_some _ q) (Nat.le_refl _) ?_, rfl, q _ (I.hok.fresh (Nat.le_refl _))⟩
      exact ⟨Nat.zero_le _, [], .nil, IsTup.new _ _⟩
end
section
variable {prog : Program} {w : World} {A : Around} {E : Value → Shared → Prop} {s : Shared}
theorem slice_whole {t sl : Addr} {items : Array Value} {vl vu : Value} {lo hi : Option Int} {Q : Value → Shared → Prop} (ht : IsTup s.heap t items) (hs : s.heap.IsSliceOf sl vl vu .none) (pl : IsPart vl lo) (pu : IsPart vu hi)
    (h0 : HT.sIx items.size 0 lo = 0) (h1 : HT.sIx items.size items.size hi = items.size) (h : Q (.ref t) s) : wpAny (model prog w) A (getItem (.ref t) (.ref sl)) Q E s := by
  obtain ⟨os, hos, hcs, hds⟩ := id hs
  have hTs : s.TypeIs (.ref sl) "slice" := ⟨os, hos, hcs⟩
  obtain ⟨ot, hot, hct, nt, hdt⟩ := id ht
  unfold getItem
  with_reducible refine wpAny_holding ?_
  first | refine wpAny_bind (wpAny_pure ?_) | skip
  refine wpAny_bind (wpAny_sequenceKey ht.typeIs (by decide) ?_)
  refine wpAny_bind (wpAny_callSpecial?_slot (name := Str.ofString "__getitem__") ht.typeIs slot_tuple_getitem (wpAny_call_entry slot_tuple_getitem ht.typeIs entry_tuple_getitem ?_ (args_tuple_getitem _ _)))
  show wpAny _ _ (Builtin.Tuple.tupleItemsOf (.ref t) >>= _) _ _ s
  refine wpAny_bind (tupleItemsOf_ ht ?_)
  refine wpAny_bind (wpAny_typeOf hTs ?_)
  rw [if_pos (by decide)]
  refine wpAny_bind (HT.sliceApplied_gen hs pl pu ?_)
  have yes : (((HT.sIx items.size 0 lo : Nat) : Int) == 0 && (1 : Int) == 1 && (HT.sIx items.size items.size hi - HT.sIx items.size 0 lo) == items.size) = true := by
    rw [h0, h1]
    simp
  show wpAny _ _ (if (((HT.sIx items.size 0 lo : Nat) : Int) == 0 && (1 : Int) == 1 && (HT.sIx items.size items.size hi - HT.sIx items.size 0 lo) == items.size) = true then _ else _) _ _ s
  rw [if_pos yes]
  refine wpAny_bind ?_
  unfold Builtin.Tuple.tupleIsExact
  refine wpAny_bind (wpAny_typeOf ht.typeIs (wpAny_pure ?_))
  rw [if_pos (by decide)]
  exact wpAny_bind (wpAny_rule (wpAny_pure ⟨_, rfl, wpAny_pure h⟩))
end
def rSlW (K : PySem.W.Frag) : V → Option Int → Option Int → Hp → VK → Prop := fun x lo hi H Q => ∃ a xs, x = .ref a ∧ SqT K H a xs ∧
  HT.sIx xs.length 0 lo = 0 ∧ HT.sIx xs.length xs.length hi = xs.length ∧ Q (.ref a) H
theorem sl_whole {X : Cx} : SlR X (rSlW X.K) := by
  intro pins s σ H x v vl vu lo hi sl Q I rx hs pl pu h
  obtain ⟨a, xs, rfl, hx, h0, h1, q⟩ := h
  cases rx
  obtain ⟨its, r, ht, hz⟩ := I.tuple hx
  have hlen : its.toArray.size = xs.length := by rw [List.size_toArray]; exact r.length.symm
  exact ⟨"tuple", _, slot_tuple_getitem.lookup, ht.typeIs, slice_whole ht hs pl pu (by rw [hlen]; exact h0) (by rw [hlen]; exact h1) ⟨.ref a, H, I, rfl, q⟩⟩
end Dl
set_option Elab.async false
set_option linter.all false
set_option maxRecDepth 100000
namespace Dl
open PySem PySem.Spec PyProof.Rows L2
section
variable {prog : Program} {w : World} {A : Around} {E : Value → Shared → Prop} {s : Shared}
theorem draws_tup {it t : Addr} {items : Array Value} (hh : A.handled = none) (ne : it ≠ t) : Draws prog w A it [it, t] items.size (fun i v => items[i]? = some v) (fun i h => h.IsTupleIter it t i ∧ h.IsTuple t items) where
  live := fun i h ⟨⟨o, e, _⟩, _⟩ => ⟨o, e⟩
  frame := fun i h h' ⟨⟨o, e, c, d⟩, ⟨o2, e2, r⟩⟩ k => ⟨⟨o, k it (by simp) o e, c, d⟩, ⟨o2, k t (by simp) o2 e2, r⟩⟩
  item := fun i s Q E hi ⟨h1, h2⟩ hQ => by
    refine RZ.nextOf_tuple_item h1 h2 (x := items[i]) (by simp [hi]) fun h' h1' sb => hQ _ h' s.toks (by simp [hi]) ⟨h1', ?_⟩ sb
    obtain ⟨o2, e2, r⟩ := h2
    exact ⟨o2, (sb.2 t (Ne.symm ne)).trans e2, r⟩
  done := fun s Q E ⟨h1, h2⟩ hE => RZ.nextOf_tuple_end hh h1 h2 (by simp) hE
theorem enum_newT (l : Addr) (items : Array Value) (n : Nat) (dct : Option Addr) (sl : Array (Option Value)) :
    Meets (Builtin.«enumerate.__new__» ⟨[.type "enumerate", .ref l], []⟩) (fun _ R s => s.heap.get? l = some { cls := .type "tuple", dict := dct, data := .seq items n, slots := sl } ∧
      R (.ok (.ret (.ref (s.heap.push { cls := .type "tuple_iterator", data := .fields #[.ref l, .int 0 0] }).objs.size)))
        { s with heap := (s.heap.push { cls := .type "tuple_iterator", data := .fields #[.ref l, .int 0 0] }).push { cls := .type "enumerate", data := .fields #[.none, .bool false, .ref s.heap.objs.size, rawInt 0, .none, .none] } }) :=
  .of_wp fun prog w A R s h => by
    obtain ⟨hp, g, d, tk, os⟩ := s
    obtain ⟨hl, h⟩ := h
    have hsub := sub_enumerate
    have hT : Heap.IsTuple (Shared.heap ⟨hp, g, d, tk, os⟩) l items := ⟨_, hl, rfl, n, rfl⟩
    wp_walk using wpAny_loadPart' hl
    refine wpAny_stack_any fun st => wpAny_pure ?_
    split
    · rename_i c _ _ _ _ _
      cases (c == Value.type "enumerate") <;>
      · wp_walk using wpAny_loadPart' hl, wpAny_pyIter_tuple hT
        exact ⟨_, rfl, h⟩
    · wp_walk using wpAny_loadPart' hl, wpAny_pyIter_tuple hT
      exact ⟨_, rfl, h⟩
theorem enum_tup {l : Addr} {items : Array Value} {Q : Value → Shared → Prop} (hL : s.heap.IsTuple l items)
    (h : ∀ h', IsEnum h' (s.heap.objs.size + 1) s.heap.objs.size 0 .none → h'.IsTupleIter s.heap.objs.size l 0 → h'.objs.size = s.heap.objs.size + 2 →
      (∀ b o, s.heap.get? b = some o → h'.get? b = some o) → Q (.ref (s.heap.objs.size + 1)) { s with heap := h' }) : wpAny (model prog w) A (call (.type "enumerate") [.ref l]) Q E s := by
  obtain ⟨⟨c, dct, dt, sl⟩, hl, hc, n, hd⟩ := hL
  simp only at hc hd
  subst hc hd
  refine callType_new F.called_enumerate (by decide) (F.typeCall_enumerate_1 _) (F.newCall_enumerate_1 _) (fun obj => F.args_object_init_2 obj _) F.entry_enumerate_new (enum_newT l items n dct sl) ⟨hl, ?_⟩
  have hz : (s.heap.push { cls := .type "tuple_iterator", data := .fields #[.ref l, .int 0 0] }).objs.size = s.heap.objs.size + 1 := Heap.size_push ..
  show _ ∧ _
  rw [hz]
  have he : IsEnum ((s.heap.push { cls := .type "tuple_iterator", data := .fields #[.ref l, .int 0 0] }).push { cls := .type "enumerate", data := .fields #[.none, .bool false, .ref s.heap.objs.size, rawInt 0, .none, .none] }) (s.heap.objs.size + 1) s.heap.objs.size 0 .none := by
    have z := Heap.get?_push_size (s.heap.push { cls := .type "tuple_iterator", data := .fields #[.ref l, .int 0 0] }) (o := { cls := .type "enumerate", data := .fields #[.none, .bool false, .ref s.heap.objs.size, rawInt 0, .none, .none] }) rfl
    rw [hz] at z
    exact z
  exact ⟨⟨_, he, rfl⟩, h _ he ⟨_, Heap.get?_push_of_some _ (Heap.get?_push_size _ rfl), rfl, rfl⟩ (by rw [Heap.size_push, hz]) fun b o y => Heap.get?_push_of_some _ (Heap.get?_push_of_some _ y)⟩
end
def IteT (K : PySem.W.Frag) (a : Addr) : It :=
  ⟨fun i H => ∃ (xs : List V) (x : V), SqT K H a xs ∧ xs[i]? = some x, fun i H v H' => ∃ T x, v = .ref T ∧ H T = none ∧ H' = L2.upd H T (.tup [.int (i : Nat), x]) ∧ ∀ xs, SqT K H a xs → xs[i]? = some x, fun i H => ∃ xs : List V, SqT K H a xs ∧ xs.length ≤ i⟩
theorem turn_enumT {P : Program} {w : World} {K : PySem.W.Frag} {elts : List Expr} {kk : Nat} {tpos : Pos} (a e it : Addr) :
    Turn P w K (.Tuple elts kk tpos) (IteT K a) [e, it] e (fun i h => (∃ old, IsEnum h e it ((i : Nat) : Int) old) ∧ h.IsTupleIter it a i ∧ e ≠ it ∧ it ≠ a ∧ e ≠ a) where
  mem := by simp
  obj := fun i h st b hb => by
    obtain ⟨⟨old, he⟩, ⟨o, ho, hc, hd⟩, _⟩ := st
    have z : b = e ∨ b = it := by simpa using hb
    rcases z with rfl | rfl
    · exact ⟨_, he, fun v q => nomatch q⟩
    · exact ⟨o, ho, fun v q => by rw [hd] at q; cases q⟩
  keep := fun i h h' st k => by
    obtain ⟨⟨old, he⟩, ⟨o, ho, r⟩, hne⟩ := st
    exact ⟨⟨old, k e (by simp) _ he⟩, ⟨o, k it (by simp) o ho, r⟩, hne⟩
  item := by
    intro X hP hw hK hc i pins s σ H E I hf st hg
    subst hP hw hK
    obtain ⟨⟨old, he⟩, hit, hne, hia, hea⟩ := st
    obtain ⟨xs, x, hq, hx⟩ := hg
    obtain ⟨its, rv, p, hz⟩ := I.tuple hq
    obtain ⟨u, hu, ru⟩ := rv.get hx
    have hel : e < s.heap.objs.size := Heap.lt_size he
    have hil : it < s.heap.objs.size := by obtain ⟨_, q, _⟩ := hit; exact Heap.lt_size q
    have hlt : i < its.toArray.size := by simpa using (List.getElem?_eq_some_iff.mp hu).1
    refine wpAny_pyNext_enum_itemD (draws_tup (I.ok.hd hc) hia) he ⟨hit, p⟩ hlt hne (by simp [hne, hea]) fun u' h' tk hP ho hst' hT hsz hk => ?_
    have eu : u' = u := by
      have : its[i]? = some u' := by simpa using hP
      rw [hu] at this
      cases this
      rfl
    subst eu
    refine ⟨_, rfl, wpAny_letOwnedTupleGo_enum (s := { s with heap := h', toks := tk + 1 }) ho fun h'' he' sb => ?_⟩
    have hT2 : h''.get? s.heap.objs.size = some { cls := .type "tuple", data := .seq #[.int i tk, u'] } := (sb.2 _ (Nat.ne_of_gt hel)).trans hT
    have new : ObjOk X.prog X.w (L2.upd H s.heap.objs.size (.tup [.int (i : Nat), x])) h'' s.heap.objs.size (.tup [.int (i : Nat), x]) :=
      ⟨by show 2 ≤ sizeLine; decide, [.int i tk, u'], .cons ⟨_, rfl⟩ (.cons ru .nil), ⟨_, hT2, rfl, _, rfl⟩⟩
    have I1 : L2.Inv X pins σ (L2.upd H s.heap.objs.size (.tup [.int (i : Nat), x])) { s with heap := h'', toks := tk + 1 } :=
      I.turnedNew (ch := [e, it]) (fun b ob hb q => (sb.2 b (fun z => hb (by simp [z]))).trans (hk b ob (fun z => hb (by simp [z])) (fun z => hb (by simp [z])) q)) hf (Nat.le_refl _) new
    have hi2 : h''.IsTupleIter it a (i + 1) := by
      obtain ⟨⟨o, q, r⟩, _⟩ := hst'
      exact ⟨o, (sb.2 it (Ne.symm hne)).trans q, r⟩
    refine ⟨.ref s.heap.objs.size, _, I1, rfl, ⟨_, x, rfl, I.hok.fresh (Nat.le_refl _), rfl, fun ys hy => by rw [I.tuple_inj hy hq]; exact hx⟩, ⟨⟨u', ?_⟩, hi2, hne, hia, hea⟩, fun b hb => ?_⟩
    · have e1 : ((i + 1 : Nat) : Int) = (i : Int) + 1 := by omega
      rw [e1]
      exact he'
    · have z : b = e ∨ b = it := by simpa using hb
      have hb' : b < s.heap.objs.size := by rcases z with rfl | rfl <;> assumption
      rw [upd_ne (Nat.ne_of_lt hb')]
      exact (hf b hb).1
  done := by
    intro X hP hw hK hc i pins s σ H E I hf st hg
    subst hP hw hK
    obtain ⟨⟨old, he⟩, hit, hne, hia, hea⟩ := st
    obtain ⟨xs, hq, hx⟩ := hg
    obtain ⟨its, rv, p, hz⟩ := I.tuple hq
    obtain ⟨f0, f1, f2, f3, f4, f5⟩ := hf it (by simp)
    have hl := rv.length
    unfold pyNext
    have hT : s.TypeIs (.ref e) "enumerate" := ⟨_, he, rfl⟩
    refine wpAny_bind (wpAny_attempt (wpAny_callSpecial?_slot (name := Str.ofString "__next__") hT F.slot_enumerate_next (wpAny_call_entry F.slot_enumerate_next hT F.entry_enumerate_next ?_ (F.args_enumerate_next_1 _))))
    show wpAny _ _ (field (.ref e) 2 >>= _) _ _ _
    refine wpAny_bind (wpAny_field he rfl (x := .ref it) rfl ?_)
    refine wpAny_bind (RZ.nextOf_tuple_end (I.ok.hd hc) hit p (by simp; omega) fun h' x eb hx' => ?_)
    obtain ⟨o, ho, hc'⟩ := hx'
    refine wpAny_bind (wpAny_isInstance (T := "StopIteration") (b := true) ⟨o, ho, hc'⟩ isSubtype_stop ?_)
    exact wpAny_pure ⟨rfl, I.turned (t' := s.toks) (fun b o hb q => eb b o hb q) f0 f1 f3 f4 f5⟩
  self := fun A i s Q E st h => let ⟨⟨_, he⟩, _⟩ := st; wpAny_pyIter_enum he h
def iEnumT (K : PySem.W.Frag) (ta : TA) : TI := fun σ H R => ta σ H fun vs H1 => ∃ a xs, vs = [.ref a] ∧ SqT K H1 a xs ∧ R (IteT K a) H1
theorem pi_enumT {X : Cx} {e : Expr} {ta : TA} {p pos tpos : Pos} {elts : List Expr} {kk : Nat} (hg : Gl X "enumerate") (hm : X.mg "enumerate" = none) (ha : PA X [e] ta) (hs : starEach [e] X.env = [(false, eval e X.env)] := by rfl) :
    PI X (.Tuple elts kk tpos) (.Call (.Name "enumerate" p) [e] [] pos) (iEnumT X.K ta) := by
  refine ⟨fun pins s σ H R I h => ?_⟩
  refine Call_ (ld_blt I hg hm boot_enumerate (PyProof.Rows.callWith_type1 (thn (ha.run pos pins s σ H _ I h) fun us s1 ⟨vs, H1, I1, r1, q1⟩ => ?_) hs rfl))
  obtain ⟨a, xs, ex, hq, q⟩ := q1
  subst ex
  obtain ⟨u, rfl, ru⟩ := vals1 r1
  cases ru
  obtain ⟨its, rv, p', hz⟩ := I1.tuple hq
  have la : a < s1.heap.objs.size := p'.lt
  refine enum_tup p' fun h' he hit hsz hk => wpAny_pyIter_enum he ?_
  have I2 : L2.Inv X pins σ H1 { s1 with heap := h' } := I1.kept (t' := s1.toks) hk
  refine ⟨s1.heap.objs.size + 1, [s1.heap.objs.size + 1, s1.heap.objs.size], _, _, H1, rfl, I2, turn_enumT a (s1.heap.objs.size + 1) s1.heap.objs.size, ⟨⟨.none, he⟩, hit, Nat.succ_ne_self _, Nat.ne_of_gt la, Nat.ne_of_gt (Nat.lt_succ_of_lt la)⟩, fun b hb => ?_, q⟩
  have z : b = s1.heap.objs.size + 1 ∨ b = s1.heap.objs.size := by simpa using hb
  have hle : s1.heap.objs.size ≤ b := by rcases z with rfl | rfl <;> omega
  exact I1.fpOk hle (I1.hok.fresh hle)
end Dl
set_option Elab.async false
set_option linter.all false
set_option maxRecDepth 100000
namespace Dl
open PySem PySem.Spec PyProof.Rows L2
def gAdd : PD → PD → Option PD
  | .int i, .int j => some (.int (i + j))
  | .str a, .str b => if lineB (a.length + b.length) = true then some (.str (a ++ b)) else none
  | .tuple a, .tuple b => if lineB (a.length + b.length) = true then some (.tuple (a ++ b)) else none
  | .list a, .list b => if lineB (a.length + b.length) = true then some (.list (a ++ b)) else none
  | _, _ => none
def rAddD (K : PySem.W.Frag) : R2 := fun x y H Q => (rI0 (fun i j => .int (i + j))) x y H Q ∨ (∃ i j, x = .str i ∧ y = .str j ∧ i.length + j.length ≤ sizeLine ∧ Q (.str (i ++ j)) H) ∨ rCat0 K x y H Q ∨ rCatT K x y H Q ∨ rCatL K x y H Q
section
variable {X : Cx} {K : PySem.W.Frag} {H : Hp} {A : AS}
theorem op_addD : OpR X (binaryOp .Add) (rAddD X.K) := op_add.or (op_add_str.or (op_cat0.or (op_catT.or op_catL)))
theorem Dw.tupDv {x : V} {ds : List PD} (h : Dw K H A x (.tuple ds)) : Dv K H A x (.tuple ds) := by
  rcases h with h | ⟨_, _, _, _, e, _⟩
  · exact h
  · cases e
theorem Dv.newTup {p : Addr} {vs : List V} {ds : List PD} (na : ∀ a, A a → H a ≠ none) (np : H p = none) (h : DvA K H A vs ds) : Dv K (L2.upd H p (.tup vs)) A (.ref p) (.tuple ds) :=
  .tup (.inl ⟨.inl upd_same, fun z => na p z np⟩) (h.mono (S := fun _ => False) (Ext.new np) (fun _ z => z.elim) fun _ z => .inl z)
theorem Dv.newLst {p : Addr} {vs : List V} {ds : List PD} (na : ∀ a, A a → H a ≠ none) (np : H p = none) (h : DvA K H A vs ds) : Dv K (L2.upd H p (.lst vs)) A (.ref p) (.list ds) :=
  .lst (.inl ⟨.inl upd_same, fun z => na p z np⟩) (h.mono (S := fun _ => False) (Ext.new np) (fun _ z => z.elim) fun _ z => .inl z)
theorem addD_ok : BopOk K (rAddD K) gAdd := fun A H Q x y dx dy d na wx wy e k => by
  unfold gAdd at e
  split at e
  · cases e
    exact .inl ⟨_, _, wx.int, wy.int, k _ H .refl (.int _)⟩
  · split at e
    · rename_i q
      cases e
      exact .inr (.inl ⟨_, _, wx.str, wy.str, of_decide_eq_true q, k _ H .refl (.str _)⟩)
    · cases e
  · split at e
    · rename_i as bs q
      cases e
      obtain ⟨p, vs, rfl, h1, h2⟩ := wx.tup
      obtain ⟨p', us, rfl, g1, g2⟩ := wy.tup
      cases vs with
      | nil =>
        cases h2
        exact .inr (.inr (.inl ⟨p, p', us, rfl, rfl, h1, g1, k _ H .refl wy.tupDv⟩))
      | cons v vs =>
        refine .inr (.inr (.inr (.inl ⟨p, p', _, us, rfl, rfl, h1, g1, by simp, ?_, fun q => ?_, fun _ r nr => ?_⟩)))
        · rw [h2.len, g2.len]
          exact of_decide_eq_true q
        · subst q
          cases g2
          refine k _ H .refl ?_
          rw [List.append_nil]
          exact wx.tupDv
        · exact k _ _ (.upd nr) (.newTup na nr (h2.append g2))
    · cases e
  · split at e
    · rename_i as bs q
      cases e
      obtain ⟨p, vs, rfl, h1, h2⟩ := wx.lst
      obtain ⟨p', us, rfl, g1, g2⟩ := wy.lst
      refine .inr (.inr (.inr (.inr ⟨p, p', vs, us, rfl, rfl, h1, g1, ?_, fun r nr => ?_⟩)))
      · rw [h2.len, g2.len]
        exact of_decide_eq_true q
      · exact k _ _ (.upd nr) (.newLst na nr (h2.append g2))
    · cases e
  · cases e
def gII (c : Int → Int → Bool) (g : Int → Int → PD) : PD → PD → Option PD
  | .int i, .int j => if c i j = true then some (g i j) else none
  | _, _ => none
theorem rI_ok {C : Int → Int → Prop} {c : Int → Int → Bool} {g : Int → Int → V} {gd : Int → Int → PD} (hc : ∀ i j, c i j = true → C i j) (hg : ∀ i j K H A, Dv K H A (g i j) (gd i j)) : BopOk K (rI C g) (gII c gd) := fun A H Q x y dx dy d na wx wy e k => by
  unfold gII at e
  split at e
  · split at e
    · rename_i i j q
      cases e
      exact ⟨i, j, wx.int, wy.int, hc _ _ q, k _ H .refl (hg _ _ _ _ _)⟩
    · cases e
  · cases e
theorem rI0_ok {g : Int → Int → V} {gd : Int → Int → PD} (hg : ∀ i j K H A, Dv K H A (g i j) (gd i j)) : BopOk K (rI0 g) (gII (fun _ _ => true) gd) := fun A H Q x y dx dy d na wx wy e k => by
  unfold gII at e
  split at e
  · split at e
    · rename_i i j q
      cases e
      exact ⟨i, j, wx.int, wy.int, k _ H .refl (hg _ _ _ _ _)⟩
    · cases e
  · cases e
abbrev tt2 : Int → Int → Bool := fun _ _ => true
def gSub := gII tt2 fun i j => .int (i - j)
def gOr := gII tt2 fun i j => .int (Builtin.bitOr i j)
def gLt := gII tt2 fun i j => .bool (decide (i < j))
def gLe := gII tt2 fun i j => .bool (decide (i ≤ j))
def gGt := gII tt2 fun i j => .bool (decide (j < i))
def gGe := gII tt2 fun i j => .bool (decide (j ≤ i))
def pos2 : Int → Int → Bool := fun _ j => decide (0 < j)
def div2 : Int → Int → Bool := fun _ j => decide (0 < j) && decide (j.natAbs.log2 < 9000)
instance {i j : Int} : Decidable (CMul i j) := by unfold CMul; exact inferInstance
instance {i j : Int} : Decidable (CMulW i j) := by unfold CMulW; exact inferInstance
def mul2 : Int → Int → Bool := fun i j => decide (CMul i j) || decide (CMulW i j)
def pow2 : Int → Int → Bool := fun i j => decide (0 ≤ j) && decide (j ≤ 1000000) && decide (i.natAbs < 2 ^ 64)
def gMod := gII pos2 fun i j => .int (i % j)
def gDiv := gII div2 fun i j => .int (i / j)
def gPow := gII pow2 fun i j => .int (i ^ j.toNat)
def gShl := gII pow2 fun i j => .int (i * 2 ^ j.toNat)
theorem sub_ok : BopOk K (rI0 fun i j => .int (i - j)) gSub := rI0_ok fun _ _ _ _ _ => .int _
theorem or_ok : BopOk K (rI0 fun i j => .int (Builtin.bitOr i j)) gOr := rI0_ok fun _ _ _ _ _ => .int _
theorem lt_ok : BopOk K (rI0 fun i j => .bl (decide (i < j))) gLt := rI0_ok fun _ _ _ _ _ => .bl _
theorem le_ok : BopOk K (rI0 fun i j => .bl (decide (i ≤ j))) gLe := rI0_ok fun _ _ _ _ _ => .bl _
theorem gt_ok : BopOk K (rI0 fun i j => .bl (decide (j < i))) gGt := rI0_ok fun _ _ _ _ _ => .bl _
theorem ge_ok : BopOk K (rI0 fun i j => .bl (decide (j ≤ i))) gGe := rI0_ok fun _ _ _ _ _ => .bl _
theorem mod_ok : BopOk K (rI (fun _ j => 0 < j) fun i j => .int (i % j)) gMod := rI_ok (fun _ _ h => of_decide_eq_true h) fun _ _ _ _ _ => .int _
theorem div_ok : BopOk K (rI CDivW fun i j => .int (i / j)) gDiv := rI_ok (fun _ _ h => by simpa [div2, CDivW] using h) fun _ _ _ _ _ => .int _
theorem pow_ok : BopOk K (rI CPow fun i j => .int (i ^ j.toNat)) gPow := rI_ok (fun _ _ h => by simpa [pow2, CPow, and_assoc] using h) fun _ _ _ _ _ => .int _
theorem shl_ok : BopOk K (rI CPow fun i j => .int (i * 2 ^ j.toNat)) gShl := rI_ok (fun _ _ h => by simpa [pow2, CPow, and_assoc] using h) fun _ _ _ _ _ => .int _
def repD (k : Nat) (ds : List PD) : List PD := (List.replicate k ds).flatten
theorem DvA.rep {vs ds} (h : DvA K H A vs ds) : ∀ k : Nat, DvA K H A (List.replicate k vs).flatten (repD k ds)
  | 0 => .nil
  | k + 1 => by
    unfold repD
    rw [List.replicate_succ, List.replicate_succ, List.flatten_cons, List.flatten_cons]
    exact h.append (DvA.rep h k)
def gMul : PD → PD → Option PD
  | .int i, .int j => if mul2 i j = true then some (.int (i * j)) else none
  | .tuple ds, .int k => if (decide (k ≤ 1000) && decide (-1000 ≤ k) && decide (ds.length ≤ 1000)) = true then some (.tuple (repD k.toNat ds)) else none
  | _, _ => none
def rMulD (K : PySem.W.Frag) : R2 := fun x y H Q => ((rI CMul fun i j => .int (i * j)) x y H Q ∨ (rI CMulW fun i j => .int (i * j)) x y H Q) ∨ rMulT K x y H Q
theorem op_mulD : OpR X (binaryOp .Mult) (rMulD X.K) := (op_mul.or op_mulW).or op_mulT
theorem repD_nil (k : Nat) : repD k [] = [] := by
  unfold repD
  induction k with
  | zero => rfl
  | succ k ih => rw [List.replicate_succ, List.flatten_cons, ih]; rfl
theorem repD_one (ds : List PD) : repD 1 ds = ds := by simp [repD]
theorem mulD_ok : BopOk K (rMulD K) gMul := fun A H Q x y dx dy d na wx wy e k => by
  unfold gMul at e
  split at e
  · split at e
    · rename_i q
      cases e
      unfold mul2 at q
      rcases Bool.or_eq_true_iff.mp q with q | q
      · exact .inl (.inl ⟨_, _, wx.int, wy.int, of_decide_eq_true q, k _ H .refl (.int _)⟩)
      · exact .inl (.inr ⟨_, _, wx.int, wy.int, of_decide_eq_true q, k _ H .refl (.int _)⟩)
    · cases e
  · split at e
    · rename_i ds j q
      cases e
      simp only [Bool.and_eq_true, decide_eq_true_eq] at q
      obtain ⟨p, vs, rfl, h1, h2⟩ := wx.tup
      refine .inr ⟨p, j, vs, rfl, wy.int, h1, q.1.1, q.1.2, by rw [h2.len]; exact q.2, ?_⟩
      by_cases z : vs = [] ∨ j = 1
      · refine .inl ⟨z, k _ H .refl ?_⟩
        rcases z with z | z
        · subst z
          cases h2
          rw [repD_nil]
          exact wx.tupDv
        · subst z
          rw [show (1 : Int).toNat = 1 from rfl, repD_one]
          exact wx.tupDv
      · exact .inr ⟨fun w => z (.inl w), fun w => z (.inr w), fun r nr => k _ _ (.upd nr) (.newTup na nr (h2.rep _))⟩
    · cases e
  · cases e
def gEq (neg : Bool) : PD → PD → Option PD := fun d e => if (SeqAt.shaped d && SeqAt.shaped e) = true then some (.bool (xor neg (PyData.eqv d e))) else none
theorem eq_ok : BopOk K (rEqD K) (gEq false) := fun A H Q x y dx dy d na wx wy e k => by
  unfold gEq at e
  split at e
  · rename_i q
    cases e
    simp only [Bool.and_eq_true] at q
    refine ⟨dx, dy, wx.dp, wy.dp, q.1, q.2, ?_⟩
    have z := k (.bl (PyData.eqv dx dy)) H .refl
    rw [Bool.false_xor] at z
    exact z (.bl _)
  · cases e
theorem ne_ok : BopOk K (rNeD K) (gEq true) := fun A H Q x y dx dy d na wx wy e k => by
  unfold gEq at e
  split at e
  · rename_i q
    cases e
    simp only [Bool.and_eq_true] at q
    refine ⟨dx, dy, wx.dp, wy.dp, q.1, q.2, ?_⟩
    have z := k (.bl (!PyData.eqv dx dy)) H .refl
    rw [Bool.true_xor] at z
    exact z (.bl _)
  · cases e
def isBv (b : Bool) : PD → Bool
  | .bool c => c == b
  | _ => false
def gIsB (neg : Bool) : PD → PD → Option PD := fun d e => match e with
  | .bool b => some (.bool (xor neg (isBv b d)))
  | _ => none
theorem isB_ok {neg : Bool} : BopOk K (rIsB neg) (gIsB neg) := fun A H Q x y dx dy d na wx wy e k => by
  unfold gIsB at e
  split at e
  · rename_i b
    cases e
    refine ⟨b, wy.bl, fun n q => ?_, ?_⟩
    · rcases wx with wx | ⟨p, vs, ds, rfl, rfl, hp, w⟩
      · subst q; cases wx
      · cases q
    · have e2 : decide (x = V.bl b) = isBv b dx := by
        rcases wx with wx | ⟨p, vs, ds, rfl, rfl, hp, w⟩
        · cases wx <;> simp [isBv]
          rename_i c
          cases b <;> cases c <;> rfl
        · simp [isBv]
      rw [e2]
      exact k _ H .refl (.bl _)
  · cases e
def flatD : PD → Bool
  | .none => true
  | .bool _ => true
  | .int _ => true
  | .str _ => true
  | _ => false
theorem flat_of {v : V} {d : PD} (h : Dv K H A v d) (f : flatD d = true) : flatV v = true := by cases h <;> first | rfl | cases f
theorem flats_of : ∀ {vs : List V} {ds : List PD}, DvA K H A vs ds → ds.all flatD = true → vs.all flatV = true
  | _, _, .nil, _ => rfl
  | _, _, .cons h t, f => by
    simp only [List.all_cons, Bool.and_eq_true] at f ⊢
    exact ⟨flat_of h f.1, flats_of t f.2⟩
theorem eqV_of {v u : V} {d e : PD} (h : Dv K H A v d) (h2 : Dv K H A u e) (f : flatD d = true) (g : flatD e = true) : eqV v u = PyData.eqv d e := by
  cases h <;> first | cases f | skip
  all_goals cases h2 <;> first | (simp [eqV, PyData.eqv]; done) | rfl | cases g
theorem inV_of {u : V} {e : PD} (h2 : Dv K H A u e) (g : flatD e = true) : ∀ {vs : List V} {ds : List PD}, DvA K H A vs ds → ds.all flatD = true → inV u vs = ds.any fun z => PyData.eqv z e
  | _, _, .nil, _ => rfl
  | _, _, .cons h t, f => by
    simp only [List.all_cons, Bool.and_eq_true] at f
    have z := inV_of h2 g t f.2
    unfold inV at z ⊢
    simp only [List.any_cons]
    rw [z, eqV_of h h2 f.1 g]
def gIn (neg : Bool) : PD → PD → Option PD := fun d e => match e with
  | .list ds => if (SeqAt.shaped d && SeqAt.shaped (.list ds)) = true then some (.bool (xor neg (ds.any fun z => PyData.eqv z d))) else none
  | .tuple ds => if (SeqAt.shaped d && SeqAt.shaped (.tuple ds)) = true then some (.bool (xor neg (ds.any fun z => PyData.eqv z d))) else none
  | _ => none
def rInTd (K : PySem.W.Frag) (neg : Bool) : R2 := fun x y H Q => ∃ d ds, Dp K H x d ∧ Dp K H y (.tuple ds) ∧ SeqAt.shaped d = true ∧ SeqAt.shaped (.tuple ds) = true ∧ Q (.bl (xor neg (ds.any fun z => PyData.eqv z d))) H
theorem op_inTd (hu : X.A.units + 65 < cLine) : OpR X (compareOp .In) (rInTd X.K false) := fun pins s σ H x y v u Q I rx ry ⟨d, ds, hd, he, sd, se, q⟩ => by
  obtain ⟨as, r1⟩ := Dp.reads I d x v hd rx
  obtain ⟨bs, r2⟩ := Dp.reads I (.tuple ds) y u he ry
  rw [Bool.false_xor] at q
  exact SeqAt.in_tuple_reads r2 r1 (SeqAt.canLay_of_shaped se) (SeqAt.canLay_of_shaped sd) (room_in_shaped sd hu) ⟨.bl _, H, I, rfl, q⟩
theorem op_notInTd (hu : X.A.units + 65 < cLine) : OpR X (compareOp .NotIn) (rInTd X.K true) := fun pins s σ H x y v u Q I rx ry ⟨d, ds, hd, he, sd, se, q⟩ => by
  obtain ⟨as, r1⟩ := Dp.reads I d x v hd rx
  obtain ⟨bs, r2⟩ := Dp.reads I (.tuple ds) y u he ry
  rw [Bool.true_xor] at q
  exact SeqAt.notIn_tuple_reads r2 r1 (SeqAt.canLay_of_shaped se) (SeqAt.canLay_of_shaped sd) (room_in_shaped sd hu) ⟨.bl _, H, I, rfl, q⟩
def rInB (K : PySem.W.Frag) (neg : Bool) : R2 := fun x y H Q => (if neg then rNotInD K else rInD K) x y H Q ∨ rInTd K neg x y H Q
theorem op_inB (hu : X.A.units + 65 < cLine) : OpR X (compareOp .In) (rInB X.K false) := (op_inD hu).or (op_inTd hu)
theorem op_notInB (hu : X.A.units + 65 < cLine) : OpR X (compareOp .NotIn) (rInB X.K true) := (op_notInD hu).or (op_notInTd hu)
theorem in_ok {neg : Bool} : BopOk K (rInB K neg) (gIn neg) := fun A H Q x y dx dy d na wx wy e k => by
  unfold gIn at e
  split at e
  · split at e
    · rename_i ds q
      cases e
      simp only [Bool.and_eq_true] at q
      refine .inl ?_
      cases neg with
      | false =>
        refine ⟨dx, ds, wx.dp, wy.dp, q.1, q.2, ?_⟩
        have z := k (.bl (ds.any fun z => PyData.eqv z dx)) H .refl
        rw [Bool.false_xor] at z
        exact z (.bl _)
      | true =>
        refine ⟨dx, ds, wx.dp, wy.dp, q.1, q.2, ?_⟩
        have z := k (.bl (!ds.any fun z => PyData.eqv z dx)) H .refl
        rw [Bool.true_xor] at z
        exact z (.bl _)
    · cases e
  · split at e
    · rename_i ds q
      cases e
      simp only [Bool.and_eq_true] at q
      exact .inr ⟨dx, ds, wx.dp, wy.dp, q.1, q.2, k _ H .refl (.bl _)⟩
    · cases e
  · cases e
theorem atI_rel {vs ds} {i : Int} {d : PD} (h : DvA K H A vs ds) (e : atI ds i = some d) : ∃ v, atI vs i = some v ∧ Dv K H A v d := by
  unfold atI at e ⊢
  obtain ⟨j, e1, e2⟩ := Option.bind_eq_some_iff.mp e
  obtain ⟨v, h1, h2⟩ := h.get e2
  exact ⟨v, by rw [h.len, e1]; exact h1, h2⟩
def gIx : PD → PD → Option PD
  | .list ds, .int i => atI ds i
  | .tuple ds, .int i => atI ds i
  | .str z, .int i => if lineB z.length = true then (atI z.cps.toList i).map fun c => .str ⟨#[c]⟩ else none
  | _, _ => none
theorem ix_ok : BopOk K (rIx K) gIx := fun A H Q x y dx dy d na wx wy e k => by
  unfold gIx at e
  split at e
  · obtain ⟨p, vs, rfl, h1, h2⟩ := wx.lst
    obtain ⟨v, e1, h3⟩ := atI_rel h2 e
    exact .inl ⟨p, vs, _, v, rfl, wy.int, h1, e1, k _ H .refl h3⟩
  · obtain ⟨p, vs, rfl, h1, h2⟩ := wx.tup
    obtain ⟨v, e1, h3⟩ := atI_rel h2 e
    exact .inr (.inl ⟨p, vs, _, v, rfl, wy.int, h1, e1, k _ H .refl h3⟩)
  · split at e
    · rename_i q
      obtain ⟨c, e1, e2⟩ := Option.map_eq_some_iff.mp e
      subst e2
      exact .inr (.inr ⟨_, _, c, wx.str, wy.int, of_decide_eq_true q, e1, k _ H .refl (.str _)⟩)
    · cases e
  · cases e
end
end Dl
set_option Elab.async false
set_option linter.all false
set_option maxRecDepth 100000
namespace Dl
open PySem PySem.Spec PyProof.Rows L2
def DPo (c : Cz) (t : TO) (f : Nv → Rs (Option Int)) : Prop := ∀ S σ H n Q, Rel c.K S H σ n → OkG c S (fun _ _ (v : Option Int) a => v = a) (f n) σ n H Q → t σ H Q
def pN : Nv → Rs (Option Int) := fun n => ret none n
def pS (fe : Nv → Rs Ar) : Nv → Rs (Option Int) := fun n => bnd (fe n) fun a n1 => match a with
  | .d (.int i) => ret (some i) n1
  | _ => none
def cutD (xs : List PD) (lo hi : Option Int) : List PD := (xs.drop (HT.sIx xs.length 0 lo)).take (HT.sIx xs.length xs.length hi - HT.sIx xs.length 0 lo)
def gSl (lo hi : Option Int) : PD → Option PD
  | .list ds => some (.list (cutD ds lo hi))
  | .tuple ds => some (.tuple (cutD ds lo hi))
  | _ => none
def eSl (fx : Nv → Rs Ar) (fl fh : Nv → Rs (Option Int)) : Nv → Rs Ar := fun n => bnd (fx n) fun a n1 => bnd (fl n1) fun lo n2 => bnd (fh n2) fun hi n3 =>
  lft (ArD n3 a) fun x => lft (gSl lo hi x) fun d => ret (.d d) n3
def rSlD (K : PySem.W.Frag) : V → Option Int → Option Int → Hp → VK → Prop := fun x lo hi H Q => rSlL K x lo hi H Q ∨ rSlT K x lo hi H Q ∨ rSlW K x lo hi H Q
theorem sl_D {X : Cx} : SlR X (rSlD X.K) := sl_list.or (sl_tup.or sl_whole)
section
variable {c : Cz} {te : TE} {fe : Nv → Rs Ar} {K : PySem.W.Frag} {H : Hp} {A : AS}
theorem dpo_none : DPo c tNoPart pN := fun S σ H n Q R h => h.ret .refl R rfl
theorem dpo_some (h1 : DE c te fe) : DPo c (tPart te) (pS fe) := fun S σ H n Q R h => by
  refine h1 S σ H n _ R (OkG.bind h fun v a n1 H1 s1 k1 R1 va h2 => ?_)
  match a, va, h2 with
  | .d (.int i), va, h2 =>
    cases va
    exact ⟨i, rfl, h2.ret .refl R1 rfl⟩
theorem DvA.cut {vs : List V} {ds : List PD} {lo hi : Option Int} (h : DvA K H A vs ds) : DvA K H A (cutV vs lo hi) (cutD ds lo hi) := by
  unfold cutV cutD
  rw [h.len]
  exact (h.drop _).take _
theorem sl_ok {x : V} {dx d : PD} {lo hi : Option Int} {Q : VK} (na : ∀ a, A a → H a ≠ none) (wx : Dw K H A x dx) (e : gSl lo hi dx = some d) (k : ∀ v H', NewH H H' → Dv K H' A v d → Q v H') : rSlD K x lo hi H Q := by
  unfold gSl at e
  split at e
  · cases e
    obtain ⟨p, vs, rfl, h1, h2⟩ := wx.lst
    exact .inl ⟨p, vs, rfl, h1, fun r nr => k _ _ (.upd nr) (.newLst na nr h2.cut)⟩
  · rename_i ds
    cases e
    obtain ⟨p, vs, rfl, h1, h2⟩ := wx.tup
    by_cases z : HT.sIx vs.length 0 lo = 0 ∧ HT.sIx vs.length vs.length hi = vs.length
    · refine .inr (.inr ⟨p, vs, rfl, h1, z.1, z.2, k _ H .refl ?_⟩)
      have e2 : cutD ds lo hi = ds := by
        unfold cutD
        rw [← h2.len, z.1, z.2, h2.len]
        simp
      rw [e2]
      exact wx.tupDv
    · exact .inr (.inl ⟨p, vs, rfl, h1, z, fun r nr => k _ _ (.upd nr) (.newTup na nr h2.cut)⟩)
  · cases e
theorem de_sl {tl th : TO} {fl fh} (hx : DE c te fe) (hl : DPo c tl fl) (hh : DPo c th fh) : DE c (tSl (rSlD c.K) te tl th) (eSl fe fl fh) := fun S σ H n Q R h => by
  refine hx S σ H n _ R (OkG.bind h fun v a n1 H1 s1 k1 R1 va h1 => ?_)
  refine hl S σ H1 n1 _ R1 (OkG.bind h1 fun lo lo' n2 H2 s2 k2 R2' vl h2 => ?_)
  refine hh S σ H2 n2 _ R2' (OkG.bind h2 fun hi hi' n3 H3 s3 k3 R3 vh h3 => ?_)
  subst vl vh
  obtain ⟨x, ex, h3⟩ := h3.lft
  obtain ⟨d, ed, h3⟩ := h3.lft
  exact sl_ok R3.avSome (ArV.dw R3 ((va.move s2 k2).move s3 k3) ex) ed fun v' H' g hv => h3.ret g (R3.ext g) hv
end
def CopOk (K : PySem.W.Frag) (r : List V → Hp → VK → Prop) (g : List PD → Option PD) : Prop := ∀ (A : AS) (H : Hp) (Q : VK) (vs : List V) (ds : List PD) (d : PD), (∀ a, A a → H a ≠ none) → Dws K H A vs ds → g ds = some d →
  (∀ v H', NewH H H' → Dv K H' A v d → Q v H') → r vs H Q
def CopL (K : PySem.W.Frag) (r : List V → Hp → VK → Prop) (g : List PD → Option (List PD)) : Prop := ∀ (A : AS) (H : Hp) (Q : VK) (vs : List V) (ds es : List PD), (∀ a, A a → H a ≠ none) → Dws K H A vs ds → g ds = some es →
  (∀ p us, H p = none → DvA K H A us es → Q (.ref p) (L2.upd H p (.lst us))) → r vs H Q
def eCb (g : List PD → Option PD) (fr : Nv → Rs (List Ar)) : Nv → Rs Ar := fun n => bnd (fr n) fun as n1 => lft (ArDs n1 as) fun ds => lft (g ds) fun d => ret (.d d) n1
def oCb (g : List PD → Option (List PD)) (fr : Nv → Rs (List Ar)) : Nv → Rs (List PD) := fun n => bnd (fr n) fun as n1 => lft (ArDs n1 as) fun ds => lft (g ds) fun es => ret es n1
def eOf (fo : Nv → Rs (List PD)) : Nv → Rs Ar := fun n => bnd (fo n) fun ds n1 => ret (.d (.list ds)) n1
section
variable {c : Cz} {te : TE} {fe : Nv → Rs Ar} {ta : TA} {fr : Nv → Rs (List Ar)} {K : PySem.W.Frag} {H : Hp} {A : AS}
theorem de_cb {r : List V → Hp → VK → Prop} {g : List PD → Option PD} (hr : CopOk c.K r g) (ha : DA c ta fr) : DE c (tCB r ta) (eCb g fr) := fun S σ H n Q R h => by
  refine ha S σ H n _ R (OkG.bind h fun vs as n1 H1 s1 k1 R1 va h1 => ?_)
  obtain ⟨ds, e1, h1⟩ := h1.lft
  obtain ⟨d, e2, h1⟩ := h1.lft
  exact hr (AV S σ n1) H1 Q vs ds d R1.avSome (va.dws R1 e1) e2 fun v H' g' hv => h1.ret g' (R1.ext g') hv
theorem do_cb {r : List V → Hp → VK → Prop} {g : List PD → Option (List PD)} (hr : CopL c.K r g) (ha : DA c ta fr) : DO c (tCB r ta) (oCb g fr) := fun S σ H n Q R h => by
  refine ha S σ H n _ R (OkG.bind h fun vs as n1 H1 s1 k1 R1 va h1 => ?_)
  obtain ⟨ds, e1, h1⟩ := h1.lft
  obtain ⟨es, e2, h1⟩ := h1.lft
  exact hr (AV S σ n1) H1 Q vs ds es R1.avSome (va.dws R1 e1) e2 fun p us np hv => h1.ret (.upd np) (R1.new np) ⟨p, rfl, s1.non np, .new R1 np hv⟩
theorem de_of {fo : Nv → Rs (List PD)} (h1 : DO c te fo) : DE c te (eOf fo) := fun S σ H n Q R h => by
  refine h1 S σ H n _ R (OkG.bind h fun v ds n1 H1 s1 k1 R1 va h2 => ?_)
  obtain ⟨p, rfl, np, fr⟩ := va
  exact h2.ret .refl R1 fr.dv
theorem dws1 {vs d} (h : Dws K H A vs [d]) : ∃ v, vs = [v] ∧ Dw K H A v d := by
  cases h with
  | cons h t => cases t; exact ⟨_, rfl, h⟩
theorem dws2 {vs d e} (h : Dws K H A vs [d, e]) : ∃ v u, vs = [v, u] ∧ Dw K H A v d ∧ Dw K H A u e := by
  cases h with
  | cons h t => cases t with
    | cons h2 t => cases t; exact ⟨_, _, rfl, h, h2⟩
def gLen : List PD → Option PD
  | [.list ds] => some (.int ds.length)
  | [.tuple ds] => some (.int ds.length)
  | [.str z] => if lineB z.length = true then some (.int z.length) else none
  | _ => none
def rLen (K : PySem.W.Frag) : List V → Hp → VK → Prop := fun xs H Q => (∃ p ys, xs = [.ref p] ∧ (SqL K H p ys ∨ SqT K H p ys) ∧ Q (.int ys.length) H) ∨ (∃ z, xs = [.str z] ∧ z.length ≤ sizeLine ∧ Q (.int z.length) H)
theorem cr_len {X : Cx} : CallR X (.builtin "len") (rLen X.K) := call_len_seq.or call_len_str
theorem len_ok : CopOk K (rLen K) gLen := fun A H Q vs ds d na w e k => by
  unfold gLen at e
  split at e
  · cases e
    obtain ⟨v, rfl, h⟩ := dws1 w
    obtain ⟨p, us, rfl, h1, h2⟩ := h.lst
    exact .inl ⟨p, us, rfl, .inl h1, k _ H .refl (h2.len ▸ .int _)⟩
  · cases e
    obtain ⟨v, rfl, h⟩ := dws1 w
    obtain ⟨p, us, rfl, h1, h2⟩ := h.tup
    exact .inl ⟨p, us, rfl, .inr h1, k _ H .refl (h2.len ▸ .int _)⟩
  · split at e
    · rename_i z q
      cases e
      obtain ⟨v, rfl, h⟩ := dws1 w
      exact .inr ⟨z, by rw [h.str], of_decide_eq_true q, k _ H .refl (.int _)⟩
    · cases e
  · cases e
def gTupOf : List PD → Option PD
  | [.list ds] => some (.tuple ds)
  | [.tuple ds] => some (.tuple ds)
  | _ => none
def rTupOf (K : PySem.W.Frag) : List V → Hp → VK → Prop := fun xs H Q => ∃ p ys, xs = [.ref p] ∧ ((SqL K H p ys ∧ ∀ l, H l = none → Q (.ref l) (L2.upd H l (.tup ys))) ∨ (SqT K H p ys ∧ Q (.ref p) H))
theorem tupOf_ok : CopOk K (rTupOf K) gTupOf := fun A H Q vs ds d na w e k => by
  unfold gTupOf at e
  split at e
  · cases e
    obtain ⟨v, rfl, h⟩ := dws1 w
    obtain ⟨p, us, rfl, h1, h2⟩ := h.lst
    exact ⟨p, us, rfl, .inl ⟨h1, fun l nl => k _ _ (.upd nl) (.newTup na nl h2)⟩⟩
  · cases e
    obtain ⟨v, rfl, h⟩ := dws1 w
    obtain ⟨p, us, rfl, h1, h2⟩ := h.tup
    exact ⟨p, us, rfl, .inr ⟨h1, k _ H .refl h.tupDv⟩⟩
  · cases e
def gLstOf : List PD → Option (List PD)
  | [.list ds] => some ds
  | [.tuple ds] => some ds
  | _ => none
def rLstOf (K : PySem.W.Frag) : List V → Hp → VK → Prop := fun xs H Q => ∃ p ys, xs = [.ref p] ∧ (SqL K H p ys ∨ SqT K H p ys) ∧ ∀ l, H l = none → Q (.ref l) (L2.upd H l (.lst ys))
theorem lstOf_ok : CopL K (rLstOf K) gLstOf := fun A H Q vs ds es na w e k => by
  unfold gLstOf at e
  split at e
  · cases e
    obtain ⟨v, rfl, h⟩ := dws1 w
    obtain ⟨p, us, rfl, h1, h2⟩ := h.lst
    exact ⟨p, us, rfl, .inl h1, fun l nl => k _ _ nl h2⟩
  · cases e
    obtain ⟨v, rfl, h⟩ := dws1 w
    obtain ⟨p, us, rfl, h1, h2⟩ := h.tup
    exact ⟨p, us, rfl, .inr h1, fun l nl => k _ _ nl h2⟩
  · cases e
def gInt : List PD → Option PD
  | [.int i] => some (.int i)
  | [.bool b] => some (.int (if b then 1 else 0))
  | _ => none
def rInt : List V → Hp → VK → Prop := fun xs H Q => (∃ i, xs = [.int i] ∧ Q (.int i) H) ∨ ∃ k, xs = [.bl k] ∧ Q (.int (if k then 1 else 0)) H
theorem int_ok : CopOk K rInt gInt := fun A H Q vs ds d na w e k => by
  unfold gInt at e
  split at e
  · cases e
    obtain ⟨v, rfl, h⟩ := dws1 w
    exact .inl ⟨_, by rw [h.int], k _ H .refl (.int _)⟩
  · cases e
    obtain ⟨v, rfl, h⟩ := dws1 w
    exact .inr ⟨_, by rw [h.bl], k _ H .refl (.int _)⟩
  · cases e
def gMax2 : List PD → Option PD
  | [.int i, .int j] => some (.int (if j > i then j else i))
  | _ => none
def gMin2 : List PD → Option PD
  | [.int i, .int j] => some (.int (if j < i then j else i))
  | _ => none
theorem max2_ok : CopOk K (fun xs H Q => ∃ i j, xs = [.int i, .int j] ∧ Q (.int (if j > i then j else i)) H) gMax2 := fun A H Q vs ds d na w e k => by
  unfold gMax2 at e
  split at e
  · cases e
    obtain ⟨v, u, rfl, h, h2⟩ := dws2 w
    exact ⟨_, _, by rw [h.int, h2.int], k _ H .refl (.int _)⟩
  · cases e
theorem min2_ok : CopOk K (fun xs H Q => ∃ i j, xs = [.int i, .int j] ∧ Q (.int (if j < i then j else i)) H) gMin2 := fun A H Q vs ds d na w e k => by
  unfold gMin2 at e
  split at e
  · cases e
    obtain ⟨v, u, rfl, h, h2⟩ := dws2 w
    exact ⟨_, _, by rw [h.int, h2.int], k _ H .refl (.int _)⟩
  · cases e
def blsOf : List PD → Option (List Bool)
  | [] => some []
  | .bool b :: r => (blsOf r).map (b :: ·)
  | _ => none
theorem bls_of : ∀ {vs : List V} {ds : List PD} {bs : List Bool}, DvA K H A vs ds → blsOf ds = some bs → vs = bs.map V.bl
  | _, _, bs, .nil, e => by cases e; rfl
  | _, _, bs, .cons (d := .bool b) h t, e => by
    obtain ⟨r, e1, e2⟩ := Option.map_eq_some_iff.mp e
    subst e2
    cases h
    rw [bls_of t e1]
    rfl
  | _, _, bs, .cons (d := .none) h t, e => by cases e
  | _, _, bs, .cons (d := .int _) h t, e => by cases e
  | _, _, bs, .cons (d := .str _) h t, e => by cases e
  | _, _, bs, .cons (d := .list _) h t, e => by cases e
  | _, _, bs, .cons (d := .tuple _) h t, e => by cases e
  | _, _, bs, .cons (d := .dict _) h t, e => by cases e
def intsOf : List PD → Option (List Int)
  | [] => some []
  | .int b :: r => (intsOf r).map (b :: ·)
  | _ => none
theorem ints_of : ∀ {vs : List V} {ds : List PD} {bs : List Int}, DvA K H A vs ds → intsOf ds = some bs → vs = bs.map V.int
  | _, _, bs, .nil, e => by cases e; rfl
  | _, _, bs, .cons (d := .int b) h t, e => by
    obtain ⟨r, e1, e2⟩ := Option.map_eq_some_iff.mp e
    subst e2
    cases h
    rw [ints_of t e1]
    rfl
  | _, _, bs, .cons (d := .none) h t, e => by cases e
  | _, _, bs, .cons (d := .bool _) h t, e => by cases e
  | _, _, bs, .cons (d := .str _) h t, e => by cases e
  | _, _, bs, .cons (d := .list _) h t, e => by cases e
  | _, _, bs, .cons (d := .tuple _) h t, e => by cases e
  | _, _, bs, .cons (d := .dict _) h t, e => by cases e
def gAll : List PD → Option PD
  | [.list ds] => (blsOf ds).map fun bs => .bool (bs.all id)
  | _ => none
theorem all_ok : CopOk K (rAll K) gAll := fun A H Q vs ds d na w e k => by
  unfold gAll at e
  split at e
  · obtain ⟨bs, e1, e2⟩ := Option.map_eq_some_iff.mp e
    subst e2
    obtain ⟨v, rfl, h⟩ := dws1 w
    obtain ⟨p, us, rfl, h1, h2⟩ := h.lst
    exact ⟨p, bs, rfl, bls_of h2 e1 ▸ h1, k _ H .refl (.bl _)⟩
  · cases e
def gAny : List PD → Option PD
  | [.list ds] => (blsOf ds).map fun bs => .bool (bs.any id)
  | _ => none
theorem any_ok : CopOk K (rAny K) gAny := fun A H Q vs ds d na w e k => by
  unfold gAny at e
  split at e
  · obtain ⟨bs, e1, e2⟩ := Option.map_eq_some_iff.mp e
    subst e2
    obtain ⟨v, rfl, h⟩ := dws1 w
    obtain ⟨p, us, rfl, h1, h2⟩ := h.lst
    exact ⟨p, bs, rfl, bls_of h2 e1 ▸ h1, k _ H .refl (.bl _)⟩
  · cases e
def gSum : List PD → Option PD
  | [.list ds] => (intsOf ds).map fun bs => .int bs.sum
  | _ => none
theorem sum_ok : CopOk K (rSum K) gSum := fun A H Q vs ds d na w e k => by
  unfold gSum at e
  split at e
  · obtain ⟨bs, e1, e2⟩ := Option.map_eq_some_iff.mp e
    subst e2
    obtain ⟨v, rfl, h⟩ := dws1 w
    obtain ⟨p, us, rfl, h1, h2⟩ := h.lst
    exact ⟨p, bs, rfl, ints_of h2 e1 ▸ h1, k _ H .refl (.int _)⟩
  · cases e
def sortI (ns : List Int) : List Int := ns.mergeSort (fun a b => decide (a ≤ b))
theorem sortI_perm (ns : List Int) : (sortI ns).Perm ns := List.mergeSort_perm _ _
theorem sortI_pw (ns : List Int) : (sortI ns).Pairwise (· ≤ ·) := by
  have h := List.pairwise_mergeSort (le := fun a b : Int => decide (a ≤ b)) (fun a b c h1 h2 => by simp at *; omega) (fun a b => by simp; omega) ns
  exact h.imp fun h => of_decide_eq_true h
theorem sort_uniq : ∀ {l1 l2 : List Int}, l1.Perm l2 → l1.Pairwise (· ≤ ·) → l2.Pairwise (· ≤ ·) → l1 = l2 := fun p h1 h2 => List.Perm.eq_of_pairwise (fun a b _ _ h h' => Int.le_antisymm h h') h1 h2 p
def gSrt : List PD → Option (List PD)
  | [.list ds] => (intsOf ds).map fun ns => (sortI ns).map .int
  | _ => none
theorem dvInts : ∀ ns : List Int, DvA K H A (ns.map V.int) (ns.map .int)
  | [] => .nil
  | n :: r => .cons (.int n) (dvInts r)
theorem srt_ok : CopL K (rSortedI K) gSrt := fun A H Q vs ds es na w e k => by
  unfold gSrt at e
  split at e
  · obtain ⟨ns, e1, e2⟩ := Option.map_eq_some_iff.mp e
    subst e2
    obtain ⟨v, rfl, h⟩ := dws1 w
    obtain ⟨p, us, rfl, h1, h2⟩ := h.lst
    refine ⟨p, ns, rfl, ints_of h2 e1 ▸ h1, fun ns' q hp hw nq => ?_⟩
    have e3 : ns' = sortI ns := sort_uniq (hp.trans (sortI_perm ns).symm) hw (sortI_pw ns)
    subst e3
    exact k q _ nq (dvInts _)
  · cases e
def rgOk (a b : Int) : Bool := decide (-(2 ^ 62) ≤ a) && decide (a < 2 ^ 62) && decide (-(2 ^ 62) ≤ b) && decide (b < 2 ^ 62) && decide ((b - a).toNat ≤ 2 ^ 24)
theorem rgOk_of {a b : Int} (h : rgOk a b = true) : RgOk a b := by
  unfold rgOk at h
  simp only [Bool.and_eq_true, decide_eq_true_eq] at h
  exact ⟨h.1.1.1.1, h.1.1.1.2, h.1.1.2, h.1.2, h.2⟩
theorem dvRg (a : Int) (k : Nat) : DvA K H A ((List.range k).map fun (i : Nat) => V.int (a + (i : Nat))) (rngD a k) := by
  unfold rngD
  generalize List.range k = l
  induction l with
  | nil => exact .nil
  | cons x r ih => exact .cons (.int _) ih
def oRg1 (fe : Nv → Rs Ar) : Nv → Rs (List PD) := fun n => bnd (fe n) fun a n1 => match a with
  | .d (.int j) => if rgOk 0 j = true then ret (rngD 0 j.toNat) n1 else none
  | _ => none
def oRg2 (fa fb : Nv → Rs Ar) : Nv → Rs (List PD) := fun n => bnd (fa n) fun a n1 => bnd (fb n1) fun b n2 => match a, b with
  | .d (.int i), .d (.int j) => if rgOk i j = true then ret (rngD i (j - i).toNat) n2 else none
  | _, _ => none
def eTupRg1 (fe : Nv → Rs Ar) : Nv → Rs Ar := fun n => bnd (fe n) fun a n1 => match a with
  | .d (.int j) => if rgOk 0 j = true then ret (.d (.tuple (rngD 0 j.toNat))) n1 else none
  | _ => none
theorem do_rg1 (h1 : DE c te fe) : DO c (tLstRg (tRg1 te)) (oRg1 fe) := fun S σ H n Q R h => by
  refine h1 S σ H n _ R (OkG.bind h fun v a n1 H1 s1 k1 R1 va h2 => ?_)
  match a, va, h2 with
  | .d (.int j), va, h2 =>
    cases va
    dsimp only at h2
    split at h2
    · rename_i q
      refine ⟨j, rfl, rgOk_of q, fun p np => h2.ret (.upd np) (R1.new np) ⟨p, rfl, s1.non np, .new R1 np ?_⟩⟩
      have z := dvRg (K := c.K) (H := H1) (A := AV S σ n1) 0 (j - 0).toNat
      have e : rngD 0 (j - 0).toNat = rngD 0 j.toNat := by rw [Int.sub_zero]
      rw [e] at z
      exact z
    · exact h2.elim
theorem de_tupRg1 (h1 : DE c te fe) : DE c (tTupRg (tRg1 te)) (eTupRg1 fe) := fun S σ H n Q R h => by
  refine h1 S σ H n _ R (OkG.bind h fun v a n1 H1 s1 k1 R1 va h2 => ?_)
  match a, va, h2 with
  | .d (.int j), va, h2 =>
    cases va
    dsimp only at h2
    split at h2
    · rename_i q
      refine ⟨j, rfl, rgOk_of q, fun p np => h2.ret (.upd np) (R1.new np) ?_⟩
      have z := dvRg (K := c.K) (H := H1) (A := AV S σ n1) 0 (j - 0).toNat
      have e : rngD 0 (j - 0).toNat = rngD 0 j.toNat := by rw [Int.sub_zero]
      rw [e] at z
      exact .newTup R1.avSome np z
    · exact h2.elim
theorem do_rg2 {tb : TE} {fb} (h1 : DE c te fe) (h2 : DE c tb fb) : DO c (tLstRg (tRg2 te tb)) (oRg2 fe fb) := fun S σ H n Q R h => by
  refine h1 S σ H n _ R (OkG.bind h fun v a n1 H1 s1 k1 R1 va h3 => ?_)
  refine h2 S σ H1 n1 _ R1 (OkG.bind h3 fun u b n2 H2 s2 k2 R2' vb h4 => ?_)
  match a, va, b, vb, h4 with
  | .d (.int i), va, .d (.int j), vb, h4 =>
    cases va
    cases vb
    dsimp only at h4
    split at h4
    · rename_i q
      exact ⟨i, j, rfl, rfl, rgOk_of q, fun p np => h4.ret (.upd np) (R2'.new np) ⟨p, rfl, s1.non (s2.non np), .new R2' np (dvRg i _)⟩⟩
    · exact h4.elim
end
end Dl
set_option Elab.async false
set_option linter.all false
set_option maxRecDepth 100000
namespace Dl
open PySem PySem.Spec PyProof.Rows L2
def tyD : PD → String
  | .none => "NoneType"
  | .bool _ => "bool"
  | .int _ => "int"
  | .str _ => "str"
  | .list _ => "list"
  | .tuple _ => "tuple"
  | .dict _ => "dict"
def isiD (T : String) (d : PD) : Bool := decide (tyD d = T) || (decide (T = "int") && decide (tyD d = "bool"))
def KitT (T : String) : Prop := ∀ a ∈ ["NoneType", "bool", "int", "str", "list", "tuple"], kitB a T = some (decide (a = T) || (decide (T = "int") && decide (a = "bool")))
theorem kit_int : KitT "int" := by unfold KitT; decide +kernel
theorem kit_bool : KitT "bool" := by unfold KitT; decide +kernel
theorem kit_str : KitT "str" := by unfold KitT; decide +kernel
theorem kit_tuple : KitT "tuple" := by unfold KitT; decide +kernel
theorem kit_list : KitT "list" := by unfold KitT; decide +kernel
section
variable {K : PySem.W.Frag} {H : Hp} {A : AS}
theorem Dw.tyX {v : V} {d : PD} (h : Dw K H A v d) : TyX K H v (.type (tyD d)) ∧ tyD d ∈ ["NoneType", "bool", "int", "str", "list", "tuple"] := by
  rcases h with h | ⟨p, vs, ds, rfl, rfl, h, _⟩
  · cases h with
    | non => exact ⟨.base .non, by simp [tyD]⟩
    | bl b => exact ⟨.base (.bl b), by simp [tyD]⟩
    | int i => exact ⟨.base (.int i), by simp [tyD]⟩
    | str x => exact ⟨.base (.str x), by simp [tyD]⟩
    | lst hl _ =>
      refine ⟨?_, by simp [tyD]⟩
      rcases hl with ⟨h | ⟨o, h⟩, _⟩ | ⟨o, its, n, h, hc, _⟩
      · exact .base (.lst h)
      · exact .base (.frz h)
      · exact .kList h hc
    | tup hl _ =>
      refine ⟨?_, by simp [tyD]⟩
      rcases hl with ⟨h | ⟨o, h⟩, _⟩ | ⟨o, its, n, h, hc, _⟩
      · exact .base (.tup h)
      · exact .fTuple h
      · exact .kTuple h hc
  · exact ⟨.base (.lst h), by simp [tyD]⟩
end
def eIsi (T : String) (fe : Nv → Rs Ar) : Nv → Rs Ar := fun n => bnd (fe n) fun a n1 => lft (ArD n1 a) fun d => ret (.d (.bool (isiD T d))) n1
theorem de_isi {c : Cz} {te : TE} {fe : Nv → Rs Ar} {T : String} (hT : KitT T) (h1 : DE c te fe) : DE c (tCB (rIsi c.K) (tCons te (tCons (tC (.ty T)) tNil))) (eIsi T fe) := fun S σ H n Q R h => by
  refine h1 S σ H n _ R (OkG.bind h fun v a n1 H1 s1 k1 R1 va h2 => ?_)
  obtain ⟨d, ed, h2⟩ := h2.lft
  obtain ⟨t1, t2⟩ := (ArV.dw R1 va ed).tyX
  exact ⟨v, .ty T, .type (tyD d), .type T, isiD T d, rfl, .ty T, t1, kit_ty (hT _ t2), h2.ret .refl R1 (Dv.bl _)⟩
def spI2 (K : PySem.W.Frag) (f g : Str) : Sp := fun vs H Q _ => ∃ (a C : Addr) (x y : V), vs = [.ref a, x, y] ∧ OexC K C ∧ PySem.W.findIn K (.ref C) f = some none ∧ PySem.W.findIn K (.ref C) g = some none ∧ H a = some (exo a C none) ∧
  ∀ dx, H dx = none → dx ≠ a → Q .non (L2.upd (L2.upd (L2.upd H dx (exd dx [(f, x)])) a (exo a C (some dx))) dx (exd dx [(g, y), (f, x)]))
theorem init_read {K : PySem.W.Frag} {f g : Str} {vs : List V} {H : Hp} {Q : VK} {E : XK} {D : Ends} (hD : D.nx = fun _ H' => Q .non H') (h : spI2 K f g vs H Q E) : tSeq (tOst K f (tVar 0) (tVar 1)) (tOst K g (tVar 0) (tVar 2)) D (vs.map some) H := by
  obtain ⟨a, C, x, y, rfl, T, h1, h2, ha, q⟩ := h
  refine ⟨x, rfl, .ref a, rfl, a, C, rfl, T, h1, .inl ⟨ha, fun dx nd ne => ?_⟩⟩
  refine ⟨y, rfl, .ref a, rfl, a, C, rfl, T, h2, .inr ⟨dx, [(f, x)], upd_same, ?_, by simp, ?_⟩⟩
  · rw [upd_ne ne, upd_same]
  · rw [hD]
    exact q dx nd ne
def sRaise (nm f g : Str) (fr : Nv → Rs (List Ar)) : Nv → RS := fun n => sbn (fr n) fun as n1 => match as with
  | [.d x, .d y] => some (.error (⟨nm, [(g, y), (f, x)]⟩, n1))
  | _ => none
theorem ds_raise {c : Cz} {C : Addr} {nm f g : Str} {ta : TA} {fr : Nv → Rs (List Ar)} (hc : c.cl nm = some (.ref C)) (T : OexC c.K C) (hf : PySem.W.findIn c.K (.ref C) f = some none) (hg : PySem.W.findIn c.K (.ref C) g = some none) (ha : DA c ta fr) :
    DS c (fun _ σ H => tMkO C (spI2 c.K f g) [] ta σ H fun cls d H' => c.E σ cls d H') (sRaise nm f g fr) := fun S H0 σ H n D R hd h => by
  refine ha S σ H n _ R (OkS.bind h fun vs as n1 H1 s1 k1 R1 va h2 => ?_)
  match as, va, h2 with
  | [.d x, .d y], va, h2 =>
    have w : DvA c.K H1 (AV S σ n1) vs [x, y] := va.dvA rfl
    cases va with
    | cons v1 r =>
      cases r with
      | cons v2 r =>
        cases r
        rename_i vx vy
        refine ⟨by show 2 ≤ 1000; decide, fun a na => ⟨a, C, vx, vy, rfl, T, hf, hg, upd_same, fun dx nd ne => ⟨rfl, dx, [(g, vy), (f, vx)], ?_, upd_same, ?_, ?_⟩⟩⟩
        · rw [upd_ne (Ne.symm ne), upd_same]
        · rw [upd_ne ne] at nd
          exact nd
        · rw [upd_ne ne] at nd
          have gr : ∀ (b : Addr) (o : HO), H1 b = some o → (L2.upd (del (L2.upd (L2.upd (L2.upd (L2.upd H1 a (exo a C none)) dx (exd dx [(f, vx)])) a (exo a C (some dx))) dx (exd dx [(g, vy), (f, vx)])) a) dx (.xd [(g, vy), (f, vx)])) b = some o := fun b o e => by
            have ba : b ≠ a := ne_of_none e na
            have bd : b ≠ dx := ne_of_none e nd
            rw [upd_ne bd, del_ne ba, upd_ne bd, upd_ne ba, upd_ne bd, upd_ne ba]
            exact e
          refine h2 σ H1 .refl R1 _ _ _ (fun b o _ e => gr b o e) (NewH.dom gr) ⟨hc, dx, [(g, vy), (f, vx)], rfl, upd_same, rfl, ?_⟩
          have w2 : DvA c.K H1 (AV S σ n1) [vy, vx] [y, x] := by
            cases w with
            | cons w1 w => cases w with
              | cons w2 w => exact .cons w2 (.cons w1 .nil)
          exact w2.mono (S := fun _ => False) (fun b o _ e => gr b o e) (fun _ z => z.elim) fun b z => .inl z
def noOw (n : Nv) : Bool := n.all fun s => match s with
  | .ow _ _ => false
  | _ => true
theorem noOw_own {n : Nv} (h : noOw n = true) {σ : Sg} : ∀ a, ¬ Own σ n a := fun a ⟨i, pm, ds, e, _⟩ => by
  have z := List.all_eq_true.mp h _ (List.mem_of_getElem? e)
  cases z
def sTry2 (i : Nat) (nm f g : Str) (fb : Nv → RS) : Nv → RS := fun n => match fb n with
  | some (.error (e, n1)) => if (decide (e.nm = nm) && noOw n1 && decide (i < n1.length)) = true then match e.fs.lookup f, e.fs.lookup g with
      | some x, some y => some (.ok (.rt (.d (.tuple [x, y])), n1.set i .un))
      | _, _ => none
    else none
  | r => r
theorem fs_lookup {K : PySem.W.Frag} {H : Hp} {A : AS} {f : Str} {x : PD} : ∀ {vs : List (Str × V)} {ds : List (Str × PD)}, vs.map (·.1) = ds.map (·.1) → DvA K H A (vs.map (·.2)) (ds.map (·.2)) → ds.lookup f = some x → ∃ v, vs.lookup f = some v ∧ Dv K H A v x
  | [], [], _, _, h => by cases h
  | [], b :: r, e, _, _ => by simp at e
  | a :: r, [], e, _, _ => by simp at e
  | a :: r, b :: r', e, h, q => by
    simp only [List.map_cons, List.cons.injEq] at e
    simp only [List.map_cons] at h
    cases h with
    | cons h1 h2 =>
      obtain ⟨a1, a2⟩ := a
      obtain ⟨b1, b2⟩ := b
      have e1 : a1 = b1 := e.1
      subst e1
      rw [List.lookup_cons] at q ⊢
      split
      · rename_i z
        rw [z] at q
        cases q
        exact ⟨a2, rfl, h1⟩
      · rename_i z
        rw [z] at q
        exact fs_lookup e.2 h2 q
theorem ds_try2 {c : Cz} {C : Addr} {i : Nat} {nm f g : Str} {tb : WX → TS} {fb : Nv → RS} {Wout : WX} (hc : c.cl nm = some (.ref C)) (he : PySem.W.exmOne c.K (.ref C) (.ref C) = some true)
    (hb : ∀ W : WX, DS ⟨c.K, c.cl, WE W⟩ (tb W) fb) :
    DS c (fun D σ H => tb (wAs c.K (.ref C) i (fun a cls d => tRet (tTup (tCons (tXf a cls d C f (tVar i)) (tCons (tXf a cls d C g (tVar i)) tNil)))) Wout D) D σ H) (sTry2 i nm f g fb) := fun S H0 σ H n D R hd h => by
  refine hb _ S H0 σ H n D R hd ?_
  unfold sTry2 at h
  match fb n, h with
  | some (.ok (.nx, n')), h => exact h
  | some (.ok (.bk, n')), h => exact h
  | some (.ok (.ct, n')), h => exact h
  | some (.ok (.rt x, n')), h => exact h
  | some (.error (e, n1)), h =>
    dsimp only at h
    split at h
    · rename_i q
      simp only [Bool.and_eq_true, decide_eq_true_eq] at q
      obtain ⟨⟨q1, q2⟩, q3⟩ := q
      split at h
      · rename_i x y ex ey
        intro σ' H' st R' C' od H2 ext dom z
        obtain ⟨z1, d, vs, rfl, hd', hk, hv⟩ := z
        have eC : C' = .ref C := by
          rw [q1] at z1
          have z1 : c.cl nm = some C' := z1
          rw [hc] at z1
          cases z1
          rfl
        subst eC
        obtain ⟨vx, lx, hx⟩ := fs_lookup hk hv ex
        obtain ⟨vy, ly, hy⟩ := fs_lookup hk hv ey
        refine ⟨true, he, fun _ a na => ?_, fun w => nomatch w⟩
        have hl : i < σ'.length := by rw [← R'.len]; exact q3
        have gi : (σ'.set i (some (V.ref a)))[i]? = some (some (.ref a)) := List.getElem?_set_self hl
        refine ⟨.ref a, gi, rfl, rfl, d, vs, vx, rfl, hd', lx, .ref a, gi, rfl, rfl, d, vs, vy, rfl, hd', ly, by show 2 ≤ sizeLine; decide, fun p np => ?_⟩
        have gr : NewH H' H2 := fun b o e => ext b o (noOw_own q2 b) e
        have fr : Fre n1 i := fun ds e => by
          have z := List.all_eq_true.mp q2 _ (List.mem_of_getElem? e)
          cases z
        have R2 : Rel c.K S (L2.upd H2 p (.tup [vx, vy])) σ' n1 := (Rel.ext R' gr).new np
        have S2 : Stp σ' n1 H' σ' n1 (L2.upd H2 p (.tup [vx, vy])) := .grown (gr.trans (.upd np))
        refine h _ _ _ (st.trans (S2.trans (.setUn (x := some (.ref a)) fr))) (R2.setUn (x := some (.ref a)) fr) ?_
        have na' : ∀ b, AV S σ' n1 b → H2 b ≠ none := (Rel.ext R' gr).avSome
        have w : Dv c.K (L2.upd H2 p (.tup [vx, vy])) (AV S σ' n1) (.ref p) (.tuple [x, y]) := .newTup na' np (.cons hx (.cons hy .nil))
        exact w.weak fun b z => z.elim .inl fun q => .inr (own_set (fun _ _ w => by cases w) b q)
      · exact h.elim
    · exact h.elim
end Dl
set_option Elab.async false
set_option linter.all false
set_option maxRecDepth 100000
set_option maxHeartbeats 400000
namespace Dl
open PySem PySem.Spec PyProof.Rows L2
section
variable {X : Cx} {CX : CXT} {k : Nat} {f : Addr} {fd : FuncData} {ps ks : List Str} {sp : Sp} {E : XK} {x : Str} {p pos : Pos} {kws : List Keyword} {tk : TA} {g : List Value → List Value → List Value} {gV : List V → List V → List V}
theorem pe_kw0 (F : FnOk X.prog X.w X.K X.mg X.base CX k f fd ps sp) (hr : Room k X.A) (hg : Gl X x) (hm : X.mg x = some (.ref f)) (hk : PySem.W.keepIn X.K (.ref f) = true) (hb : KBinds X.K fd ps ks g gV) (hx : Passes CX X E) (hkw : PK X kws tk)
    (hall : (backToKw pos (keywordEach kws X.env)).all (·.1.isSome) = true := by rfl) (hks : (backToKw pos (keywordEach kws X.env)).filterMap (·.1) = ks := by rfl) (hdb : (x == ("__debug__" : Str)) = false := by decide)
    (hpl : ((backTo pos (starEach [] X.env)).any (·.1) || (backToKw pos (keywordEach kws X.env)).any (·.1.isNone)) = false := by rfl) : PE X (.Call (.Name x p) [] kws pos) (tCallK sp gV E tNil tk) := by
  refine ⟨fun pins s σ H Q I h => wpAny_Call_Name_kw (ld_glob I hg hm ?_ hdb)⟩
  refine PySem.W.callWith_KW0 (h₀ := X.base) I.ok.mod.kin hk hall (thn (hkw.run pos pins s σ H _ I h) fun ws s2 ⟨zs, H2, I2, rz, q2⟩ => ⟨I2.kIn, ?_⟩) hpl
  rw [hks]
  exact run_fnk (us := []) F hr hb hx I2 .nil rz q2
end
def gRev {α : Type} (us ws : List α) : List α := match us with
  | [] => ws.reverse
  | _ :: _ => []
theorem paired_rev {α β : Type} {F : α → β → Prop} : ∀ {xs : List α} {ys : List β}, Paired F xs ys → Paired F xs.reverse ys.reverse
  | _, _, .nil => .nil
  | _, _, .cons r t => by
    rw [List.reverse_cons, List.reverse_cons]
    have app : ∀ {a c : List α} {b d : List β}, Paired F a b → Paired F c d → Paired F (a ++ c) (b ++ d) := fun {a c b d} h1 h2 => by
      induction h1 with
      | nil => exact h2
      | cons r t ih => exact .cons r ih
    exact app (paired_rev t) (.cons r .nil)
theorem kb_rev {K : PySem.W.Frag} {x qual : Str} {st : Stmt} {f : Addr} {fd : FuncData} {ps ks : List Str} (F : Fun K x qual st f fd) (hp : ps ≠ [])
    (h : ∀ (kV doc pm : Value) (an : Option Addr) (cdv ct : Value) (ws : List Value), ws.length = ps.length → bindArgs (PySem.W.fnOf x qual (defArgs st) (defBody st) (defScope st) .none kV doc pm an cdv ct) ⟨[], ks.zip ws⟩ = pure (ps.zip ws.reverse)) : KBinds K fd ps ks gRev gRev := by
  obtain ⟨oc, od, kV, doc, pm, an, cdv, ct, osl, rfl, lk, hcd⟩ := F.ex
  refine ⟨fun s us ws _ hl => ?_, fun {vs us zs ws} r rz => ?_⟩
  · cases us with
    | nil =>
      have e : ws.length = ps.length := by simpa [gRev] using hl
      exact .of_eq (h kV doc pm an cdv ct ws e)
    | cons u us =>
      have e : ps.length = 0 := by simpa [gRev] using hl.symm
      exact (hp (List.eq_nil_of_length_eq_zero e)).elim
  · cases r with
    | nil => exact paired_rev rz
    | cons r t => exact .nil
theorem ArVs.append {K S σ n H} : ∀ {vs us : List V} {as bs : List Ar}, ArVs K S σ n H vs as → ArVs K S σ n H us bs → ArVs K S σ n H (vs ++ us) (as ++ bs)
  | _, _, _, _, .nil, h => h
  | _, _, _, _, .cons r t, h => .cons r (ArVs.append t h)
theorem ArVs.rev {K S σ n H} : ∀ {vs : List V} {as : List Ar}, ArVs K S σ n H vs as → ArVs K S σ n H vs.reverse as.reverse
  | _, _, .nil => .nil
  | _, _, .cons r t => by
    rw [List.reverse_cons, List.reverse_cons]
    exact (ArVs.rev t).append (.cons r .nil)
def eCallR (f : Nv → Rs Rv) (fr : Nv → Rs (List Ar)) : Nv → Rs Ar := fun n => bnd (fr n) fun as n1 => if dist as.reverse = true then lft (slots n1 as.reverse) fun m => cal (f m) n1 (eRv as.reverse n1) else none
theorem de_callR {c : Cz} {k : Nat} {f : Nv → Rs Rv} {ta : TA} {fr : Nv → Rs (List Ar)} {E : XK} (hr : DA c ta fr) (hf : Ary k f) (hE : ∀ σ, E = c.E σ) : DE c (tCallK (spM c.K c.cl k f) gRev E tNil ta) (eCallR f fr) := fun S σ H n Q R h => by
  refine hr S σ H n _ R (OkG.bind h fun vs as n1 H1 s1 k1 R1 va h1 => ?_)
  exact call_core (E := fun _ => E) (W := fun _ _ _ _ => True) hf (hE σ) R1 va.rev h1
structure FnG (P : Program) (w : World) (K : PySem.W.Frag) (mg : Str → Option Value) (base : Heap) (CX : CXT) (k : Nat) (f : Addr) (fd : FuncData) (ps : List Str) (sp : Sp) : Prop where
  len : ∀ vs H Q E, sp vs H Q E → vs.length = ps.length
  run : ∀ (A : Around) (outer : List Env) (s : Shared) (H : Hp) (args : Args) (us : List Value) (vs : List V) (Q : VK) (E : XK), A.guards = some [] → Room k A → Env0 P w K mg base A outer s H → BindsTo s fd args (ps.zip us) → Vals vs us → sp vs H Q E →
    codeAny (model P w) A (.call (.ref f) args) (CR CX outer P w H s Q E) s
theorem FnG.of {P w K mg base CX k f fd ps sp} (F : FnOk P w K mg base CX k f fd ps sp) : FnG P w K mg base CX k f fd ps sp := ⟨F.len, fun A outer s H args us vs Q E _ => F.run A outer s H args us vs Q E⟩
theorem pe_callG {X : Cx} {CX : CXT} {k : Nat} {f : Addr} {fd : FuncData} {ps : List Str} {sp : Sp} {E : XK} {x : Str} {p pos : Pos} {e : Expr} {es : List Expr} {t : TA} (F : FnG X.prog X.w X.K X.mg X.base CX k f fd ps sp) (gd : X.A.guards = some []) (hr : Room k X.A) (hg : Gl X x) (hm : X.mg x = some (.ref f)) (hk : PySem.W.keepIn X.K (.ref f) = true) (hb : Binds X.K fd ps []) (hx : Passes CX X E)
    (ha : PA X (e :: es) t) (hdb : (x == ("__debug__" : Str)) = false := by decide) (he : starEach (e :: es) X.env = (false, eval e X.env) :: starEach es X.env := by rfl) (hpl : (backTo pos (starEach es X.env)).any (·.1) = false := by rfl) :
    PE X (.Call (.Name x p) (e :: es) [] pos) (tCall sp [] E t) := by
  refine ⟨fun pins s σ H Q I h => wpAny_Call_Name_kw (ld_glob I hg hm ?_ hdb)⟩
  refine PySem.W.callWith_K (h₀ := X.base) I.ok.mod.kin hk (thn (ha.run pos pins s σ H _ I h) fun us s1 ⟨vs, H1, I1, r, q⟩ => ⟨I1.kIn, ?_⟩) he hpl
  have q : sp (vs ++ []) H1 Q E := q
  rw [List.append_nil] at q
  show wpAny _ _ (call (.ref f) us) _ _ _
  have hl : (us ++ []).length = ps.length := by rw [List.append_nil, ← r.length]; exact F.len _ _ _ _ q
  have bd := hb s1 us I1.kIn hl
  rw [List.append_nil] at bd
  refine wpAny_call (codeAny_mono (F.run X.A X.stack s1 H1 ⟨us, []⟩ us vs Q E gd hr I1.env0 bd r q) fun res s2 hq => ?_)
  match res, hq with
  | .error ex, hq => exact hx pins σ H1 s1 ex s2 I1 hq
  | .ok (.ret u), hq => exact I1.after hq
section
variable {CX : CXT} {P : Program} {w : World} {K : PySem.W.Frag} {mg : Str → Option Value} {base : Heap} {k : Nat} {f : Addr} {nm qual : Str} {pa : Arguments} {bd : List Stmt} {sc : Scope} {dV kV doc pm cdv ct oc : Value} {an od : Option Addr}
  {osl : Array (Option Value)} {N ps : List Str} {sp : Sp}
theorem fnG_of (lk : K.lookup f = some ⟨oc, od, .func (PySem.W.fnOf nm qual pa bd sc dV kV doc pm an cdv ct), osl⟩) (hcd : PySem.W.codeIn K cdv qual = true) (Sc : FnScope N ps sc) (len : ∀ vs H Q E, sp vs H Q E → vs.length = ps.length)
    (hbody : ∀ (A : Around) (outer : List Env) (s : Shared) (H : Hp) (vs : List V) (Q : VK) (E : XK), A.guards = some [] → Room k (A.deeper (envOfC qual sc s.heap.objs.size f cdv)) → sp vs H Q E →
      ∃ t, PSs (cxOf CX P w K mg base N qual sc f cdv A outer s H E) bd t ∧ t { nx := fun _ H' => Q .non H', rt := Q } (L2.start N vs) H) :
    FnG P w K mg base CX (k + 1) f (PySem.W.fnOf nm qual pa bd sc dV kV doc pm an cdv ct) ps sp := by
  refine ⟨len, fun A outer s H args us vs Q E gd hr e0 hb r hsp => ?_⟩
  have hl := len vs H Q E hsp
  have old : ∀ b o, base.get? b = some o → s.heap.get? b = some o := fun b o e => (e0.bs b o e).1
  have kin : K.In s.heap := e0.mod.kin.keeps old
  have par : ∀ y ∈ ps.zip us, sc.names.lookup y.1 = some .local ∨ (sc.names.lookup y.1 = some .cell ∧ ((cellsFrom (s.heap.objs.size + 1) sc.names []).lookup y.1).isSome = true) := by
    rintro ⟨n, v⟩ hy
    exact (Sc.par n (List.of_mem_zip hy).1).elim .inl fun q => .inr ⟨q, PySem.W.cellsFrom_some _ _ _ (.inl q)⟩
  refine codeAny_call_function hr.depth (kin _ _ lk) rfl Sc.co Sc.gen rfl (PySem.W.codeRec_of kin hcd) (hb _ _ _ _ ?_)
  refine wpAny_newFunctionEnv_cells Sc.kind par fun env he s1 fr => ?_
  subst he
  refine ⟨(e0.mod.nolimit.keeps old).keeps fr.toInCall.keep, codeAny_func ?_⟩
  obtain ⟨t, h1, h2⟩ := hbody A outer s H vs Q E gd (hr.deeper _) hsp
  have J0 := inv_start (CX := CX) (P := P) (w := w) (K := K) (mg := mg) (base := base) (qual := qual) (f := f) (cd := cdv) (E := E) Sc hr.hd e0 hl r fr
  refine wpAny_mono (h1.run [] s1 (L2.start N vs) H _ J0 h2) (fun fl s2 z => ?_) fun _ _ z => z
  cases fl with
  | ret u =>
    obtain ⟨v, σ2, H2, J, rv, q⟩ := z
    exact ⟨v, H2, J.os, J.bare, J.base, J.hok, rv, q⟩
  | next =>
    obtain ⟨σ2, H2, J, q⟩ := z
    exact ⟨.non, H2, J.os, J.bare, J.base, J.hok, rfl, q⟩
  | brk =>
    obtain ⟨_, _, _, q⟩ := z
    exact False.elim q
  | cont =>
    obtain ⟨_, _, _, q⟩ := z
    exact False.elim q
end
theorem fn_dlG {P : Program} {w : World} {K : PySem.W.Frag} {mg : Str → Option Value} {base : Heap} {x qual : Str} {st : Stmt} {f : Addr} {fd : FuncData} {N ps : List Str} {k : Nat} {cl : Str → Option Value} {g : Nv → RS} {m : Nat}
    (F : Fun K x qual st f fd) (Sc : FnScope N ps (defScope st)) (hN : N.length = ps.length + m)
    (hbody : ∀ (cdv : Value) (A : Around) (outer : List Env) (s : Shared) (H : Hp) (E : XK), A.guards = some [] → Room k (A.deeper (envOfC qual (defScope st) s.heap.objs.size f cdv)) →
      ∃ t, PSs (cxOf (L2.CX P w) P w K mg base N qual (defScope st) f cdv A outer s H E) (defBody st) t ∧ DS ⟨K, cl, fun _ => E⟩ t g) : FnG P w K mg base (L2.CX P w) (k + 1) f fd ps (spM K cl ps.length (body m g)) := by
  obtain ⟨oc, od, kV, doc, pm, an, cdv, ct, osl, rfl, lk, hcd⟩ := F.ex
  refine fnG_of lk hcd Sc (fun vs H Q E h => h.1) fun A outer s H vs Q E gd hr hsp => ?_
  obtain ⟨t, h1, h2⟩ := hbody cdv A outer s H E gd hr
  obtain ⟨hl, S, as, R, sub, nf, hf⟩ := hsp
  refine ⟨t, h1, ?_⟩
  have e : L2.start N vs = vs.map some ++ List.replicate m none := by
    unfold L2.start
    rw [hN, hl]
    congr 2
    omega
  rw [e]
  refine h2 S H _ H _ _ (Rel.start (c := ⟨K, cl, fun _ => E⟩) R) ⟨vs.map some, as, sub, ⟨fun a o z q => q, fun a z => .inl (own_app R.len a z), fun a z => z, fun i ds q => ?_⟩⟩ (OkF.body (c := ⟨K, cl, fun _ => E⟩) (fun _ _ => rfl) R sub nf hf)
  have hi : i < as.length := (List.getElem?_eq_some_iff.mp q).1
  exact ⟨by rw [List.getElem?_append_left (by rw [← R.len]; exact hi)], ds, by rw [List.getElem?_append_left hi]; exact q⟩
mutual
theorem PD.noDict : ∀ {d : PD}, SeqAt.shaped d = true → d.hasDict = false := fun {d} h => PyData.hasDict_of_canLay d (SeqAt.canLay_of_shaped h)
end
def rStr (K : PySem.W.Frag) : List V → Hp → VK → Prop := fun vs H Q => ∃ a d, vs = [.ref a] ∧ Dp K H (.ref a) d ∧ SeqAt.shaped d = true ∧ d.showable = true ∧ d.shown.length ≤ sizeLine ∧ Q (.str d.shown) H
theorem cr_str {X : Cx} (gd : X.A.guards = some []) (hu : X.A.units + 200 < cLine) : CallR X (.type "str") (rStr X.K) := by
  intro pins s σ H xs us Q I r h
  obtain ⟨a, d, rfl, hd, h1, h2, h3, q⟩ := h
  obtain ⟨u, rfl, ru⟩ := vals1 r
  cases ru
  obtain ⟨as, rd⟩ := Dp.reads I d _ _ hd rfl
  have hz := SeqAt.depth_of_shaped h1
  refine str_of_reads rd h2 (fun z => ?_) gd (by omega) (fun b o e => e) (fun h' t tk kp => ?_) h3
  · rw [PD.noDict h1] at z
    cases z
  · exact ⟨.str d.shown, H, I.kept (t' := tk) kp, ⟨t, rfl⟩, q⟩
def gStr : List PD → Option PD
  | [.list ds] => if (SeqAt.shaped (.list ds) && PyData.showable (.list ds) && lineB (PyData.shown (.list ds)).length) = true then some (.str (PyData.shown (.list ds))) else none
  | _ => none
theorem str_ok {K : PySem.W.Frag} : CopOk K (rStr K) gStr := fun A H Q vs ds d na w e k => by
  unfold gStr at e
  split at e
  · split at e
    · rename_i xs q
      cases e
      simp only [Bool.and_eq_true] at q
      obtain ⟨v, rfl, h⟩ := dws1 w
      obtain ⟨p, us, rfl, _, _⟩ := h.lst
      exact ⟨p, .list xs, rfl, h.dp, q.1.1, q.1.2, of_decide_eq_true q.2, k _ H .refl (.str _)⟩
    · cases e
  · cases e
end Dl
set_option Elab.async false
set_option linter.all false
set_option maxRecDepth 100000
set_option maxHeartbeats 3200000
namespace Dl
open PySem PySem.Spec PyProof.Rows L2
section
variable {P : Program} {w : World} {A : Around} {E : Value → Shared → Prop} {s : Shared}
abbrev eso (w : World) : Obj := { cls := .type "set", dict := none, data := .set #[] 0 (.fresh 0 0 (!w.params.followText "set-order")) }
theorem set_of_list {l : Addr} {items : Array Value} (ns : List Int) {Q : Value → Shared → Prop} (hh : A.handled = none) (hl : s.heap.IsList l items) (hit : IntsAre items.toList ns) (hb : ns.length + 1 < scanBound)
    (h : ∀ (h' : Heap) (tk c : Nat), SetR w h' s.heap.objs.size (fun j => decide (j ∈ ns)) c → c ≤ ns.length → (∀ b o, s.heap.get? b = some o → h'.get? b = some o) → Q (.ref s.heap.objs.size) { s with heap := h', toks := tk }) :
    wpAny (model P w) A (call (.type "set") [.ref l]) Q E s := by
  have isz : items.size = ns.length := by have q := IntsAre.length hit; rw [Array.length_toList] at q; exact q
  obtain ⟨c, tl, mro⟩ := F.called_set.mro
  have made := F.called_set.made; have sub := F.called_set.sub
  refine wpAny_call (codeAny_of_tree (show wpAny _ _ (callAny (.type "set") _) _ _ _ from wpAny_pure ⟨Code.quiet_builtin _ (by decide +kernel), codeAny_builtin F.entry_type_call ?_⟩))
  rw [Around.under_plain (weight_type_call_type "set" [.ref l] []) rfl]
  have h1 := F.called_set.notType; have h2 := F.called_set.canCreate; have hct := F.typeCall_set_1 (.ref l)
  repeat (any_goals (first | assumption | wp_step))
  refine codeAny_mono (code_set_led1 (.ref l) (E := E) (Q₁ := fun obj s₁ => obj = .ref s.heap.objs.size ∧ s₁ = { s with heap := s.heap.push (eso w) }) ⟨rfl, rfl⟩) fun r s₁ hr => ?_
  cases r with
  | error e => exact hr
  | ok fl =>
    cases fl with
    | ret obj =>
      obtain ⟨rfl, rfl⟩ := hr
      have hS : (s.heap.push (eso w)).get? s.heap.objs.size = some (eso w) := Heap.get?_push_size _ rfl
      have hT : Shared.TypeIs { s with heap := s.heap.push (eso w) } (.ref s.heap.objs.size) "set" := ⟨_, hS, rfl⟩
      have li := F.called_set.init.lookup; have bi := F.called_set.init.bind (.ref s.heap.objs.size)
      repeat (any_goals (first | assumption | wp_step))
      refine codeAny_mono (codeAny_call_builtin (R := wants (fun r s₂ => r = .none ∧ ∃ h' tk c, s₂ = { s with heap := h', toks := tk } ∧ SetR w h' s.heap.objs.size (fun j => decide (j ∈ ns)) c ∧ c ≤ ns.length ∧ (∀ b o, s.heap.get? b = some o → h'.get? b = some o)) E) F.called_set.init.plain F.entry_set_init (check_set_init_1 hT ?_)) fun r₂ s₂ hr₂ => ?_
      · obtain ⟨⟨oc, od, odt, osl⟩, hol, hcl, nl, hdl⟩ := hl
        simp only at hcl hdl
        subst hcl hdl
        have hol' : (s.heap.push (eso w)).get? l = some { cls := .type "list", dict := od, data := .seq items nl, slots := osl } := Heap.get?_push_of_some _ hol
        have s1 := F.sub_list_set; have s2 := F.sub_list_frozenset; have ne : (Value.type "list" == Value.type "dict") = false := by decide
        have hl1 : (s.heap.push (eso w)).IsList l items := ⟨_, hol', rfl, nl, rfl⟩
        unfold Builtin.«set.__init__» noKeywords Builtin.Frozenset.updateFrom
        generalize hPI : pyIter = PI
        wp_walk
        subst hPI
        refine wpAny_pyIter_list hl1 (wpAny_bind (wpAny_runValue ?_))
        have lS : l < s.heap.objs.size := Heap.lt_size hol
        have hh3 : A.in1.in1.in1.handled = none := by simp [hh]
        have z1 : (s.heap.push (eso w)).objs.size = s.heap.objs.size + 1 := Heap.size_push ..
        have nI : l ≠ (s.heap.push (eso w)).objs.size := by rw [z1]; exact Nat.ne_of_lt (Nat.lt_succ_of_lt lS)
        have nf : s.heap.objs.size ∉ [(s.heap.push (eso w)).objs.size, l] := by
          rw [z1]
          simp only [List.mem_cons, List.not_mem_nil, or_false, not_or]
          exact ⟨Nat.ne_of_lt (Nat.lt_succ_self _), Nat.ne_of_gt lS⟩
        have val : ∀ (i : Nat) (v : Value), items[i]? = some v → ∃ k t, ns[i]? = some k ∧ v = .int k t := fun i v hv => by
          have hi : i < ns.length := by rw [← isz]; exact (Array.getElem?_eq_some_iff.mp hv).1
          obtain ⟨t, e⟩ := PyProof.Rows.IntsAre.int_at hit i v (by rw [Array.getElem?_toList]; exact hv)
          exact ⟨ns[i], t, List.getElem?_eq_getElem hi, by rw [e, List.getD_eq_getElem?_getD, List.getElem?_eq_getElem hi] <;> rfl⟩
        refine set_update_ints ((Walks.list hh3 _ l nI items).toS) s.heap.objs.size nf ns isz hb val (items.size - 0) 0 _ (by omega) (Nat.zero_le _) ⟨⟨_, Heap.get?_push_size _ rfl, rfl, rfl⟩, (hl1.push _)⟩ ⟨0, Nat.le_refl 0, setR_new_at (Heap.get?_push_of_some _ hS)⟩ fun s' c' hm hc' hS' => ?_
        obtain ⟨h', g2, d', tk', os'⟩ := s'
        obtain rfl : g2 = s.gens := hm.gens
        obtain rfl : d' = s.drawn := hm.drawn
        obtain rfl : os' = s.os := hm.os
        rw [isz] at hc'
        show wpAny _ _ _ _ _ _
        refine wpAny_pure (show wpAny _ _ (PySem.ret Value.none) _ _ _ from wpAny_pure ⟨rfl, h', tk', c', rfl, hS', hc', fun b o e => ?_⟩)
        have b0 : b < s.heap.objs.size := Heap.lt_size e
        refine hm.heap b o ?_ (Heap.get?_push_of_some _ (Heap.get?_push_of_some _ e))
        simp only [List.mem_cons, List.not_mem_nil, or_false, not_or]
        exact ⟨Nat.ne_of_lt b0, by rw [z1]; exact Nat.ne_of_lt (Nat.lt_succ_of_lt b0)⟩
      · cases r₂ with
        | error e => exact hr₂
        | ok fl₂ =>
          cases fl₂ with
          | ret r =>
            obtain ⟨rfl, h', tk, c', rfl, hS', hc', hk'⟩ := hr₂
            repeat (any_goals (first | assumption | wp_step))
            exact h _ _ _ hS' hc' hk'
          | _ => exact hr₂.elim
    | _ => exact hr.elim
end
section
variable {X : Cx}
def rSetI (K : PySem.W.Frag) (w : World) : List V → Hp → VK → Prop := fun xs H Q => ∃ (l : Addr) (ns : List Int), xs = [.ref l] ∧ SqL K H l (ns.map V.int) ∧ ns.length < 64 ∧
  ∀ p c, H p = none → c ≤ ns.length → Q (.ref p) (L2.upd H p (SetO w p (fun j => decide (j ∈ ns)) c))
theorem cr_setI (hc : X.calm = true) : CallR X (.type "set") (rSetI X.K X.w) := by
  intro pins s σ H xs us Q I r h
  obtain ⟨l, ns, rfl, hl, h64, q⟩ := h
  rw [Vals.ref1 r]
  obtain ⟨its, rv, pl, hz⟩ := I.list hl
  refine set_of_list ns (I.ok.hd hc) pl.isList rv.ints (by have : scanBound = scanBound := rfl; unfold scanBound; omega) fun h' tk c R hc' k => ?_
  exact ⟨.ref s.heap.objs.size, _, I.laid (t' := tk) k (Nat.le_refl _) (setO_new R), rfl, q _ c (I.hok.fresh (Nat.le_refl _)) hc'⟩
end
def insU (x : Int) : List Int → List Int
  | [] => [x]
  | y :: r => if x < y then x :: y :: r else if x = y then y :: r else y :: insU x r
def uniqI : List Int → List Int
  | [] => []
  | x :: r => insU x (uniqI r)
theorem mem_insU {x k : Int} : ∀ {l : List Int}, k ∈ insU x l ↔ k = x ∨ k ∈ l
  | [] => by simp [insU]
  | y :: r => by
    unfold insU
    split
    · simp
    · split
      · rename_i h
        subst h
        simp
      · simp [mem_insU (l := r)]
        constructor <;> rintro (h | h | h) <;> simp [h]
theorem mem_uniqI {k : Int} : ∀ {l : List Int}, k ∈ uniqI l ↔ k ∈ l
  | [] => by simp [uniqI]
  | x :: r => by simp [uniqI, mem_insU, mem_uniqI (l := r)]
theorem pw_insU {x : Int} : ∀ {l : List Int}, l.Pairwise (· < ·) → (insU x l).Pairwise (· < ·)
  | [], _ => by simp [insU]
  | y :: r, h => by
    unfold insU
    rw [List.pairwise_cons] at h
    split
    · rename_i q
      rw [List.pairwise_cons]
      refine ⟨fun a ha => ?_, List.pairwise_cons.mpr h⟩
      rcases List.mem_cons.mp ha with rfl | ha
      · exact q
      · have := h.1 a ha; omega
    · split
      · exact List.pairwise_cons.mpr h
      · rename_i q1 q2
        rw [List.pairwise_cons]
        refine ⟨fun a ha => ?_, pw_insU h.2⟩
        rcases mem_insU.mp ha with rfl | ha
        · omega
        · exact h.1 a ha
theorem pw_uniqI : ∀ l : List Int, (uniqI l).Pairwise (· < ·)
  | [] => .nil
  | x :: r => pw_insU (pw_uniqI r)
theorem uniq_eq {l1 l2 : List Int} (h1 : l1.Pairwise (· < ·)) (h2 : l2.Pairwise (· < ·)) (h : ∀ k, k ∈ l1 ↔ k ∈ l2) : l1 = l2 := by
  have n1 : l1.Nodup := h1.imp fun h => Int.ne_of_lt h
  have n2 : l2.Nodup := h2.imp fun h => Int.ne_of_lt h
  have p : l1.Perm l2 := (List.perm_ext_iff_of_nodup n1 n2).mpr h
  exact sort_uniq p (h1.imp fun h => Int.le_of_lt h) (h2.imp fun h => Int.le_of_lt h)
def gSetS : List PD → Option (List PD)
  | [.list ds] => match intsOf ds with
    | some ns => if decide (ns.length < 64) = true then some ((uniqI ns).map .int) else none
    | none => none
  | _ => none
def rSortSet (K : PySem.W.Frag) (w : World) : List V → Hp → VK → Prop := fun xs H Q => rSetI K w xs H fun v H1 => rSortedSet w [v] H1 Q
theorem sset_ok {K : PySem.W.Frag} {w : World} : ∀ (A : AS) (H : Hp) (Q : VK) (vs : List V) (ds es : List PD), (∀ a, A a → H a ≠ none) → Dws K H A vs ds → gSetS ds = some es →
    (∀ p H1 us, NewH H H1 → H1 p = none → DvA K H1 A us es → Q (.ref p) (L2.upd H1 p (.lst us))) → rSortSet K w vs H Q := fun A H Q vs ds es na wd e k => by
  unfold gSetS at e
  split at e
  · split at e
    · rename_i ds ns en
      split at e
      · rename_i q
        cases e
        have q := of_decide_eq_true q
        obtain ⟨v, rfl, h⟩ := dws1 wd
        obtain ⟨p, us, rfl, h1, h2⟩ := h.lst
        refine ⟨p, ns, rfl, ints_of h2 en ▸ h1, q, fun r c nr hc => ⟨r, _, c, rfl, upd_same, by omega, fun ms t pw mem _ nt => ?_⟩⟩
        have e2 : ms = uniqI ns := uniq_eq pw (pw_uniqI ns) fun k => by rw [mem]; simp [mem_uniqI]
        subst e2
        exact k t _ _ (.upd nr) nt (dvInts _)
      · cases e
    · cases e
  · cases e
theorem do_sset {c : Cz} {w : World} {ta : TA} {fr : Nv → Rs (List Ar)} (ha : DA c ta fr) : DO c (tCB (rSortedSet w) (tCons (tCB (rSetI c.K w) ta) tNil)) (oCb gSetS fr) := fun S σ H n Q R h => by
  refine ha S σ H n _ R (OkG.bind h fun vs as n1 H1 s1 k1 R1 va h1 => ?_)
  obtain ⟨ds, e1, h1⟩ := h1.lft
  obtain ⟨es, e2, h1⟩ := h1.lft
  exact sset_ok (AV S σ n1) H1 Q vs ds es R1.avSome (va.dws R1 e1) e2 fun p H2 us g np hv => h1.ret (g.trans (.upd np)) ((R1.ext g).new np) ⟨p, rfl, s1.non ((Stp.grown (σ := σ) (n := n1) g).non np), .new (R1.ext g) np hv⟩
end Dl
set_option Elab.async false
set_option linter.all false
set_option maxRecDepth 100000
namespace Dl
open PySem PySem.Spec PyProof.Rows L2
def in64 (x : Int) : Bool := decide (0 ≤ x) && decide (x < 64)
def prsOf : List PD → Option (List (Int × Int))
  | [] => some []
  | .tuple [.int x, .int y] :: r => if (in64 x && in64 y) = true then (prsOf r).map ((x, y) :: ·) else none
  | _ => none
def cdP (p : Int × Int) : Int := p.1 * 64 + p.2
def deP (n : Int) : PD := .tuple [.int (n / 64), .int (n % 64)]
def gSetP : List PD → Option (List PD)
  | [.list ds] => match prsOf ds with
    | some ps => if decide (ps.length < 64) = true then some ((uniqI (ps.map cdP)).map deP) else none
    | none => none
  | _ => none
section
variable {K : PySem.W.Frag} {H : Hp} {A : AS}
def PrAt (K : PySem.W.Frag) (H : Hp) (A : AS) (q : Addr × List Int) : Prop := TAv K H A q.1 (q.2.map V.int) ∧ ∃ x y, q.2 = [x, y] ∧ in64 x = true ∧ in64 y = true
theorem prs_of : ∀ {vs : List V} {ds : List PD} {ps : List (Int × Int)}, DvA K H A vs ds → prsOf ds = some ps → ∃ ks : List (Addr × List Int), vs = ks.map (fun q => V.ref q.1) ∧ ks.map (·.2) = ps.map (fun p => [p.1, p.2]) ∧ ∀ q ∈ ks, PrAt K H A q
  | _, _, ps, .nil, e => by cases e; exact ⟨[], rfl, rfl, fun q h => by cases h⟩
  | _, d :: ds, ps, .cons h t, e => by
    unfold prsOf at e
    split at e
    · rename_i x; cases x
    · rename_i _ x y r hq
      injection hq with e1 e2
      subst e1 e2
      split at e
      · rename_i q
        obtain ⟨ps', e3, e4⟩ := Option.map_eq_some_iff.mp e
        subst e4
        obtain ⟨ks, h1, h2, h3⟩ := prs_of t e3
        simp only [Bool.and_eq_true] at q
        cases h with
        | tup hl ha =>
          rename_i a xs
          cases ha with
          | cons a1 ha =>
            cases ha with
            | cons a2 ha =>
              cases ha
              cases a1
              cases a2
              refine ⟨(a, [x, y]) :: ks, by rw [h1]; rfl, by simp [h2], fun q' hm => ?_⟩
              rcases List.mem_cons.mp hm with rfl | hm
              · exact ⟨hl, x, y, rfl, q.1, q.2⟩
              · exact h3 q' hm
      · cases e
    · cases e
theorem in64_of {x : Int} (h : in64 x = true) : 0 ≤ x ∧ x < 64 := by
  unfold in64 at h
  simpa using h
theorem cd_de {x y : Int} (hx : in64 x = true) (hy : in64 y = true) : deP (x * 64 + y) = .tuple [.int x, .int y] := by
  have h1 := in64_of hx
  have h2 := in64_of hy
  unfold deP
  have e1 : (x * 64 + y) / 64 = x := by omega
  have e2 : (x * 64 + y) % 64 = y := by omega
  rw [e1, e2]
theorem pr_bd {q : Addr × List Int} (h : PrAt K H A q) : q.2.length = 2 ∧ TS.Bd 64 q.2 := by
  obtain ⟨_, x, y, e, hx, hy⟩ := h
  rw [e]
  refine ⟨rfl, fun m hm => ?_⟩
  have h1 := in64_of hx
  have h2 := in64_of hy
  rcases List.mem_cons.mp hm with rfl | hm
  · exact h1
  · rw [List.mem_singleton.mp hm]
    exact h2
theorem PrAt.mono {S A' : AS} {H' : Hp} {q} (h : PrAt K H A q) (e : Ext S H H') (sa : ∀ a, S a → A a) (s : ∀ a, A' a → A a ∨ H a = none) : PrAt K H' A' q := ⟨h.1.mono e sa s, h.2⟩
theorem dv_prs : ∀ {L : List (Addr × List Int)}, (∀ q ∈ L, PrAt K H A q) → DvA K H A (L.map fun q => V.ref q.1) ((L.map fun q => TS.code 64 q.2).map deP)
  | [], _ => .nil
  | q :: r, h => by
    obtain ⟨h1, x, y, e, hx, hy⟩ := h q (List.mem_cons_self ..)
    obtain ⟨a, l⟩ := q
    have e : l = [x, y] := e
    subst e
    refine .cons ?_ (dv_prs fun q hq => h q (List.mem_cons_of_mem _ hq))
    show Dv K H A (.ref a) (deP (TS.code 64 [x, y]))
    rw [L2.code_pair, cd_de hx hy]
    exact .tup h1 (.cons (.int x) (.cons (.int y) .nil))
end
def rSortSetP (K : PySem.W.Frag) (P : Program) (w : World) : List V → Hp → VK → Prop := fun xs H Q => rSetOfT K P w xs H fun v H1 => rSortedT K P w [v] H1 Q
theorem ssetP_ok {K : PySem.W.Frag} {P : Program} {w : World} : ∀ (A : AS) (H : Hp) (Q : VK) (vs : List V) (ds es : List PD), (∀ a, A a → H a ≠ none) → Dws K H A vs ds → gSetP ds = some es →
    (∀ p H1 us, NewH H H1 → H1 p = none → DvA K H1 A us es → Q (.ref p) (L2.upd H1 p (.lst us))) → rSortSetP K P w vs H Q := fun A H Q vs ds es na wd e k => by
  unfold gSetP at e
  split at e
  · split at e
    · rename_i ds ps en
      split at e
      · rename_i q
        cases e
        have q := of_decide_eq_true q
        obtain ⟨v, rfl, h⟩ := dws1 wd
        obtain ⟨p, us, rfl, h1, h2⟩ := h.lst
        obtain ⟨ks, e1, e2, e3⟩ := prs_of h2 en
        have lk : ks.length = ps.length := by
          have := congrArg List.length e2
          simpa using this
        refine ⟨p, ks, rfl, e1 ▸ h1, fun q hq => (e3 q hq).1.sq, by omega, fun r L nr sub all => ?_⟩
        have g : NewH H (L2.upd H r (SetTO P w r L)) := .upd nr
        have mv : ∀ q ∈ L, PrAt K (L2.upd H r (SetTO P w r L)) A q := fun q hq => (e3 q (sub q hq)).mono (S := fun _ => False) (fun a o _ e => g a o e) (fun _ z => z.elim) fun a z => .inl z
        refine ⟨r, L, 2, 64, rfl, upd_same, fun q hq => (mv q hq).1.sq, by decide, fun q hq => pr_bd (mv q hq), fun L' t pm nd _ pw nt => ?_⟩
        have mv' : ∀ q ∈ L', PrAt K (L2.upd H r (SetTO P w r L)) A q := fun q hq => mv q (pm.mem_iff.mp hq)
        have ec : L'.map (fun q => TS.code 64 q.2) = uniqI (ps.map cdP) := by
          refine uniq_eq ?_ (pw_uniqI _) fun c => ?_
          · rw [List.pairwise_map]
            have nd2 : L'.Pairwise fun a b => a.2 ≠ b.2 := by
              have := nd
              unfold List.Nodup at this
              rwa [List.pairwise_map] at this
            have both := List.Pairwise.and pw nd2
            refine List.Pairwise.imp_of_mem (fun {a b} ha hb ⟨h1, h2⟩ => ?_) both
            obtain ⟨_, x, y, ea, hx, hy⟩ := mv' a ha
            obtain ⟨_, x', y', eb, hx', hy'⟩ := mv' b hb
            rw [ea, eb, L2.code_pair, L2.code_pair] at h1 ⊢
            rw [ea, eb] at h2
            have b1 := in64_of hx
            have b2 := in64_of hy
            have b3 := in64_of hx'
            have b4 := in64_of hy'
            have ne : x * 64 + y ≠ x' * 64 + y' := fun e => h2 (by
              have z1 : x = x' := by omega
              have z2 : y = y' := by omega
              rw [z1, z2])
            omega
          · rw [mem_uniqI]
            simp only [List.mem_map]
            constructor
            · rintro ⟨q, hq, rfl⟩
              have hk := sub q (pm.mem_iff.mp hq)
              have : q.2 ∈ ks.map (·.2) := List.mem_map.mpr ⟨q, hk, rfl⟩
              rw [e2] at this
              obtain ⟨p', hp', e4⟩ := List.mem_map.mp this
              refine ⟨p', hp', ?_⟩
              rw [← e4, L2.code_pair]
              rfl
            · rintro ⟨p', hp', rfl⟩
              have : [p'.1, p'.2] ∈ ks.map (·.2) := by
                rw [e2]
                exact List.mem_map.mpr ⟨p', hp', rfl⟩
              obtain ⟨q0, hq0, e5⟩ := List.mem_map.mp this
              have := all q0 hq0
              obtain ⟨q1, hq1, e6⟩ := List.mem_map.mp this
              refine ⟨q1, pm.mem_iff.mpr hq1, ?_⟩
              rw [e6, e5, L2.code_pair]
              rfl
        have fin := dv_prs mv'
        rw [ec] at fin
        exact k t _ _ g nt fin
      · cases e
    · cases e
  · cases e
theorem do_ssetP {c : Cz} {P : Program} {w : World} {ta : TA} {fr : Nv → Rs (List Ar)} (ha : DA c ta fr) : DO c (tCB (rSortedT c.K P w) (tCons (tCB (rSetOfT c.K P w) ta) tNil)) (oCb gSetP fr) := fun S σ H n Q R h => by
  refine ha S σ H n _ R (OkG.bind h fun vs as n1 H1 s1 k1 R1 va h1 => ?_)
  obtain ⟨ds, e1, h1⟩ := h1.lft
  obtain ⟨es, e2, h1⟩ := h1.lft
  exact ssetP_ok (P := P) (w := w) (AV S σ n1) H1 Q vs ds es R1.avSome (va.dws R1 e1) e2 fun p H2 us g np hv => h1.ret (g.trans (.upd np)) ((R1.ext g).new np) ⟨p, rfl, s1.non ((Stp.grown (σ := σ) (n := n1) g).non np), .new (R1.ext g) np hv⟩
end Dl
set_option Elab.async false
set_option linter.all false
set_option maxRecDepth 100000
namespace Dl
open PySem PySem.Spec PyProof.Rows L2
structure EX (X : Cx) (c : Cz) (e : Expr) (t : TE) (f : Nv → Rs Ar) : Prop where
  p : PE X e t
  d : DE c t f
structure OX (X : Cx) (c : Cz) (e : Expr) (t : TE) (f : Nv → Rs (List PD)) : Prop where
  p : PE X e t
  d : DO c t f
structure TX (X : Cx) (c : Cz) (e : Expr) (t : TT) (f : Nv → Rs Bool) : Prop where
  p : PT X e t
  d : DT c t f
structure WX' (X : Cx) (c : Cz) (e : Expr) (t : TT) (f : Nv → Rs Bool) : Prop where
  p : PW X e t
  d : DT c t f
structure AX (X : Cx) (c : Cz) (es : List Expr) (t : TA) (f : Nv → Rs (List Ar)) : Prop where
  p : PA X es t
  d : DA c t f
structure KX (X : Cx) (c : Cz) (ks : List Keyword) (t : TA) (f : Nv → Rs (List Ar)) : Prop where
  p : PK X ks t
  d : DA c t f
structure GX (X : Cx) (c : Cz) (e : Expr) (t : TG) (f : PD → Nv → Option Nv) : Prop where
  p : PG X e t
  d : DG c t f
structure GsX (X : Cx) (c : Cz) (es : List Expr) (t : TGs) (f : List PD → Nv → Option Nv) : Prop where
  p : PGs X es t
  d : DGs c t f
structure IX (X : Cx) (c : Cz) (tg e : Expr) (t : TI) (f : Nv → Rs (List PD)) : Prop where
  p : PI X tg e t
  d : DI c t f
structure SX (X : Cx) (c : Cz) (s : Stmt) (t : TS) (f : Nv → RS) : Prop where
  p : PS X s t
  d : DS c t f
structure BX (X : Cx) (c : Cz) (ss : List Stmt) (t : TS) (f : Nv → RS) : Prop where
  p : PSs X ss t
  d : DS c t f
section
variable {X : Cx} {c : Cz} {a b e e2 tg : Expr} {ta tb te : TE} {fa fb fe : Nv → Rs Ar} {tt uu : TT} {ft fu : Nv → Rs Bool} {pos p p2 : Pos} {es rest : List Expr} {tA : TA} {fA : Nv → Rs (List Ar)} {fo : Nv → Rs (List PD)}
theorem xv (i : Nat) {x : Str} (hN : X.N[i]? = some x := by rfl) (hv : Vis X.env.scope x := by first | exact Or.inl rfl | exact Or.inr (Or.inl rfl) | exact Or.inr (Or.inr rfl)) (hd : (x == ("__debug__" : Str)) = false := by decide)
    (hcd : (x == ("__classdict__" : Str)) = false := by decide) : EX X c (.Name x pos) (tVar i) (eV i) := ⟨pe_var hN hv hd hcd, de_var⟩
theorem xi {i : Int} {j} : EX X c (.Constant (.int i) j pos) (tC (.int i)) (eC (.int i)) := ⟨pe_int, de_int⟩
theorem xb {i : Bool} {j} : EX X c (.Constant (.bool i) j pos) (tC (.bl i)) (eC (.bool i)) := ⟨pe_bl, de_bl⟩
theorem xn {j} : EX X c (.Constant .none j pos) (tC .non) (eC .none) := ⟨pe_non, de_non⟩
theorem xs {x : Str} {j} : EX X c (.Constant (.str x) j pos) (tC (.str x)) (eC (.str x)) := ⟨pe_str, de_str⟩
theorem xg {x : Str} {v : V} {u : Value} {d : PD} (hg : Gl X x) (hm : X.mg x = some u) (r : RelV v u) (h : ∀ H A, Dv c.K H A v d) (hd : (x == ("__debug__" : Str)) = false := by decide) : EX X c (.Name x pos) (tC v) (eC d) := ⟨pe_glob hg hm r hd, de_glob h⟩
theorem xadd (h1 : EX X c a ta fa) (h2 : EX X c b tb fb) (hK : c.K = X.K := by rfl) : EX X c (.BinOp a .Add b pos) (tOp (rAddD c.K) ta tb) (eBin gAdd fa fb) := ⟨hK ▸ pe_op op_addD h1.p h2.p, de_bin addD_ok h1.d h2.d⟩
theorem xsub (h1 : EX X c a ta fa) (h2 : EX X c b tb fb) : EX X c (.BinOp a .Sub b pos) (tOp (rI0 fun i j => .int (i - j)) ta tb) (eBin gSub fa fb) := ⟨pe_op op_sub h1.p h2.p, de_bin sub_ok h1.d h2.d⟩
theorem xmul (h1 : EX X c a ta fa) (h2 : EX X c b tb fb) (hK : c.K = X.K := by rfl) : EX X c (.BinOp a .Mult b pos) (tOp (rMulD c.K) ta tb) (eBin gMul fa fb) := ⟨hK ▸ pe_op op_mulD h1.p h2.p, de_bin mulD_ok h1.d h2.d⟩
theorem xmod (h1 : EX X c a ta fa) (h2 : EX X c b tb fb) : EX X c (.BinOp a .Mod b pos) (tOp (rI (fun _ j => 0 < j) fun i j => .int (i % j)) ta tb) (eBin gMod fa fb) := ⟨pe_op op_mod h1.p h2.p, de_bin mod_ok h1.d h2.d⟩
theorem xdiv (h1 : EX X c a ta fa) (h2 : EX X c b tb fb) : EX X c (.BinOp a .FloorDiv b pos) (tOp (rI CDivW fun i j => .int (i / j)) ta tb) (eBin gDiv fa fb) := ⟨pe_op op_fdivW h1.p h2.p, de_bin div_ok h1.d h2.d⟩
theorem xpow (h1 : EX X c a ta fa) (h2 : EX X c b tb fb) : EX X c (.BinOp a .Pow b pos) (tOp (rI CPow fun i j => .int (i ^ j.toNat)) ta tb) (eBin gPow fa fb) := ⟨pe_op op_pow h1.p h2.p, de_bin pow_ok h1.d h2.d⟩
theorem xshl (h1 : EX X c a ta fa) (h2 : EX X c b tb fb) : EX X c (.BinOp a .LShift b pos) (tOp (rI CPow fun i j => .int (i * 2 ^ j.toNat)) ta tb) (eBin gShl fa fb) := ⟨pe_op op_shl h1.p h2.p, de_bin shl_ok h1.d h2.d⟩
theorem xbor (h1 : EX X c a ta fa) (h2 : EX X c b tb fb) : EX X c (.BinOp a .BitOr b pos) (tOp (rI0 fun i j => .int (Builtin.bitOr i j)) ta tb) (eBin gOr fa fb) := ⟨pe_op op_or h1.p h2.p, de_bin or_ok h1.d h2.d⟩
theorem xneg (h1 : EX X c a ta fa) : EX X c (.UnaryOp .USub a pos) (tUn (rU fun i => .int (-i)) ta) (eUn (fun | .int i => some (.int (-i)) | _ => none) fa) := ⟨pe_un un_neg h1.p, de_un (fun A H Q x dx d na w e k => by
  split at e
  · cases e
    exact ⟨_, w.int, k _ H .refl (.int _)⟩
  · cases e) h1.d⟩
structure CmpX (X : Cx) (c : Cz) (op : CmpOp) (r : R2) (g : PD → PD → Option PD) : Prop where
  p : OpR X (compareOp op) r
  d : BopOk c.K r g
theorem c_lt : CmpX X c .Lt (rI0 fun i j => .bl (decide (i < j))) gLt := ⟨op_lt, lt_ok⟩
theorem c_le : CmpX X c .LtE (rI0 fun i j => .bl (decide (i ≤ j))) gLe := ⟨op_le, le_ok⟩
theorem c_gt : CmpX X c .Gt (rI0 fun i j => .bl (decide (j < i))) gGt := ⟨op_gt, gt_ok⟩
theorem c_ge : CmpX X c .GtE (rI0 fun i j => .bl (decide (j ≤ i))) gGe := ⟨op_ge, ge_ok⟩
theorem c_eq {k : Nat} (hr : Room k X.A) (hK : c.K = X.K := by rfl) : CmpX X c .Eq (rEqD c.K) (gEq false) := ⟨hK ▸ op_eqD hr.units, eq_ok⟩
theorem c_ne {k : Nat} (hr : Room k X.A) (hK : c.K = X.K := by rfl) : CmpX X c .NotEq (rNeD c.K) (gEq true) := ⟨hK ▸ op_neD hr.units, ne_ok⟩
theorem c_in {k : Nat} (hr : Room k X.A) (hK : c.K = X.K := by rfl) : CmpX X c .In (rInB c.K false) (gIn false) := ⟨hK ▸ op_inB (by have := hr.un; omega), in_ok⟩
theorem c_nin {k : Nat} (hr : Room k X.A) (hK : c.K = X.K := by rfl) : CmpX X c .NotIn (rInB c.K true) (gIn true) := ⟨hK ▸ op_notInB (by have := hr.un; omega), in_ok⟩
theorem c_isB : CmpX X c .Is (rIsB false) (gIsB false) := ⟨op_isB, isB_ok⟩
theorem c_isnB : CmpX X c .IsNot (rIsB true) (gIsB true) := ⟨op_isnotB, isB_ok⟩
theorem xcmp {op : CmpOp} {r : R2} {g} (h0 : CmpX X c op r g) (h1 : EX X c a ta fa) (h2 : EX X c b tb fb) (hm : behindInMarks op b = false := by first | exact nobehind _ (by decide) (by decide) | rfl) : EX X c (.Compare a [op] [b] pos) (tOp r ta tb) (eBin g fa fb) := ⟨pe_cmpR h0.p h1.p h2.p hm, de_bin h0.d h1.d h2.d⟩
theorem xtcmp {op : CmpOp} {r : R2} {g} (h0 : CmpX X c op r g) (h1 : EX X c a ta fa) (h2 : EX X c b tb fb) (hm : behindInMarks op b = false := by first | exact nobehind _ (by decide) (by decide) | rfl) : TX X c (.Compare a [op] [b] pos) (tTest (tOp r ta tb)) (tVal (eBin g fa fb)) := ⟨pt_cmpR h0.p h1.p h2.p hm, dt_test (de_bin h0.d h1.d h2.d)⟩
theorem xisn {j} (h1 : EX X c a ta fa) : EX X c (.Compare a [.Is] [.Constant .none j p2] pos) (tIsN ta) (eIsN false fa) := ⟨pe_cmp (pc_isN h1.p), de_isN h1.d⟩
theorem xisnn {j} (h1 : EX X c a ta fa) : EX X c (.Compare a [.IsNot] [.Constant .none j p2] pos) (tNotN ta) (eIsN true fa) := ⟨pe_cmp (pc_notN h1.p), de_notN h1.d⟩
theorem xtisn {j} (h1 : EX X c a ta fa) : TX X c (.Compare a [.Is] [.Constant .none j p2] pos) (tB (tIsN ta)) (tVal (eIsN false fa)) := ⟨pt_cmp (pc_isN h1.p), dt_val (de_isN h1.d)⟩
theorem xtisnn {j} (h1 : EX X c a ta fa) : TX X c (.Compare a [.IsNot] [.Constant .none j p2] pos) (tB (tNotN ta)) (tVal (eIsN true fa)) := ⟨pt_cmp (pc_notN h1.p), dt_val (de_notN h1.d)⟩
theorem xand (h1 : EX X c a ta fa) (h2 : EX X c (.BoolOp .And (b :: rest) pos) tb fb) : EX X c (.BoolOp .And (a :: b :: rest) pos) (tAndV ta tb) (eAnd fa fb) := ⟨pe_and h1.p h2.p, de_and h1.d h2.d⟩
theorem xor' (h1 : EX X c a ta fa) (h2 : EX X c (.BoolOp .Or (b :: rest) pos) tb fb) : EX X c (.BoolOp .Or (a :: b :: rest) pos) (tOrV ta tb) (eOr fa fb) := ⟨pe_or h1.p h2.p, de_or h1.d h2.d⟩
theorem xone {op} (h1 : EX X c a ta fa) : EX X c (.BoolOp op [a] pos) ta fa := ⟨pe_one h1.p, h1.d⟩
theorem xnot (h1 : EX X c a ta fa) : EX X c (.UnaryOp .Not a pos) (tNotV ta) (eNot fa) := ⟨pe_not h1.p, de_not h1.d⟩
theorem xife {q : Expr} (h0 : TX X c q tt ft) (h1 : EX X c a ta fa) (h2 : EX X c b tb fb) : EX X c (.IfExp q a b pos) (tIf tt ta tb) (eIf ft fa fb) := ⟨pe_ifExp h0.p h1.p h2.p, de_if h0.d h1.d h2.d⟩
theorem xix (h1 : EX X c a ta fa) (h2 : EX X c b tb fb) (hs : PlainIx b := by exact fun _ _ => rfl) (hK : c.K = X.K := by rfl) : EX X c (.Subscript a b pos) (tOp (rIx c.K) ta tb) (eBin gIx fa fb) := ⟨hK ▸ pe_ix ix_seq h1.p h2.p hs, de_bin ix_ok h1.d h2.d⟩
structure PX (X : Cx) (c : Cz) (e : Option Expr) (t : TO) (f : Nv → Rs (Option Int)) : Prop where
  p : PO X e t
  d : DPo c t f
theorem p_no : PX X c none tNoPart pN := ⟨po_none, dpo_none⟩
theorem p_so (h1 : EX X c a ta fa) : PX X c (some a) (tPart ta) (pS fa) := ⟨po_some h1.p, dpo_some h1.d⟩
theorem xsl {lo hi : Option Expr} {tl th : TO} {fl fh} (h1 : EX X c a ta fa) (h2 : PX X c lo tl fl) (h3 : PX X c hi th fh) (hK : c.K = X.K := by rfl) : EX X c (.Subscript a (.Slice lo hi none p2) pos) (tSl (rSlD c.K) ta tl th) (eSl fa fl fh) := ⟨hK ▸ pe_slice sl_D h1.p h2.p h3.p, de_sl h1.d h2.d h3.d⟩
theorem xt (h1 : EX X c a ta fa) (he : ∀ whole, isTrue a X.env whole = (do let v ← whole; standAt a.pos; holding [v] (truthy v)) := by intro _; rfl) : TX X c a (tB ta) (tVal fa) := ⟨pt_val h1.p he, dt_val h1.d⟩
theorem xtnot (h1 : TX X c a tt ft) : TX X c (.UnaryOp .Not a pos) (tNot tt) (tNotF ft) := ⟨pt_not h1.p, dt_not h1.d⟩
theorem xtw (h1 : WX' X c a tt ft) : TX X c a tt ft := ⟨h1.p.pt, h1.d⟩
theorem wand1 (h1 : TX X c a tt ft) : WX' X c (.BoolOp .And [a] pos) tt ft := ⟨pw_and1 h1.p, h1.d⟩
theorem wor1 (h1 : TX X c a tt ft) : WX' X c (.BoolOp .Or [a] pos) tt ft := ⟨pw_or1 h1.p, h1.d⟩
theorem wand (h1 : TX X c a tt ft) (h2 : WX' X c (.BoolOp .And (b :: rest) pos) uu fu) : WX' X c (.BoolOp .And (a :: b :: rest) pos) (tAnd tt uu) (tAndF ft fu) := ⟨pw_and h1.p h2.p, dt_and h1.d h2.d⟩
theorem wor (h1 : TX X c a tt ft) (h2 : WX' X c (.BoolOp .Or (b :: rest) pos) uu fu) : WX' X c (.BoolOp .Or (a :: b :: rest) pos) (tOr tt uu) (tOrF ft fu) := ⟨pw_or h1.p h2.p, dt_or h1.d h2.d⟩
theorem a0 : AX X c [] tNil aNil := ⟨pa_nil, da_nil⟩
theorem a1 (h1 : EX X c e te fe) (h2 : AX X c es tA fA) (hs : starEach (e :: es) X.env = (false, eval e X.env) :: starEach es X.env := by rfl) : AX X c (e :: es) (tCons te tA) (aCons fe fA) := ⟨pa_cons h1.p h2.p hs, da_cons h1.d h2.d⟩
theorem k0 : KX X c [] tNil aNil := ⟨pk_nil, da_nil⟩
theorem k1 {ks : List Keyword} {nm : Option Str} {kp : Pos} (h1 : EX X c e te fe) (h2 : KX X c ks tA fA) : KX X c (⟨nm, e, kp⟩ :: ks) (tCons te tA) (aCons fe fA) := ⟨pk_cons h1.p h2.p, da_cons h1.d h2.d⟩
theorem xtup {k} (h1 : AX X c es tA fA) : EX X c (.Tuple es k pos) (tTup tA) (eTup fA) := ⟨pe_tup h1.p, de_tup h1.d⟩
theorem olst (h1 : AX X c es tA fA) : OX X c (.List es pos) (tLst tA) (oLst fA) := ⟨pe_lst h1.p, do_lst h1.d⟩
theorem xof (h1 : OX X c a ta fo) : EX X c a ta (eOf fo) := ⟨h1.p, de_of h1.d⟩
theorem xcb {x : Str} {id : String} {r : List V → Hp → VK → Prop} {g} (hc : CallR X (.builtin id) r) (hd : CopOk c.K r g) (hg : Gl X x) (hm : X.mg x = none) (hv : bootBuiltins x = some (.builtin id)) (ha : AX X c (e :: es) tA fA) (hn : x ≠ "__name__" := by decide) (hdb : (x == ("__debug__" : Str)) = false := by decide)
    (he : starEach (e :: es) X.env = (false, eval e X.env) :: starEach es X.env := by rfl) (hpl : (backTo pos (starEach es X.env)).any (·.1) = false := by rfl) : EX X c (.Call (.Name x p) (e :: es) [] pos) (tCB r tA) (eCb g fA) := ⟨pe_callB hc hg hm hv ha.p hn hdb he hpl, de_cb hd ha.d⟩
theorem xct {x : Str} {T : String} {r : List V → Hp → VK → Prop} {g} (hc : CallR X (.type T) r) (hd : CopOk c.K r g) (hg : Gl X x) (hm : X.mg x = none) (hv : bootBuiltins x = some (.type T)) (ha : AX X c (e :: es) tA fA) (hn : x ≠ "__name__" := by decide) (hdb : (x == ("__debug__" : Str)) = false := by decide)
    (he : starEach (e :: es) X.env = (false, eval e X.env) :: starEach es X.env := by rfl) (hpl : (backTo pos (starEach es X.env)).any (·.1) = false := by rfl) : EX X c (.Call (.Name x p) (e :: es) [] pos) (tCB r tA) (eCb g fA) := ⟨pe_callTy hc hg hm hv ha.p hn hdb he hpl, de_cb hd ha.d⟩
theorem oct {x : Str} {T : String} {r : List V → Hp → VK → Prop} {g} (hc : CallR X (.type T) r) (hd : CopL c.K r g) (hg : Gl X x) (hm : X.mg x = none) (hv : bootBuiltins x = some (.type T)) (ha : AX X c (e :: es) tA fA) (hn : x ≠ "__name__" := by decide) (hdb : (x == ("__debug__" : Str)) = false := by decide)
    (he : starEach (e :: es) X.env = (false, eval e X.env) :: starEach es X.env := by rfl) (hpl : (backTo pos (starEach es X.env)).any (·.1) = false := by rfl) : OX X c (.Call (.Name x p) (e :: es) [] pos) (tCB r tA) (oCb g fA) := ⟨pe_callTy hc hg hm hv ha.p hn hdb he hpl, do_cb hd ha.d⟩
theorem ocb {x : Str} {id : String} {r : List V → Hp → VK → Prop} {g} (hc : CallR X (.builtin id) r) (hd : CopL c.K r g) (hg : Gl X x) (hm : X.mg x = none) (hv : bootBuiltins x = some (.builtin id)) (ha : AX X c (e :: es) tA fA) (hn : x ≠ "__name__" := by decide) (hdb : (x == ("__debug__" : Str)) = false := by decide)
    (he : starEach (e :: es) X.env = (false, eval e X.env) :: starEach es X.env := by rfl) (hpl : (backTo pos (starEach es X.env)).any (·.1) = false := by rfl) : OX X c (.Call (.Name x p) (e :: es) [] pos) (tCB r tA) (oCb g fA) := ⟨pe_callB hc hg hm hv ha.p hn hdb he hpl, do_cb hd ha.d⟩
theorem xisi {T : String} {q : Pos} {x : Str} (hT : KitT T) (hg : Gl X "isinstance") (hm : X.mg "isinstance" = none) (hgT : Gl X x) (hmT : X.mg x = none) (hvT : bootBuiltins x = some (.type T)) (h1 : EX X c e te fe) (hn : x ≠ "__name__" := by decide) (hdb : (x == ("__debug__" : Str)) = false := by decide)
    (he : starEach (e :: [.Name x q]) X.env = (false, eval e X.env) :: starEach [.Name x q] X.env := by rfl) (he2 : starEach [.Name x q] X.env = (false, eval (.Name x q) X.env) :: starEach [] X.env := by rfl) (hpl : (backTo pos (starEach [.Name x q] X.env)).any (·.1) = false := by rfl) (hK : c.K = X.K := by rfl) :
    EX X c (.Call (.Name "isinstance" p) [e, .Name x q] [] pos) (tCB (rIsi c.K) (tCons te (tCons (tC (.ty T)) tNil))) (eIsi T fe) := ⟨hK ▸ pe_callB call_isi hg hm (by decide +kernel) (pa_cons h1.p (pa_cons (pe_bltn hgT hmT hvT rfl hn hdb) pa_nil he2) he) (he := he) (hpl := hpl), de_isi hT h1.d⟩
theorem orng1 {q p1 : Pos} (hc : X.calm = true) (hg : Gl X "list") (hm : X.mg "list" = none) (hg2 : Gl X "range") (hm2 : X.mg "range" = none) (h1 : EX X c a ta fa) (na : starEach [a] X.env = (false, eval a X.env) :: starEach [] X.env := by rfl)
    (na2 : starEach [.Call (.Name "range" p1) [a] [] q] X.env = (false, eval (.Call (.Name "range" p1) [a] [] q) X.env) :: starEach [] X.env := by rfl) : OX X c (.Call (.Name "list" p) [.Call (.Name "range" p1) [a] [] q] [] pos) (tLstRg (tRg1 ta)) (oRg1 fa) := ⟨pe_listRg hc hg hm (prg_1 hg2 hm2 h1.p na) na2, do_rg1 h1.d⟩
theorem xtrng1 {q p1 : Pos} (hc : X.calm = true) (hg : Gl X "tuple") (hm : X.mg "tuple" = none) (hg2 : Gl X "range") (hm2 : X.mg "range" = none) (h1 : EX X c a ta fa) (na : starEach [a] X.env = (false, eval a X.env) :: starEach [] X.env := by rfl)
    (na2 : starEach [.Call (.Name "range" p1) [a] [] q] X.env = (false, eval (.Call (.Name "range" p1) [a] [] q) X.env) :: starEach [] X.env := by rfl) : EX X c (.Call (.Name "tuple" p) [.Call (.Name "range" p1) [a] [] q] [] pos) (tTupRg (tRg1 ta)) (eTupRg1 fa) := ⟨pe_tupRg hc hg hm (prg_1 hg2 hm2 h1.p na) na2, de_tupRg1 h1.d⟩
theorem orng2 {q p1 : Pos} (hc : X.calm = true) (hg : Gl X "list") (hm : X.mg "list" = none) (hg2 : Gl X "range") (hm2 : X.mg "range" = none) (h1 : EX X c a ta fa) (h2 : EX X c b tb fb) (na : starEach [a, b] X.env = (false, eval a X.env) :: starEach [b] X.env := by rfl) (nb : starEach [b] X.env = (false, eval b X.env) :: starEach [] X.env := by rfl)
    (na2 : starEach [.Call (.Name "range" p1) [a, b] [] q] X.env = (false, eval (.Call (.Name "range" p1) [a, b] [] q) X.env) :: starEach [] X.env := by rfl) (hp : (backTo q (starEach [b] X.env)).any (·.1) = false := by rfl) : OX X c (.Call (.Name "list" p) [.Call (.Name "range" p1) [a, b] [] q] [] pos) (tLstRg (tRg2 ta tb)) (oRg2 fa fb) := ⟨pe_listRg hc hg hm (prg_2 hg2 hm2 h1.p h2.p na nb hp) na2, do_rg2 h1.d h2.d⟩
end
end Dl
set_option Elab.async false
set_option linter.all false
set_option maxRecDepth 100000
namespace Dl
open PySem PySem.Spec PyProof.Rows L2
section
variable {X : Cx} {c : Cz} {a b e e2 tg : Expr} {ta tb te : TE} {fa fb fe : Nv → Rs Ar} {tt : TT} {ft : Nv → Rs Bool} {pos p p2 pos' : Pos} {es : List Expr} {tA tk : TA} {fA fK : Nv → Rs (List Ar)} {fo : Nv → Rs (List PD)}
theorem gx (i : Nat) {x : Str} (hN : X.N.Nodup) (hi : X.N[i]? = some x := by rfl) (hx : Loc X.env.scope x := by first | exact Or.inl rfl | exact Or.inr rfl) (hf : X.fn x = true ∨ X.env.scope.names.lookup x = some .local := by first | exact .inl rfl | exact .inr rfl) : GX X c (.Name x pos) (gName i) (gN i) := ⟨pg_name hN hi hx hf, dg_name⟩
theorem gs0 : GsX X c [] gNil gsN := ⟨pgs_nil, dgs_nil⟩
theorem gs1 {g : TG} {gs : TGs} {f fs} (h1 : GX X c e g f) (h2 : GsX X c es gs fs) (hs : (assignEach (e :: es) X.env).map (·.2) = assign e X.env :: (assignEach es X.env).map (·.2) := by rfl) : GsX X c (e :: es) (gCons g gs) (gsC f fs) := ⟨pgs_cons h1.p h2.p hs, dgs_cons h1.d h2.d⟩
theorem gtup {k n : Nat} {gs : TGs} {fs} (hc : X.calm = true) (h1 : GsX X c es gs fs) (hn : (assignEach es X.env).length = n := by rfl) (hst : (assignEach es X.env).findIdx? (·.1) = none := by rfl) (hK : c.K = X.K := by rfl) : GX X c (.Tuple es k pos) (gTup c.K n gs) (gT n fs) := ⟨hK ▸ pg_tup hc h1.p hn hst, dg_tup h1.d⟩
theorem ilist (h1 : EX X c e te fe) (hK : c.K = X.K := by rfl) : IX X c tg e (iList c.K te) (iL fe) := ⟨hK ▸ pi_list h1.p, di_list h1.d⟩
theorem itup (h1 : EX X c e te fe) (hK : c.K = X.K := by rfl) : IX X c tg e (iTup c.K te) (iT fe) := ⟨hK ▸ pi_tup h1.p, di_tup h1.d⟩
theorem irng1 (hg : Gl X "range") (hm : X.mg "range" = none) (h1 : AX X c [a] tA fA) (hs : starEach [a] X.env = [(false, eval a X.env)] := by rfl) : IX X c tg (.Call (.Name "range" p) [a] [] pos) (iRng1 tA) (iR1 fA) := ⟨pi_range1 hg hm h1.p hs, di_rng1 h1.d⟩
theorem irng2 (hg : Gl X "range") (hm : X.mg "range" = none) (h1 : AX X c [a, b] tA fA) (hs : starEach [a, b] X.env = [(false, eval a X.env), (false, eval b X.env)] := by rfl) (hs2 : starEach [b] X.env = [(false, eval b X.env)] := by rfl) : IX X c tg (.Call (.Name "range" p) [a, b] [] pos) (iRng2 tA) (iR2 fA) := ⟨pi_range2 hg hm h1.p hs hs2, di_rng2 h1.d⟩
def enumD (ds : List PD) : List PD := ds.mapIdx fun i d => .tuple [.int (i : Nat), d]
def iEn (fr : Nv → Rs (List Ar)) : Nv → Rs (List PD) := fun n => bnd (fr n) fun as n1 => match as with
  | [.d (.tuple ds)] => ret (enumD ds) n1
  | _ => none
theorem jok_enum {K : PySem.W.Frag} {v : Addr} {ds : List PD} : JOk K (IteT K v) [.ref v] [.tuple ds] (enumD ds) := fun H A i na h => by
  cases h with
  | cons h _ =>
    cases h with
    | tup hl ha =>
      refine ⟨fun q => ⟨_, hl.sq, by rw [ha.len]; simpa [enumD] using q⟩, fun d e => ?_⟩
      unfold enumD at e
      rw [List.getElem?_mapIdx] at e
      obtain ⟨d0, e0, e1⟩ := Option.map_eq_some_iff.mp e
      subst e1
      obtain ⟨u, eu, hu⟩ := ha.get e0
      refine ⟨⟨_, u, hl.sq, eu⟩, ?_⟩
      rintro x H' ⟨T, y, rfl, nT, rfl, hy⟩
      have e3 := hy _ hl.sq
      rw [eu] at e3
      cases e3
      exact ⟨.upd nT, .newTup na nT (.cons (.int _) (.cons hu .nil))⟩
theorem di_enum {ta : TA} {fr} (h1 : DA c ta fr) : DI c (iEnumT c.K ta) (iEn fr) := fun S σ H n Q R h => by
  refine h1 S σ H n _ R (OkG.bind h fun vs as n1 H1 s1 k1 R1 va h2 => ?_)
  match as, va, h2 with
  | [.d (.tuple ds)], va, h2 =>
    cases va with
    | cons v r =>
      cases r
      have v : Dv c.K H1 (AV S σ n1) _ (.tuple ds) := v
      cases v with
      | tup hl ha => exact ⟨_, _, rfl, hl.sq, h2.ret .refl R1 ⟨_, _, .cons (.tup hl ha) .nil, jok_enum⟩⟩
theorem ienum {elts : List Expr} {kk : Nat} {tpos : Pos} (hg : Gl X "enumerate") (hm : X.mg "enumerate" = none) (h1 : AX X c [e] tA fA) (hs : starEach [e] X.env = [(false, eval e X.env)] := by rfl) (hK : c.K = X.K := by rfl) : IX X c (.Tuple elts kk tpos) (.Call (.Name "enumerate" p) [e] [] pos) (iEnumT c.K tA) (iEn fA) := ⟨hK ▸ pi_enumT hg hm h1.p hs, di_enum h1.d⟩
def zipD (ds es : List PD) : List PD := List.zipWith (fun d e => .tuple [d, e]) ds es
def iZp (fr : Nv → Rs (List Ar)) : Nv → Rs (List PD) := fun n => bnd (fr n) fun as n1 => match as with
  | [.d (.tuple ds), .d (.tuple es)] => ret (zipD ds es) n1
  | _ => none
theorem jok_zip {K : PySem.W.Frag} {v u : Addr} {ds es : List PD} : JOk K (RZ.ItzT K v u) [.ref v, .ref u] [.tuple ds, .tuple es] (zipD ds es) := fun H A i na h => by
  cases h with
  | cons h h' =>
    cases h' with
    | cons h' _ =>
      cases h with
      | tup hl ha =>
        cases h' with
        | tup hl' ha' =>
          refine ⟨fun q => ⟨_, _, hl.sq, hl'.sq, ?_⟩, fun d e => ?_⟩
          · rw [ha.len, ha'.len]
            unfold zipD at q
            rw [List.length_zipWith] at q
            omega
          · unfold zipD at e
            rw [List.getElem?_zipWith_eq_some] at e
            obtain ⟨d0, e0, q1, q2, rfl⟩ := e
            obtain ⟨x, ex, hx⟩ := ha.get q1
            obtain ⟨y, ey, hy⟩ := ha'.get q2
            refine ⟨⟨_, _, x, y, hl.sq, hl'.sq, ex, ey⟩, ?_⟩
            rintro z H' ⟨T, x', y', rfl, nT, rfl, zx, zy⟩
            have w1 := zx _ hl.sq
            have w2 := zy _ hl'.sq
            rw [ex] at w1
            rw [ey] at w2
            cases w1
            cases w2
            exact ⟨.upd nT, .newTup na nT (.cons hx (.cons hy .nil))⟩
theorem di_zip {ta : TA} {fr} (h1 : DA c ta fr) : DI c (RZ.iZipA c.K ta) (iZp fr) := fun S σ H n Q R h => by
  refine h1 S σ H n _ R (OkG.bind h fun vs as n1 H1 s1 k1 R1 va h2 => ?_)
  match as, va, h2 with
  | [.d (.tuple ds), .d (.tuple es)], va, h2 =>
    cases va with
    | cons v r =>
      cases r with
      | cons u r =>
        cases r
        have v : Dv c.K H1 (AV S σ n1) _ (.tuple ds) := v
        have u : Dv c.K H1 (AV S σ n1) _ (.tuple es) := u
        cases v with
        | tup hl ha =>
          cases u with
          | tup hl' ha' => exact ⟨_, _, _, _, rfl, .inr ⟨hl.sq, hl'.sq, h2.ret .refl R1 ⟨_, _, .cons (.tup hl ha) (.cons (.tup hl' ha') .nil), jok_zip⟩⟩⟩
theorem izip {elts : List Expr} {kk : Nat} {tpos : Pos} (hg : Gl X "zip") (hm : X.mg "zip" = none) (h1 : AX X c [e, e2] tA fA) (hs : starEach [e, e2] X.env = (false, eval e X.env) :: starEach [e2] X.env := by rfl) (hpl : (backTo pos (starEach [e2] X.env)).any (·.1) = false := by rfl) (hK : c.K = X.K := by rfl) :
    IX X c (.Tuple elts kk tpos) (.Call (.Name "zip" p) [e, e2] [] pos) (RZ.iZipA c.K tA) (iZp fA) := ⟨hK ▸ RZ.pi_zipA hg hm h1.p hs hpl, di_zip h1.d⟩
variable {t u : TS} {f g : Nv → RS} {ss s2 : List Stmt} {s : Stmt}
theorem b0 : BX X c [] tNext sNext := ⟨pss_nil, ds_next⟩
theorem b1 (h1 : SX X c s t f) : BX X c [s] t f := ⟨pss_one h1.p, h1.d⟩
theorem bc (h1 : SX X c s t f) (h2 : BX X c ss u g) : BX X c (s :: ss) (tSeq t u) (sSeq f g) := ⟨pss_cons h1.p h2.p, ds_seq h1.d h2.d⟩
theorem spass : SX X c (.Pass pos) tNext sNext := ⟨ps_pass, ds_next⟩
theorem sbrk : SX X c (.Break pos) tBreak sBrk := ⟨ps_break, ds_brk⟩
theorem scnt : SX X c (.Continue pos) tCont sCnt := ⟨ps_continue, ds_cnt⟩
theorem sexp (h1 : EX X c e te fe) (hs : swapsWith e none pos.line X.env = pure false := by rfl) : SX X c (.Expr e pos) (tDrop te) (sExpr fe) := ⟨ps_expr h1.p hs, ds_expr h1.d⟩
theorem sret (h1 : EX X c e te fe) : SX X c (.Return (some e) pos) (tRet te) (sRet fe) := ⟨ps_ret h1.p, ds_ret h1.d⟩
theorem sretn : SX X c (.Return none pos) tRetN (fun n => some (.ok (.rt (.d .none), n))) := ⟨ps_retN, ds_retN⟩
theorem sif {q : Expr} (h0 : TX X c q tt ft) (h1 : BX X c ss t f) (h2 : BX X c s2 u g) : SX X c (.If q ss s2 pos) (tIfS tt t u) (sIf ft f g) := ⟨ps_if h0.p h1.p h2.p, ds_if h0.d h1.d h2.d⟩
theorem sset (i : Nat) {x : Str} (hN : X.N.Nodup) (h1 : EX X c e te fe) (hi : X.N[i]? = some x := by rfl) (hx : Loc X.env.scope x := by first | exact Or.inl rfl | exact Or.inr rfl) (hs : swapsWith e (some (.Name x pos')) pos.line X.env = pure false := by rfl)
    (hf : X.fn x = true ∨ X.env.scope.names.lookup x = some .local := by first | exact .inl rfl | exact .inr rfl) : SX X c (.Assign [.Name x pos'] e pos) (tAsg te (gName i)) (sSet i fe) := ⟨ps_set hN hi hx h1.p hs hf, ds_set h1.d⟩
theorem snew (i : Nat) {x : Str} (hN : X.N.Nodup) (h1 : OX X c e te fo) (hi : X.N[i]? = some x := by rfl) (hx : Loc X.env.scope x := by first | exact Or.inl rfl | exact Or.inr rfl) (hs : swapsWith e (some (.Name x pos')) pos.line X.env = pure false := by rfl)
    (hf : X.fn x = true ∨ X.env.scope.names.lookup x = some .local := by first | exact .inl rfl | exact .inr rfl) : SX X c (.Assign [.Name x pos'] e pos) (tAsg te (gName i)) (sNew i fo) := ⟨ps_set hN hi hx h1.p hs hf, ds_new h1.d⟩
theorem sdnew (i : Nat) {x : Str} (hN : X.N.Nodup) (hi : X.N[i]? = some x := by rfl) (hx : Loc X.env.scope x := by first | exact Or.inl rfl | exact Or.inr rfl) (hs : swapsWith (.Dict [] [] p) (some (.Name x pos')) pos.line X.env = pure false := by rfl)
    (hf : X.fn x = true ∨ X.env.scope.names.lookup x = some .local := by first | exact .inl rfl | exact .inr rfl) : SX X c (.Assign [.Name x pos'] (.Dict [] [] p) pos) (tAsg tDNewK (gName i)) (sDnew i) := ⟨ps_set hN hi hx pe_dnewK hs hf, ds_dnew⟩
theorem sasg {gg : TG} {fg} (h1 : EX X c e te fe) (h2 : GX X c tg gg fg) (hs : swapsWithSole [tg] e pos.line X.env = pure false := by rfl) (hw : swappedStores [tg] e X.env = pure none := by rfl) (h3 : (assignEach [tg] X.env).map (·.2) = [assign tg X.env] := by rfl) : SX X c (.Assign [tg] e pos) (tAsg te gg) (sAsg fe fg) := ⟨ps_asg h1.p h2.p hs hw h3, ds_asg h1.d h2.d⟩
theorem sitm {x : Str} (i : Nat) (hv : EX X c (.Name x p) (tVar i) (eV i)) (h1 : EX X c e te fe) (h2 : EX X c b tb fb) (ha : ∀ v, assign (.Subscript (.Name x p) b p2) X.env v = (do
      let ov ← holding [v] (eval (.Name x p) X.env)
      let iv ← holding [v, ov] (eval b X.env)
      standAt p2
      holding [v, ov, iv] (setItem ov iv v)
      release [v, ov, iv] []) := by intro _; rfl) (hs : swapsWithSole [.Subscript (.Name x p) b p2] e pos.line X.env = pure false := by rfl) (hw : swappedStores [.Subscript (.Name x p) b p2] e X.env = pure none := by rfl) (h3 : (assignEach [.Subscript (.Name x p) b p2] X.env).map (·.2) = [assign (.Subscript (.Name x p) b p2) X.env] := by rfl) :
    SX X c (.Assign [.Subscript (.Name x p) b p2] e pos) (tAsg te (L2.gSub (tVar i) tb rSetL)) (sItm i fe fb) := ⟨ps_asg h1.p (pg_sub hv.p h2.p set_list ha) hs hw h3, ds_itm h1.d h2.d⟩
theorem sapp {x : Str} {apos cpos : Pos} (i : Nat) (hv : EX X c (.Name x p) (tVar i) (eV i)) (ha : AX X c [e] tA fA) (h0 : PE X (.Call (.Attribute (.Name x p) "append" apos) [e] [] cpos) (tBM X.K "list" rAppend (tVar i) tA)) (hs : swapsWith (.Call (.Attribute (.Name x p) "append" apos) [e] [] cpos) none pos.line X.env = pure false := by rfl) (hK : c.K = X.K := by rfl) :
    SX X c (.Expr (.Call (.Attribute (.Name x p) "append" apos) [e] [] cpos) pos) (tDrop (tBM c.K "list" rAppend (tVar i) tA)) (sApp i fA) := ⟨hK ▸ ps_expr h0 hs, ds_app ha.d⟩
theorem sfor {wi : TI} {gg : TG} {fi fg} (hp : PassesOwn (model X.prog X.w) X.A X.env X.xe) (hc : X.calm = true) (h1 : IX X c tg e wi fi) (h2 : GX X c tg gg fg) (h3 : BX X c ss t f) (hs : ∀ x, foldedSetIterable e X.env x = pure x := by intro _; rfl) : SX X c (.For tg e ss [] pos) (tFor wi gg t) (sFor fi fg f) := ⟨ps_for hp hc h1.p h2.p h3.p hs, ds_for h1.d h2.d h3.d⟩
theorem sdput {x : Str} (i : Nat) {k : Nat} (hr : Room k X.A) (hv : EX X c (.Name x p) (tVar i) (eV i)) (h1 : EX X c e te fe) (h2 : EX X c b tb fb) (hs : swapsWith e (some (.Subscript (.Name x p) b p2)) pos.line X.env = pure false := by rfl) : SX X c (.Assign [.Subscript (.Name x p) b p2] e pos) (sDPut (tVar i) tb te) (sDput i fe fb) := ⟨ps_dput (hu_of hr) hv.p h2.p h1.p hs, ds_dput h1.d h2.d⟩
theorem xdget {x : Str} (i : Nat) {k : Nat} (hr : Room k X.A) (hv : EX X c (.Name x p) (tVar i) (eV i)) (h2 : EX X c b tb fb) (hs : NoSl b := by exact fun _ _ => rfl) : EX X c (.Subscript (.Name x p) b pos) (tDGet (tVar i) tb) (eDget i fb) := ⟨pe_dget (hu_of hr) hv.p h2.p hs, de_dget h2.d⟩
theorem xtdnin {x : Str} (i : Nat) {k : Nat} (hr : Room k X.A) (hv : EX X c (.Name x p) (tVar i) (eV i)) (h2 : EX X c b tb fb) (hm : behindInMarks .NotIn (.Name x p) = false := by first | exact nobehind _ (by decide) (by decide) | rfl) : TX X c (.Compare b [.NotIn] [.Name x p] pos) (tB (tDNotIn tb (tVar i))) (tVal (eDin true i fb)) := ⟨pt_cmp (pc_dnotin (hu_of hr) h2.p hv.p) hm, dt_val (de_dnotin h2.d)⟩
def fYes : Nv → Rs Bool := fun n => ret true n
structure TsX (X : Cx) (c : Cz) (es : List Expr) (t : TT) (f : Nv → Rs Bool) : Prop where
  p : PTs X es t
  d : DT c t f
theorem t0 : TsX X c [] tYes fYes := ⟨pts_nil, fun S σ H n Q R h => h.ret .refl R rfl⟩
theorem t1 (h1 : TX X c e tt ft) : TsX X c [e] tt ft := ⟨pts_one h1.p, h1.d⟩
abbrev nox (c : Cz) : Cz := ⟨c.K, c.cl, fun _ _ _ _ => False⟩
end
section
variable {X : Cx} {c : Cz} {elt tg iter : Expr} {ifs : List Expr} {scope : Scope} {own : List (Str × Nat)} {pos spos py : Pos} {wi : TI} {gg : TG} {tt : TT} {te : TE} {fi fg ft fe}
theorem ocomp (hc : X.calm = true) (hN : X.N.Nodup) (h1 : IX X c tg iter wi fi) (ok : BlkOk X.N X.env.scope scope own) (gi : GIn gg (own.map (·.2))) (gm : ∀ v σ H (Q Q' : Sg → Hp → Prop), (∀ σ' H', Q σ' H' → Q' σ' H') → gg v σ H Q → gg v σ H Q')
    (hg : ∀ (s : Shared) (H : Hp) (C : Addr) (cl : List (Str × Addr)) (fp : List Addr), GX (X.blk s H scope (compEnvC scope cl C X.env) fp) c tg gg fg)
    (ht : ∀ (s : Shared) (H : Hp) (C : Addr) (cl : List (Str × Addr)) (fp : List Addr), TsX (X.blk s H scope (compEnvC scope cl C X.env) fp) (nox c) ifs tt ft)
    (he : ∀ (s : Shared) (H : Hp) (C : Addr) (cl : List (Str × Addr)) (fp : List Addr), EX (X.blk s H scope (compEnvC scope cl C X.env) fp) (nox c) elt te fe) (s0 : Shared) (H0 : Hp) (hs : ∀ x, foldedSetIterable iter X.env x = pure x := by intro _; rfl) :
    OX X c (.ListComp elt [⟨tg, iter, ifs, 0⟩] scope pos) (tLc wi gg tt te (own.map (·.2))) (oComp (own.map (·.2)) fi fg ft fe) :=
  ⟨pe_lc hc hN h1.p ok (fun s H C cl fp => (hg s H C cl fp).p) (fun s H C cl fp => (ht s H C cl fp).p) (fun s H C cl fp => (he s H C cl fp).p) hs, do_comp h1.d (hg s0 H0 0 [] []).d gi (ht s0 H0 0 [] []).d (he s0 H0 0 [] []).d gm⟩
theorem snewc (i : Nat) {y : Str} (hc : X.calm = true) (hN : X.N.Nodup) (h1 : IX X c tg iter wi fi) (ok : BlkOk X.N X.env.scope scope own) (gi : GIn gg (own.map (·.2))) (gm : ∀ v σ H (Q Q' : Sg → Hp → Prop), (∀ σ' H', Q σ' H' → Q' σ' H') → gg v σ H Q → gg v σ H Q')
    (hg : ∀ (s : Shared) (H : Hp) (C : Addr) (cl : List (Str × Addr)) (fp : List Addr), GX (X.blk s H scope (compEnvC scope cl C X.env) fp) c tg gg fg)
    (ht : ∀ (s : Shared) (H : Hp) (C : Addr) (cl : List (Str × Addr)) (fp : List Addr), TsX (X.blk s H scope (compEnvC scope cl C X.env) fp) (nox c) ifs tt ft)
    (he : ∀ (s : Shared) (H : Hp) (C : Addr) (cl : List (Str × Addr)) (fp : List Addr), EX (X.blk s H scope (compEnvC scope cl C X.env) fp) (nox c) elt te fe) (s0 : Shared) (H0 : Hp) (hy : X.N[i]? = some y := by rfl) (hyl : X.env.scope.names.lookup y = some .local := by rfl)
    (hsw : swapsWith (.ListComp elt [⟨tg, iter, ifs, 0⟩] scope pos) (some (.Name y py)) spos.line X.env = pure true := by exact sw_true rfl rfl rfl (by decide +kernel)) (hs : ∀ x, foldedSetIterable iter X.env x = pure x := by intro _; rfl) :
    SX X c (.Assign [.Name y py] (.ListComp elt [⟨tg, iter, ifs, 0⟩] scope pos) spos) (tAsg (tLc wi gg tt te (own.map (·.2))) (gName i)) (sNew i (oComp (own.map (·.2)) fi fg ft fe)) :=
  ⟨ps_setLc hc hN hy hyl hsw h1.p ok (fun s H C cl fp => (hg s H C cl fp).p) (fun s H C cl fp => (ht s H C cl fp).p) (fun s H C cl fp => (he s H C cl fp).p) hs, ds_new (do_comp h1.d (hg s0 H0 0 [] []).d gi (ht s0 H0 0 [] []).d (he s0 H0 0 [] []).d gm)⟩
end
theorem sp_ary {K : PySem.W.Frag} {cl : Str → Option Value} {k : Nat} {f : Nv → Rs Rv} {vs : List V} {H : Hp} {Q : VK} {E : XK} (h : spM K cl k (ary k f) vs H Q E) : spM K cl k f vs H Q E := by
  obtain ⟨hl, S, as, R, sub, nf, hf⟩ := h
  refine ⟨hl, S, as, R, sub, nf, ?_⟩
  have e : as.length = k := by rw [R.len, List.length_map, hl]
  unfold ary at hf
  rwa [if_pos e] at hf
structure Cal (P : Program) (w : World) (K : PySem.W.Frag) (mg : Str → Option Value) (base : Heap) (cl : Str → Option Value) (lv : Nat) (x : Str) (ps : List Str) (f : Nv → Rs Rv) : Prop where
  ex : ∃ (a : Addr) (fd : FuncData), FnOk P w K mg base (L2.CX P w) lv a fd ps (spM K cl ps.length f) ∧ mg x = some (.ref a) ∧ PySem.W.keepIn K (.ref a) = true ∧ Binds K fd ps []
  ar : Ary ps.length f
  any : ∀ (a : Addr) (fd : FuncData) (oc : Value) (od : Option Addr) (osl : Array (Option Value)), mg x = some (.ref a) → K.lookup a = some ⟨oc, od, .func fd, osl⟩ → FnOk P w K mg base (L2.CX P w) lv a fd ps (spM K cl ps.length f)
structure CalR (P : Program) (w : World) (K : PySem.W.Frag) (mg : Str → Option Value) (base : Heap) (cl : Str → Option Value) (lv : Nat) (x : Str) (ps ks : List Str) (f : Nv → Rs Rv) : Prop where
  ex : ∃ (a : Addr) (fd : FuncData), FnOk P w K mg base (L2.CX P w) lv a fd ps (spM K cl ps.length f) ∧ mg x = some (.ref a) ∧ PySem.W.keepIn K (.ref a) = true ∧ KBinds K fd ps ks gRev gRev
  ar : Ary ps.length f
structure CalG (P : Program) (w : World) (K : PySem.W.Frag) (mg : Str → Option Value) (base : Heap) (cl : Str → Option Value) (lv : Nat) (x : Str) (ps : List Str) (f : Nv → Rs Rv) : Prop where
  ex : ∃ (a : Addr) (fd : FuncData), FnG P w K mg base (L2.CX P w) lv a fd ps (spM K cl ps.length f) ∧ mg x = some (.ref a) ∧ PySem.W.keepIn K (.ref a) = true ∧ Binds K fd ps []
  ar : Ary ps.length f
section
variable {P : Program} {w : World} {K : PySem.W.Frag} {mg : Str → Option Value} {base : Heap} {cl : Str → Option Value} {k : Nat} {x qual : Str} {st : Stmt} {f : Addr} {fd : FuncData} {N ps ks : List Str} {g : Nv → RS} {m : Nat}
theorem _root_.L2.Fun.only {lv : Nat} {ps : List Str} {sp : Sp} (F : Fun K x qual st f fd) (hm : mg x = some (.ref f)) (H : FnOk P w K mg base (L2.CX P w) lv f fd ps sp) (a : Addr) (fd' : FuncData) (oc : Value) (od : Option Addr) (osl : Array (Option Value)) (h1 : mg x = some (.ref a)) (h2 : K.lookup a = some ⟨oc, od, .func fd', osl⟩) : FnOk P w K mg base (L2.CX P w) lv a fd' ps sp := by
  obtain ⟨oc', od', kV, doc, pm, an, cdv, ct, osl', rfl, lk, hcd⟩ := F.ex
  rw [hm] at h1
  cases h1
  rw [lk] at h2
  cases h2
  exact H
theorem cal_mk (F : Fun K x qual st f fd) (hm : mg x = some (.ref f)) (Sc : FnScope N ps (defScope st)) (hN : N.length = ps.length + m)
    (hb : ∀ (kV doc pm : Value) (an : Option Addr) (cdv ct : Value) (us : List Value), us.length = ps.length → bindArgs (PySem.W.fnOf x qual (defArgs st) (defBody st) (defScope st) .none kV doc pm an cdv ct) ⟨us, []⟩ = pure (ps.zip us))
    (hbody : ∀ (cdv : Value) (A : Around) (outer : List Env) (s : Shared) (H : Hp) (E : XK), Room k (A.deeper (envOfC qual (defScope st) s.heap.objs.size f cdv)) →
      ∃ t, BX (cxOf (L2.CX P w) P w K mg base N qual (defScope st) f cdv A outer s H E) ⟨K, cl, fun _ => E⟩ (defBody st) t g) : Cal P w K mg base cl (k + 1) x ps (ary ps.length (body m g)) :=
  have H : FnOk P w K mg base (L2.CX P w) (k + 1) f fd ps (spM K cl ps.length (ary ps.length (body m g))) := (fn_dl (m := m) (g := g) F Sc hN fun cdv A outer s H E hr => let ⟨t, z⟩ := hbody cdv A outer s H E hr; ⟨t, z.p, z.d⟩).imp fun _ _ _ _ h => sp_ary h
  ⟨⟨f, fd, H, hm, F.kp, F.binds hb⟩, ary_ok, F.only hm H⟩
theorem calG_mk (F : Fun K x qual st f fd) (hm : mg x = some (.ref f)) (Sc : FnScope N ps (defScope st)) (hN : N.length = ps.length + m)
    (hb : ∀ (kV doc pm : Value) (an : Option Addr) (cdv ct : Value) (us : List Value), us.length = ps.length → bindArgs (PySem.W.fnOf x qual (defArgs st) (defBody st) (defScope st) .none kV doc pm an cdv ct) ⟨us, []⟩ = pure (ps.zip us))
    (hbody : ∀ (cdv : Value) (A : Around) (outer : List Env) (s : Shared) (H : Hp) (E : XK), A.guards = some [] → Room k (A.deeper (envOfC qual (defScope st) s.heap.objs.size f cdv)) →
      ∃ t, BX (cxOf (L2.CX P w) P w K mg base N qual (defScope st) f cdv A outer s H E) ⟨K, cl, fun _ => E⟩ (defBody st) t g) : CalG P w K mg base cl (k + 1) x ps (ary ps.length (body m g)) := by
  have G := fn_dlG (m := m) (g := g) F Sc hN fun cdv A outer s H E gd hr => let ⟨t, z⟩ := hbody cdv A outer s H E gd hr; ⟨t, z.p, z.d⟩
  exact ⟨⟨f, fd, ⟨fun vs H Q E h => h.1, fun A outer s H args us vs Q E gd hr he hbd hv hs => G.run A outer s H args us vs Q E gd hr he hbd hv (sp_ary hs)⟩, hm, F.kp, F.binds hb⟩, ary_ok⟩
theorem Cal.kw {lv : Nat} {ff : Nv → Rs Rv} (C : Cal P w K mg base cl lv x ps ff) (F : Fun K x qual st f fd) (hm : mg x = some (.ref f)) (hp : ps ≠ [])
    (h : ∀ (kV doc pm : Value) (an : Option Addr) (cdv ct : Value) (ws : List Value), ws.length = ps.length → bindArgs (PySem.W.fnOf x qual (defArgs st) (defBody st) (defScope st) .none kV doc pm an cdv ct) ⟨[], ks.zip ws⟩ = pure (ps.zip ws.reverse)) : CalR P w K mg base cl lv x ps ks ff :=
  let ⟨oc, od, kV, doc, pm, an, cdv, ct, osl, e, lk, _⟩ := F.ex
  ⟨⟨f, fd, C.any f fd oc od osl hm lk, hm, F.kp, kb_rev F hp h⟩, C.ar⟩
end
section
variable {X : Cx} {K : PySem.W.Frag} {cl : Str → Option Value} {E : XK} {lv : Nat} {x : Str} {ps ks : List Str} {f : Nv → Rs Rv} {e : Expr} {es : List Expr} {kws : List Keyword} {p pos : Pos} {tA : TA} {fA : Nv → Rs (List Ar)}
theorem xcal {k : Nat} (hK : X.K = K) (C : Cal X.prog X.w K X.mg X.base cl lv x ps f) (hr : Room k X.A) (tk : Takes X fun cls d _ H => E cls d H) (hg : Gl X x) (ha : AX X ⟨K, cl, fun _ => E⟩ (e :: es) tA fA) (hl : lv ≤ k := by decide) (hdb : (x == ("__debug__" : Str)) = false := by decide)
    (he : starEach (e :: es) X.env = (false, eval e X.env) :: starEach es X.env := by rfl) (hpl : (backTo pos (starEach es X.env)).any (·.1) = false := by rfl) : EX X ⟨K, cl, fun _ => E⟩ (.Call (.Name x p) (e :: es) [] pos) (tCall (spM K cl ps.length f) [] E tA) (eCall f fA) := by
  subst hK
  obtain ⟨a, fd, F, hm, kp, bd⟩ := C.ex
  exact ⟨pe_call F (hr.mono hl) hg hm kp bd .nil (passes_call tk fun _ _ _ _ h => h) ha.p hdb he hpl, de_call ha.d C.ar fun _ => rfl⟩
theorem ocal {k : Nat} (hK : X.K = K) (C : Cal X.prog X.w K X.mg X.base cl lv x ps f) (hr : Room k X.A) (tk : Takes X fun cls d _ H => E cls d H) (hg : Gl X x) (ha : AX X ⟨K, cl, fun _ => E⟩ (e :: es) tA fA) (hl : lv ≤ k := by decide) (hdb : (x == ("__debug__" : Str)) = false := by decide)
    (he : starEach (e :: es) X.env = (false, eval e X.env) :: starEach es X.env := by rfl) (hpl : (backTo pos (starEach es X.env)).any (·.1) = false := by rfl) : OX X ⟨K, cl, fun _ => E⟩ (.Call (.Name x p) (e :: es) [] pos) (tCall (spM K cl ps.length f) [] E tA) (oCall f fA) := by
  subst hK
  obtain ⟨a, fd, F, hm, kp, bd⟩ := C.ex
  exact ⟨pe_call F (hr.mono hl) hg hm kp bd .nil (passes_call tk fun _ _ _ _ h => h) ha.p hdb he hpl, do_call ha.d C.ar fun _ => rfl⟩
theorem xcalB {k : Nat} (hK : X.K = K) (C : Cal X.prog X.w K X.mg X.base cl lv x ps f) (hr : Room k X.A) (hg : Gl X x) (ha : AX X ⟨K, cl, fun _ _ _ _ => False⟩ (e :: es) tA fA) (hl : lv ≤ k := by decide) (hdb : (x == ("__debug__" : Str)) = false := by decide)
    (he : starEach (e :: es) X.env = (false, eval e X.env) :: starEach es X.env := by rfl) (hpl : (backTo pos (starEach es X.env)).any (·.1) = false := by rfl) : EX X ⟨K, cl, fun _ _ _ _ => False⟩ (.Call (.Name x p) (e :: es) [] pos) (tCall (spM K cl ps.length f) [] E0 tA) (eCall f fA) := by
  subst hK
  obtain ⟨a, fd, F, hm, kp, bd⟩ := C.ex
  exact ⟨pe_call F (hr.mono hl) hg hm kp bd .nil passL ha.p hdb he hpl, de_call ha.d C.ar fun _ => rfl⟩
theorem xcalS {k : Nat} {W : WX} (hK : X.K = K) (C : Cal X.prog X.w K X.mg X.base cl lv x ps f) (hr : Room k X.A) (tk : Takes X W) (hg : Gl X x) (ha : AX X ⟨K, cl, WE W⟩ (e :: es) tA fA) (hl : lv ≤ k := by decide) (hdb : (x == ("__debug__" : Str)) = false := by decide)
    (he : starEach (e :: es) X.env = (false, eval e X.env) :: starEach es X.env := by rfl) (hpl : (backTo pos (starEach es X.env)).any (·.1) = false := by rfl) : EX X ⟨K, cl, WE W⟩ (.Call (.Name x p) (e :: es) [] pos) (tCallS (spM K cl ps.length f) (WE W) tA) (eCall f fA) := by
  subst hK
  obtain ⟨a, fd, F, hm, kp, bd⟩ := C.ex
  exact ⟨pe_callS F (hr.mono hl) hg hm kp bd (fun σ => passAt tk σ) ha.p hdb he hpl, de_callS ha.d C.ar fun _ => rfl⟩
theorem xcalR {k : Nat} (hK : X.K = K) (C : CalR X.prog X.w K X.mg X.base cl lv x ps ks f) (hr : Room k X.A) (tk : Takes X fun cls d _ H => E cls d H) (hg : Gl X x) (ha : KX X ⟨K, cl, fun _ => E⟩ kws tA fA) (hl : lv ≤ k := by decide) (hall : (backToKw pos (keywordEach kws X.env)).all (·.1.isSome) = true := by rfl) (hks : (backToKw pos (keywordEach kws X.env)).filterMap (·.1) = ks := by rfl)
    (hdb : (x == ("__debug__" : Str)) = false := by decide) (hpl : ((backTo pos (starEach [] X.env)).any (·.1) || (backToKw pos (keywordEach kws X.env)).any (·.1.isNone)) = false := by rfl) : EX X ⟨K, cl, fun _ => E⟩ (.Call (.Name x p) [] kws pos) (tCallK (spM K cl ps.length f) gRev E tNil tA) (eCallR f fA) := by
  subst hK
  obtain ⟨a, fd, F, hm, kp, bd⟩ := C.ex
  exact ⟨pe_kw0 F (hr.mono hl) hg hm kp bd (passes_call tk fun _ _ _ _ h => h) ha.p hall hks hdb hpl, de_callR ha.d C.ar fun _ => rfl⟩
theorem xcalG {k : Nat} (hK : X.K = K) (C : CalG X.prog X.w K X.mg X.base cl lv x ps f) (gd : X.A.guards = some []) (hr : Room k X.A) (tk : Takes X fun cls d _ H => E cls d H) (hg : Gl X x) (ha : AX X ⟨K, cl, fun _ => E⟩ (e :: es) tA fA) (hl : lv ≤ k := by decide) (hdb : (x == ("__debug__" : Str)) = false := by decide)
    (he : starEach (e :: es) X.env = (false, eval e X.env) :: starEach es X.env := by rfl) (hpl : (backTo pos (starEach es X.env)).any (·.1) = false := by rfl) : EX X ⟨K, cl, fun _ => E⟩ (.Call (.Name x p) (e :: es) [] pos) (tCall (spM K cl ps.length f) [] E tA) (eCall f fA) := by
  subst hK
  obtain ⟨a, fd, F, hm, kp, bd⟩ := C.ex
  exact ⟨pe_callG F gd (hr.mono hl) hg hm kp bd (passes_call tk fun _ _ _ _ h => h) ha.p hdb he hpl, de_call ha.d C.ar fun _ => rfl⟩
end
end Dl
set_option Elab.async false
set_option linter.all false
set_option maxRecDepth 100000
namespace Dl
open PySem PySem.Spec PyProof.Rows L2
structure Tx (mg : Str → Option Value) : Prop where
  isinstance : mg "isinstance" = none
  int : mg "int" = none
  bool : mg "bool" = none
  str : mg "str" = none
  tuple : mg "tuple" = none
  list : mg "list" = none
  len : mg "len" = none
  range : mg "range" = none
  enumerate : mg "enumerate" = none
  zip : mg "zip" = none
  all : mg "all" = none
  any : mg "any" = none
  sum : mg "sum" = none
  max : mg "max" = none
  min : mg "min" = none
  sorted : mg "sorted" = none
  set : mg "set" = none
section
variable {X : Cx} {c : Cz} {a : Expr} {tA : TA} {fA : Nv → Rs (List Ar)} {p p1 q pos : Pos}
theorem osset (hc : X.calm = true) (T : Tx X.mg) (hg : Gl X "sorted") (hg2 : Gl X "set") (ha : AX X c [a] tA fA) (na : starEach [a] X.env = (false, eval a X.env) :: starEach [] X.env := by rfl)
    (nb : starEach [.Call (.Name "set" p1) [a] [] q] X.env = (false, eval (.Call (.Name "set" p1) [a] [] q) X.env) :: starEach [] X.env := by rfl) (hK : c.K = X.K := by rfl) :
    OX X c (.Call (.Name "sorted" p) [.Call (.Name "set" p1) [a] [] q] [] pos) (tCB (rSortedSet X.w) (tCons (tCB (rSetI c.K X.w) tA) tNil)) (oCb gSetS fA) :=
  ⟨hK ▸ pe_callB (cr_sortedSet hc) hg T.sorted (by decide +kernel) (pa_cons (pe_callTy (cr_setI hc) hg2 T.set (by decide +kernel) ha.p (he := na) (hpl := by rfl)) pa_nil nb) (he := nb) (hpl := by rfl), do_sset ha.d⟩
theorem ossetP {k : Nat} (hr : Room k X.A) (hc : X.calm = true) (T : Tx X.mg) (hg : Gl X "sorted") (hg2 : Gl X "set") (ha : AX X c [a] tA fA) (na : starEach [a] X.env = (false, eval a X.env) :: starEach [] X.env := by rfl)
    (nb : starEach [.Call (.Name "set" p1) [a] [] q] X.env = (false, eval (.Call (.Name "set" p1) [a] [] q) X.env) :: starEach [] X.env := by rfl) (hK : c.K = X.K := by rfl) :
    OX X c (.Call (.Name "sorted" p) [.Call (.Name "set" p1) [a] [] q] [] pos) (tCB (rSortedT c.K X.prog X.w) (tCons (tCB (rSetOfT c.K X.prog X.w) tA) tNil)) (oCb gSetP fA) :=
  ⟨hK ▸ pe_callB (cr_sortedT hc) hg T.sorted (by decide +kernel) (pa_cons (pe_callTy (cr_setOfT hc hr.units) hg2 T.set (by decide +kernel) ha.p (he := na) (hpl := by rfl)) pa_nil nb) (he := nb) (hpl := by rfl), do_ssetP ha.d⟩
end
end Dl
set_option Elab.async false
set_option linter.all false
set_option maxRecDepth 100000
namespace Dl
open PySem PySem.Spec PyProof.Rows L2
structure ExT (P : Program) (w : World) (K : PySem.W.Frag) (mg : Str → Option Value) (base : Heap) (x f g : Str) where
  C : Addr
  fI : Addr
  fd : FuncData
  ps : List Str
  gC : mg x = some (.ref C)
  T : OexC K C
  nf : PySem.W.findIn K (.ref C) f = some none
  ng : PySem.W.findIn K (.ref C) g = some none
  iC : PySem.W.findIn K (.ref C) "__init__" = some (some (.ref fI))
  tI : PySem.W.typeIn K (.ref fI) = some (.type "function")
  F1 : FnOk P w K mg base (L2.CX P w) 1 fI fd ps (spI2 K f g)
  bd : Binds K fd ps []
  xf : XfC K C
  te : PySem.W.exmOne K (.ref C) (.ref C) = some true
section
variable {X : Cx} {K : PySem.W.Frag} {cl : Str → Option Value} {E : XK} {x f g : Str} {e : Expr} {es : List Expr} {p pos pos' : Pos} {tA : TA} {fA : Nv → Rs (List Ar)}
theorem sraise {k : Nat} (hK : X.K = K) (Z : ExT X.prog X.w K X.mg X.base x f g) (hx : cl x = some (.ref Z.C)) (hr : Room k X.A) (tk : Takes X fun cls d _ H => E cls d H) (hc : X.calm = true) (hg : Gl X x) (ha : AX X ⟨K, cl, fun _ => E⟩ (e :: es) tA fA) (hl : 2 ≤ k := by decide)
    (hdb : (x == ("__debug__" : Str)) = false := by decide) (he : starEach (e :: es) X.env = (false, eval e X.env) :: starEach es X.env := by rfl) (hpl : (backTo pos' (starEach es X.env)).any (·.1) = false := by rfl) :
    SX X ⟨K, cl, fun _ => E⟩ (.Raise (some (.Call (.Name x p) (e :: es) [] pos')) none pos) (fun _ σ H => tMkO Z.C (spI2 K f g) [] tA σ H fun cls d H' => E cls d H') (sRaise x f g fA) := by
  subst hK
  exact ⟨ps_raise hc tk (pmk_oex Z.T Z.iC Z.tI Z.F1 (hr.mono hl) Z.bd .nil passL hg Z.gC ha.p hdb he hpl), ds_raise (c := ⟨X.K, cl, fun _ => E⟩) hx Z.T Z.nf Z.ng ha.d⟩
theorem xe_mono {W W' : WX} {u : Value} {s' : Shared} (h : ∀ cls d σ H, W cls d σ H → W' cls d σ H) (z : XE X W u s') : XE X W' u s' := by
  obtain ⟨a, B, sI, pins, σ, H, cls, d, e, I, nb, up, sky, na, os, ag, w⟩ := z
  exact ⟨a, B, sI, pins, σ, H, cls, d, e, I, nb, up, sky, na, os, ag, h _ _ _ _ w⟩
theorem stry2 {n : Str} {body : List Stmt} {np p1 p2 p3 p4 p5 p6 : Pos} {kk : Nat} {tb : WX → TS} {fb : Nv → RS} {EE : Sg → XK} (i : Nat) (hN : X.N.Nodup) (hK : X.K = K) (hs : X.stack = X.env :: X.outer) (hf : X.env.frame = some X.env.locals) (hex : X.ex = []) (Z : ExT X.prog X.w K X.mg X.base x f g) (hx : cl x = some (.ref Z.C)) (hg : Gl X x)
    (hb : ∀ (W : WX) (pn : List (Addr × Obj)) (xe : Value → Shared → Prop), Takes (X.tr pn xe) W → PassesOwn (model X.prog X.w) X.A X.env xe → BX (X.tr pn xe) ⟨K, cl, WE W⟩ body (tb W) fb) (hi : X.N[i]? = some n := by rfl) (hln : X.env.kindOf n = some .local := by rfl) (hdb : (x == ("__debug__" : Str)) = false := by decide)
    (hv : Vis X.env.scope n := by first | exact Or.inl rfl | exact Or.inr (Or.inl rfl) | exact Or.inr (Or.inr rfl)) (hd : (n == ("__debug__" : Str)) = false := by decide) (hcd : (n == ("__classdict__" : Str)) = false := by decide)
    (h1 : attributeBase (.Name n p1) f X.env (eval (.Name n p1) X.env) = eval (.Name n p1) X.env := by rfl) (h2 : attributeBase (.Name n p3) g X.env (eval (.Name n p3) X.env) = eval (.Name n p3) X.env := by rfl)
    (hst : starEach [.Attribute (.Name n p1) f p2, .Attribute (.Name n p3) g p4] X.env = (false, eval (.Attribute (.Name n p1) f p2) X.env) :: starEach [.Attribute (.Name n p3) g p4] X.env := by rfl) (hst2 : starEach [.Attribute (.Name n p3) g p4] X.env = (false, eval (.Attribute (.Name n p3) g p4) X.env) :: starEach [] X.env := by rfl) :
    SX X ⟨K, cl, EE⟩ (.Try body [.ExceptHandler (some (.Name x np)) (some n) [.Return (some (.Tuple [.Attribute (.Name n p1) f p2, .Attribute (.Name n p3) g p4] kk p5)) p6] pos'] [] [] pos)
      (fun D σ H => tb (wAs K (.ref Z.C) i (fun a cls d => tRet (tTup (tCons (tXf a cls d Z.C f (tVar i)) (tCons (tXf a cls d Z.C g (tVar i)) tNil)))) (fun _ _ _ _ => False) D) D σ H) (sTry2 i x f g fb) := by
  subst hK
  refine ⟨?_, ds_try2 (c := ⟨X.K, cl, EE⟩) (f := f) (g := g) (nm := x) hx Z.te fun W => ?_⟩
  · exact ps_try_as (pos := pos) (pos' := pos') (np := np) (i := i) (n := n) (x := x) (body := body) (c := .ref Z.C) (Wout := fun _ _ _ _ => False) (suite := []) (b₀ := .Return (some (.Tuple [.Attribute (.Name n p1) f p2, .Attribute (.Name n p3) g p4] kk p5)) p6)
      hs hf hN hi hln ⟨hg, hdb, .inl Z.gC⟩ takes0 (tb := tb) (fun W pn xe t1 t2 => (hb W pn xe t1 t2).p)
      (ts := fun a cls d => tRet (tTup (tCons (tXf a cls d Z.C f (tVar i)) (tCons (tXf a cls d Z.C g (tVar i)) tNil))))
      (fun a oe cls d pn hz hfl => pss_one (ps_ret (pe_tup (pa_cons (pe_xf Z.xf Z.nf hz hfl (pe_var hi hv hd hcd) h1) (pa_cons (pe_xf Z.xf Z.ng hz hfl (pe_var hi hv hd hcd) h2) pa_nil hst2) hst))))
  · let xe : Value → Shared → Prop := fun e s' => wpAny (model X.prog X.w) X.A (leaving X.env e) (fun _ s'' => L2.CX X.prog X.w X.outer X.H_0 X.s_0 (fun cls d H => ∃ σ, W cls d σ H) e s'') (fun _ _ => True) s'
    have tk : Takes (X.tr [] xe) W := fun u s' z => takes_of (X := X.tr [] xe) (E := fun cls d H => ∃ σ, W cls d σ H) hs hf hex rfl u s' (xe_mono (fun cls d σ H w => ⟨σ, w⟩) z)
    exact (hb W [] xe tk (passes_of (X := X.tr [] xe) rfl)).d
end
theorem _root_.L2.Room.un200 {k : Nat} {A : Around} (h : L2.Room k A) : A.units + 200 < cLine := by have := h.un; omega
theorem mono_tup2 {K : PySem.W.Frag} {k i j : Nat} : ∀ v σ H (Q Q' : Sg → Hp → Prop), (∀ σ' H', Q σ' H' → Q' σ' H') → gTup K k (gCons (gName i) (gCons (gName j) gNil)) v σ H Q → gTup K k (gCons (gName i) (gCons (gName j) gNil)) v σ H Q' := fun v σ H Q Q' h ⟨a, xs, e1, e2, e3, x, r, e4, y, r2, e5, e6, q⟩ => ⟨a, xs, e1, e2, e3, x, r, e4, y, r2, e5, e6, h _ _ q⟩
def gLtT : PD → PD → Option PD
  | .tuple a, .tuple b => match intsOf a, intsOf b with
    | some ns, some ms => some (.bool (HT.lexLt ns ms))
    | _, _ => none
  | _, _ => none
theorem ltT_ok {K : PySem.W.Frag} : BopOk K (rLtT K) gLtT := fun A H Q x y dx dy d na wx wy e k => by
  unfold gLtT at e
  split at e
  · split at e
    · rename_i ns ms e1 e2
      cases e
      obtain ⟨p, vs, rfl, h1, h2⟩ := wx.tup
      obtain ⟨p', us, rfl, g1, g2⟩ := wy.tup
      exact ⟨p, p', ns, ms, rfl, rfl, ints_of h2 e1 ▸ h1, ints_of g2 e2 ▸ g1, k _ H .refl (.bl _)⟩
    · cases e
  · cases e
theorem c_ltT {X : Cx} {c : Cz} {k : Nat} (hr : Room k X.A) (hK : c.K = X.K := by rfl) : CmpX X c .Lt (rLtT c.K) gLtT := ⟨hK ▸ op_ltT hr.units0, ltT_ok⟩
end Dl
set_option Elab.async false
set_option linter.all false
set_option maxRecDepth 100000
namespace Dl
open PySem PySem.Spec PyProof.Rows L2
section
variable {X : Cx} {c : Cz} {e : Expr} {tA : TA} {fA : Nv → Rs (List Ar)} {pos p : Pos}
theorem sappn {x : Str} {apos cpos : Pos} (i : Nat) (hv : EX X c (.Name x p) (tVar i) (eV i)) (ha : AX X c [e] tA fA)
    (hbase : attributeBase (.Name x p) "append" X.env (eval (.Name x p) X.env) = eval (.Name x p) X.env := by rfl)
    (hfew : ((backTo cpos (starEach [e] X.env)).all (fun x => !x.1) && (backToKw cpos (keywordEach [] X.env)).all (fun x => x.1.isSome)
      && decide ([e].length + ([] : List Keyword).length + (if ([] : List Keyword).isEmpty then 0 else 1) < 30)) = true := by rfl)
    (hline : (apos.endLine == cpos.line) = true := by rfl) (hss : starEach [e] X.env = (false, eval e X.env) :: starEach [] X.env := by rfl) (hplain : (backTo cpos (starEach [] X.env)).any (·.1) = false := by rfl)
    (hs : swapsWith (.Call (.Attribute (.Name x p) "append" apos) [e] [] cpos) none pos.line X.env = pure false := by rfl) (hK : c.K = X.K := by rfl) :
    SX X c (.Expr (.Call (.Attribute (.Name x p) "append" apos) [e] [] cpos) pos) (tDrop (tBM c.K "list" rAppend (tVar i) tA)) (sApp i fA) :=
  sapp i hv ha (pe_bm PySem.F.plainAttrs_list PySem.F.slot_list_append PySem.F.type_list_append mt_append hv.p ha.p hbase hfew hline hss hplain) hs hK
end
theorem blkOk_of {N N0 : List Str} {o o0 scope : Scope} {own : List (Str × Nat)} (hN : N = N0) (ho : o = o0) (h : blkC N0 o0 scope own = true) : BlkOk N o scope own := by
  subst hN ho
  exact blkOk_by h
structure DTab (K : PySem.W.Frag) (w : World) (a : Addr) (t : List (Str × PD)) : Prop where
  ex : ∃ es n, KDict K w a es n
  look : ∀ z, (∃ d, t.lookup z = some d ∧ ∃ v u, PySem.W.nsIn K a z = some (some u) ∧ RelV v u ∧ ∀ H A, Dv K H A v d) ∨ (t.lookup z = none ∧ PySem.W.nsIn K a z = some none)
def gTbNin (t : List (Str × PD)) : PD → Option PD
  | .str z => some (.bool (!(t.lookup z).isSome))
  | _ => none
def gTbIx (t : List (Str × PD)) : PD → Option PD
  | .str z => t.lookup z
  | _ => none
def rTbNin (K : PySem.W.Frag) (a : Addr) : R2 := fun x y H Q => ∃ (z : Str) (r : Option Value), x = .str z ∧ y = .ref a ∧ PySem.W.nsIn K a z = some r ∧ Q (.bl (!r.isSome)) H
section
variable {X : Cx} {K : PySem.W.Frag} {cl : Str → Option Value} {E : Sg → XK} {e : Expr} {te : TE} {fe : Nv → Rs Ar} {pos p : Pos} {x : Str} {a : Addr} {t : List (Str × PD)}
theorem xtbnin (hK : X.K = K) (hg : Gl X x) (hm : X.mg x = some (.ref a)) (T : DTab K X.w a t) (h1 : EX X ⟨K, cl, E⟩ e te fe) (hd : (x == ("__debug__" : Str)) = false := by decide) (hb : behindInMarks .NotIn (.Name x p) = false := by first | exact nobehind _ (by decide) (by decide) | rfl) :
    TX X ⟨K, cl, E⟩ (.Compare e [.NotIn] [.Name x p] pos) (tTest (tOp (rTbNin K a) te (tC (.ref a)))) (tVal (eUn (gTbNin t) fe)) := by
  subst hK
  obtain ⟨es, n, D⟩ := T.ex
  refine ⟨pt_cmpR (op_notIn_kd D) h1.p (pe_glob (v := .ref a) hg hm rfl hd) hb, dt_test ?_⟩
  refine (de_un (r := fun x H Q => rTbNin X.K a x (.ref a) H Q) ?_ h1.d : DE _ (tUn _ te) _)
  intro A H Q x dx d na w e k
  unfold gTbNin at e
  split at e
  · rename_i z
    cases e
    obtain rfl := w.str
    rcases T.look z with ⟨d, e1, v, u, e2, _, _⟩ | ⟨e1, e2⟩
    · exact ⟨z, some u, rfl, rfl, e2, k _ H .refl (by rw [e1]; exact .bl _)⟩
    · exact ⟨z, none, rfl, rfl, e2, k _ H .refl (by rw [e1]; exact .bl _)⟩
  · cases e
theorem xtbix (hK : X.K = K) (hg : Gl X x) (hm : X.mg x = some (.ref a)) (T : DTab K X.w a t) (h1 : EX X ⟨K, cl, E⟩ e te fe) (hd : (x == ("__debug__" : Str)) = false := by decide) (hs : PlainIx e := by exact fun _ _ => rfl) :
    EX X ⟨K, cl, E⟩ (.Subscript (.Name x p) e pos) (tOp (rIxD K X.w) (tC (.ref a)) te) (eUn (gTbIx t) fe) := by
  subst hK
  refine ⟨pe_ix ix_kdict (pe_glob (v := .ref a) hg hm rfl hd) h1.p hs, ?_⟩
  refine (de_un (r := fun y H Q => rIxD X.K X.w (.ref a) y H Q) ?_ h1.d : DE _ (tUn _ te) _)
  intro A H Q x dx d na w e k
  unfold gTbIx at e
  split at e
  · rename_i z
    obtain rfl := w.str
    obtain ⟨es, n, D⟩ := T.ex
    rcases T.look z with ⟨d', e1, v, u, e2, r, h⟩ | ⟨e1, e2⟩
    · rw [e1] at e
      cases e
      exact ⟨a, z, v, rfl, rfl, ⟨es, n, u, D.at_, D.lit, e2, r⟩, k _ H .refl (h _ _)⟩
    · rw [e1] at e
      cases e
  · cases e
end
end Dl
set_option Elab.async false
set_option linter.all false
set_option maxRecDepth 100000
namespace Dl
open PySem PySem.Spec PyProof.Rows L2
theorem law_at {P : Program} {w : World} {K : PySem.W.Frag} {mg mb : Str → Option Value} {k : Nat} {fa a : Addr} {x : Str} {sp : Sp} {t : Shared} {us : List Value} {H : Hp}
    (KX : K.In t.heap) (G : t.heap.Ns mainGlobals mg) (B : t.heap.Ns builtinsNs mb) (nb : ∀ y : Str, y ≠ "__name__" → mb y = bootBuiltins y) (nl : t.heap.NoLimit) (ng : t.gens = #[])
    (ha : t.heap.get? a = some { cls := .type "list", data := .seq us.toArray }) (room : Room k callerA)
    (F : ∀ b : Heap, K.In b → b.Ns mainGlobals mg → ∃ fd, FnG P w K mg b (L2.CX P w) k fa fd [x] sp ∧ L2.Binds K fd [x] [])
    (on : Only H) (says : sp [.ref a] H (fun v _ => v = .bl true) fun _ _ _ => False) (hok : HOk P w H t.heap) (at_ : ∀ b, H b ≠ none → b = a) (outK : H a ≠ none → K.lookup a = none)
    (noX : ∀ e s', L2.CX P w [] H t (fun _ _ _ => False) e s' → False) :
    codeAny (model P w) callerA (.call (.ref fa) ⟨[.ref a], []⟩) (fun r s' => r = .ok (.ret (.bool true)) ∧ OldK t.heap s'.heap ∧ s'.os = t.os ∧ AllBare s'.gens) t := by
  have free : ∀ {b : Addr} {o : Obj} {es : Array DictEntry} {ep : Nat}, t.heap.get? b = some o → o.data = .dict es ep → H b = none := fun {b o es ep} e d => Classical.byContradiction fun q => by
    rw [at_ b q, ha] at e
    cases e
    cases (show Data.seq us.toArray _ = Data.dict es ep from d)
  have names : ∀ {b : Addr} {m : Str → Option Value}, t.heap.Ns b m → (hidT t.heap H).Ns b m := fun {b m} ⟨o, es, ep, e, d, r⟩ => ⟨o, es, ep, hidT_get e (free e d), d, r⟩
  have kin : K.In (hidT t.heap H) := fun b o e => hidT_get (KX b o e) (Classical.byContradiction fun q => by
    have eb := at_ b q
    subst eb
    rw [outK q] at e
    cases e)
  obtain ⟨mc, n1, n2⟩ := nl
  have env : Env0 P w K mg (hidT t.heap H) callerA [] t H :=
    ⟨rfl, ⟨kin, names G, ⟨mb, names B, nb⟩, mc, names n1, n2⟩, fun b o e => of_hidT e, Nat.le_of_eq (hidT_size _ _), trivial, fun b hb => (List.not_mem_nil hb).elim, hok, .of_eq ng⟩
  obtain ⟨fd, G1, bd⟩ := F _ kin (names G)
  have run := G1.run callerA [] t H ⟨[.ref a], []⟩ [.ref a] [.ref a] _ _ rfl room env (bd t [.ref a] KX rfl) (.cons rfl .nil) says
  refine codeAny_mono run fun r s' h => ?_
  match r, h with
  | .error e, h => exact (noX e s' h).elim
  | .ok .next, h => exact False.elim h
  | .ok .brk, h => exact False.elim h
  | .ok .cont, h => exact False.elim h
  | .ok (.ret u), h =>
    obtain ⟨v, H', os, bare, un, hok', ru, rfl⟩ := h
    obtain rfl : u = Value.bool true := ru
    refine ⟨rfl, OldK.of_keep fun b o e => ?_, os, bare⟩
    cases q : H b with
    | none => exact un.keep b o e q (fun z => (List.not_mem_nil z).elim) (by simp)
    | some y =>
      rcases on b with z | ⟨ob, xs, z⟩
      · rw [q] at z
        cases z
      · have e1 := (hok b _ z).1
        have e2 := (hok' b _ (un.frzs b ob _ z)).1
        rw [e] at e1
        cases e1
        exact e2
theorem law_callG {P : Program} {w : World} {K : PySem.W.Frag} {mg mb : Str → Option Value} {k : Nat} {fa a : Addr} {x : Str} {sp : Sp} {t : Shared} {us : List Value} {ns : List Int}
    (KX : K.In t.heap) (G : t.heap.Ns mainGlobals mg) (B : t.heap.Ns builtinsNs mb) (nb : ∀ y : Str, y ≠ "__name__" → mb y = bootBuiltins y) (nl : t.heap.NoLimit) (ng : t.gens = #[])
    (ha : t.heap.get? a = some { cls := .type "list", data := .seq us.toArray }) (hi : IntsAre us ns) (hl : ns.length ≤ sizeLine) (room : Room k callerA)
    (F : ∀ b : Heap, K.In b → b.Ns mainGlobals mg → ∃ fd, FnG P w K mg b (L2.CX P w) k fa fd [x] sp ∧ L2.Binds K fd [x] [])
    (says : ∀ H : Hp, Only H → SqL K H a (ns.map V.int) → sp [.ref a] H (fun v _ => v = .bl true) fun _ _ _ => False) (noX : ∀ H e s', L2.CX P w [] H t (fun _ _ _ => False) e s' → False) :
    codeAny (model P w) callerA (.call (.ref fa) ⟨[.ref a], []⟩) (fun r s' => r = .ok (.ret (.bool true)) ∧ OldK t.heap s'.heap ∧ s'.os = t.os ∧ AllBare s'.gens) t := by
  cases q : K.lookup a with
  | some o =>
    have e := KX a o q
    rw [ha] at e
    cases e
    have on : Only fun _ => none := fun _ => .inl rfl
    exact law_at KX G B nb nl ng ha room F on (says _ on (.inr ⟨_, us.toArray, _, q, rfl, rfl, rfl, by rw [List.size_toArray, hi.length]; exact hl, by simpa using vals_ints hi⟩)) (fun b u z => nomatch (show (none : Option HO) = some u from z)) (fun b z => (z rfl).elim) (fun z => (z rfl).elim) (noX _)
  | none =>
    have hd : ∀ {b : Addr} {u : HO}, (if b = a then some (.frz { cls := .type "list", data := .seq us.toArray } (.lst (ns.map V.int))) else none : Option HO) = some u → b = a ∧ u = .frz { cls := .type "list", data := .seq us.toArray } (.lst (ns.map V.int)) := fun {b u} z => by
      split at z
      · cases z
        exact ⟨by assumption, rfl⟩
      · cases z
    have on : Only fun b => if b = a then some (.frz { cls := .type "list", data := .seq us.toArray } (.lst (ns.map V.int))) else none := fun b => by
      by_cases hb : b = a
      · exact .inr ⟨_, _, if_pos hb⟩
      · exact .inl (if_neg hb)
    refine law_at KX G B nb nl ng ha room F on (says _ on (.inl (.inr ⟨_, if_pos rfl⟩))) (fun b u z => ?_) (fun b z => Classical.byContradiction fun hb => z (if_neg hb)) (fun _ => q) (noX _)
    obtain ⟨rfl, rfl⟩ := hd z
    exact ⟨ha, by rw [List.length_map]; exact hl, us, _, vals_ints hi, ha⟩
theorem walk_ofG {l : PySem.W.OpenLaw} {n k : Nat} {q : Program} {loose : List Str} {XP : (Str → Option Value) → Heap → Prop} {YP : World → Heap → Prop} {d : DefRec} {x : Str}
    (hn : l.most = some n) (hn2 : n ≤ sizeLine) (hdf : d.params.defaults = []) (hr : Room k callerA)
    (F : ∀ (w : World) (mg : Str → Option Value) (fa : Addr) (h : Heap), YP w h → h.Ns mainGlobals mg → mg d.name = some (.ref fa) →
      ∃ (K : PySem.W.Frag) (sp : Sp), K.In h ∧ (∀ (H : Hp) (a : Addr) (ns : List Int), ns.length ≤ n → (∀ i ∈ ns, Builtin.Int.intBits i ≤ 1048576) → Only H → SqL K H a (ns.map V.int) → sp [.ref a] H (fun v _ => v = .bl true) fun _ _ _ => False) ∧
        ∀ b : Heap, K.In b → b.Ns mainGlobals mg → ∃ fd, FnG l.prog w K mg b (L2.CX l.prog w) k fa fd [x] sp ∧ L2.Binds K fd [x] [])
    (noX : ∀ (w : World) (H : Hp) (t : Shared) (e : Value) (s' : Shared), L2.CX l.prog w [] H t (fun _ _ _ => False) e s' → False) : PySem.W.WalkO q loose XP YP l.row.toRowW d [] (fun f vs => PySem.call f vs) := by
  refine Att.attach_callB hn hdf fun w s₀ t mg mb fa o pm cd doc a us ns G Y ho hd hcd hmg hobj hints hlen hbits hg => ?_
  obtain ⟨K, sp, KX, hsp, hF⟩ := F w mg fa _ Y G.T.g hmg
  exact law_callG KX G.T.g G.T.b G.T.builtins G.T.nolimit hg hobj hints (Nat.le_trans hlen hn2) hr hF (fun H hO hS => hsp H a ns hlen hbits hO hS) (noX w · t · ·)
end Dl
set_option Elab.async false
set_option linter.all false
set_option maxRecDepth 100000
namespace Dl
open PySem PySem.Spec PyProof.Rows L2
theorem fun_of {K : PySem.W.Frag} {x q : Str} {st : Stmt} {f : Addr} {fd : FuncData} (h : FunD K x q (defArgs st) (defBody st) (defScope st) [] [] f fd) : Fun K x q st f fd := by
  obtain ⟨oc, od, dV, kV, doc, pm, an, cdv, ct, osl, rfl, lk, hc, hd, _⟩ := h.ex
  rcases hd with ⟨_, rfl⟩ | ⟨z, _⟩
  · exact ⟨⟨oc, od, kV, doc, pm, an, cdv, ct, osl, rfl, lk, hc⟩, h.kp⟩
  · exact (z rfl).elim
theorem oexB_ok {K : PySem.W.Frag} {C : Addr} (h : oexB K C = true) : OexC K C := by
  unfold oexB at h
  simp only [Bool.and_eq_true, decide_eq_true_eq] at h
  obtain ⟨⟨⟨⟨h1, h2⟩, h3⟩, h4⟩, h5⟩ := h
  refine ⟨?_, He.eqO_ok h2, h3, h4, h5⟩
  split at h1
  · rename_i t dd cd sl lk
    simp only [Bool.and_eq_true, decide_eq_true_eq] at h1
    obtain ⟨rfl, h1⟩ := h1
    split at h1
    · rename_i c bm k0 k1 k2 k3 n k5 hm hs
      simp only [Bool.and_eq_true, decide_eq_true_eq, Bool.not_eq_true'] at h1
      obtain ⟨⟨⟨⟨rfl, rfl⟩, hd⟩, hl⟩, hv⟩ := h1
      obtain ⟨nm, bs, mro, ns, qn, hd', sn, sub, ab, col, del⟩ := cd
      dsimp only at hm hl hd
      subst hm hl hd
      obtain ⟨l⟩ := sl
      dsimp only at hs
      subst hs
      exact ⟨nm, qn, ns, bs, bm, sn, sub, ab, col, dd, k0, k1, k2, k3, k5, lk, hv⟩
    · cases h1
  · cases h1
def exT_of {P : Program} {w : World} {K : PySem.W.Frag} {mg : Str → Option Value} {base : Heap} {x f g : Str} {fd : FuncData} {ps : List Str} (h : exB K x f g = true) (gC : mg x = some (.ref (He.ga K x)))
    (F1 : FnOk P w K mg base (L2.CX P w) 1 (He.ma K (He.ga K x) "__init__") fd ps (spI2 K f g)) (bd : Binds K fd ps []) : ExT P w K mg base x f g := by
  unfold exB at h
  simp only [Bool.and_eq_true, decide_eq_true_eq] at h
  exact ⟨He.ga K x, He.ma K (He.ga K x) "__init__", fd, ps, gC, oexB_ok h.1.1.1.1.1.1, He.eqO_ok h.1.1.1.1.2, He.eqO_ok h.1.1.1.2, He.eqO_ok h.1.1.2, h.1.2, F1, bd, L2.xfB_ok h.1.1.1.1.1.2, h.2⟩
theorem exT_C {P : Program} {w : World} {K : PySem.W.Frag} {mg : Str → Option Value} {base : Heap} {x f g : Str} {fd : FuncData} {ps : List Str} (h : exB K x f g = true) (gC : mg x = some (.ref (He.ga K x)))
    (F1 : FnOk P w K mg base (L2.CX P w) 1 (He.ma K (He.ga K x) "__init__") fd ps (spI2 K f g)) (bd : Binds K fd ps []) : (exT_of h gC F1 bd).C = He.ga K x := rfl
theorem ok_init2 {P : Program} {w : World} {K : PySem.W.Frag} {mg : Str → Option Value} {base : Heap} {q : Str} {st : Stmt} {C : Addr} {fd : FuncData} {ff g s a b : Str} {p1 p2 p3 p4 p5 p6 p7 p8 : Pos} (F : Fun K "__init__" q st C fd) (Sc : FnScope [s, a, b] [s, a, b] (defScope st))
    (hb : defBody st = [.Assign [.Attribute (.Name s p1) ff p2] (.Name a p3) p4, .Assign [.Attribute (.Name s p5) g p6] (.Name b p7) p8])
    (rs : ∀ x ∈ [s, a, b], (defScope st).names.lookup x = some .local) (hdb : ∀ x ∈ [s, a, b], (x == ("__debug__" : Str)) = false ∧ (x == ("__classdict__" : Str)) = false) :
    FnOk P w K mg base (L2.CX P w) 1 C fd [s, a, b] (spI2 K ff g) := by
  refine F.okX Sc (fun vs H Q E h => ?_) fun cdv A outer sh H vs Q E hr h => ?_
  · obtain ⟨_, _, _, _, rfl, _⟩ := h
    rfl
  · have v : ∀ {p : Pos} (i : Nat) (x : Str), [s, a, b][i]? = some x → PE (cxOf (L2.CX P w) P w K mg base [s, a, b] q (defScope st) C cdv A outer sh H E) (.Name x p) (tVar i) := fun i x e => by
      have m := List.mem_of_getElem? e
      exact pe_var (i := i) e (.inl (rs x m)) (hdb x m).1 (hdb x m).2
    rw [hb]
    refine ⟨_, pss_cons (ps_ost (v 0 s rfl) (v 1 a rfl)) (pss_one (ps_ost (v 0 s rfl) (v 2 b rfl))), ?_⟩
    have e : L2.start [s, a, b] vs = vs.map some := by
      obtain ⟨_, _, _, _, rfl, _⟩ := h
      rfl
    rw [e]
    exact init_read rfl h
theorem nsIn_none {K : PySem.W.Frag} {w : World} {a : Addr} {ks : List Str} (h : He.dicW K a = some (He.keysIn w.params ks)) {z : Str} (hz : z ∉ ks) : PySem.W.nsIn K a z = some none := by
  have gen : ∀ {l : List DictEntry} {ks : List Str}, l.map He.keyOf = He.keysIn w.params ks → z ∉ ks → l.find? (·.key.isStr z) = none ∧ l.any (·.refKey) = false := fun {l} => by
    induction l with
    | nil => exact fun {ks} _ _ => ⟨rfl, rfl⟩
    | cons e r ih =>
      intro ks h hz
      cases ks with
      | nil => cases h
      | cons k ks =>
        have h1 : He.keyOf e :: r.map He.keyOf = some (k, PyData.keyHash w.params k) :: He.keysIn w.params ks := h
        injection h1 with h2 h3
        obtain ⟨i1, i2⟩ := ih h3 fun q => hz (List.mem_cons_of_mem _ q)
        unfold He.keyOf at h2
        split at h2
        · rename_i x t q
          obtain ⟨h5, h6⟩ := Prod.mk.inj (Option.some.inj h2)
          have ne : ¬ x = z := fun y => hz (by rw [← y, h5]; exact List.mem_cons_self)
          have n1 : e.key.isStr z = false := by
            rw [q]
            exact decide_eq_false ne
          have n2 : e.refKey = false := by
            unfold DictEntry.refKey
            rw [q]
          exact ⟨by rw [List.find?_cons, n1]; exact i1, by rw [List.any_cons, n2, i2]; rfl⟩
        · cases h2
  obtain ⟨es, n, D⟩ := He.dicW_ok (w := w) h
  unfold He.dicW at h
  rw [D.at_] at h
  dsimp only at h
  split at h
  · have g := gen (Option.some.inj h) hz
    unfold PySem.W.nsIn
    rw [D.at_]
    dsimp only
    rw [g.1]
    simp [g.2]
  · cases h
theorem dtab_of {K : PySem.W.Frag} {w : World} {a : Addr} {ts : List (Str × Int)} (h : He.dicW K a = some (He.keysIn w.params (ts.map (·.1)))) (hv : He.valsB K a (ts.map fun q => (q.1, He.Dv.int q.2)) = true) : DTab K w a (ts.map fun q => (q.1, PyData.int q.2)) := by
  refine ⟨He.dicW_ok h, fun z => ?_⟩
  have lk : ∀ l : List (Str × Int), (l.map fun q => (q.1, PyData.int q.2)).lookup z = (l.lookup z).map PyData.int := fun l => by
    induction l with
    | nil => rfl
    | cons q r ih =>
      rw [List.map_cons, List.lookup_cons, List.lookup_cons, ih]
      cases z == q.1 <;> rfl
  have mem : ∀ (l : List (Str × Int)) (i : Int), l.lookup z = some i → (z, i) ∈ l := fun l i => by
    induction l with
    | nil => exact fun e => nomatch e
    | cons q r ih =>
      rw [List.lookup_cons]
      cases e : z == q.1 with
      | true =>
        intro y
        cases y
        rw [beq_iff_eq.mp e]
        exact List.mem_cons_self
      | false => exact fun y => List.mem_cons_of_mem _ (ih y)
  have non : ∀ l : List (Str × Int), l.lookup z = none → z ∉ l.map (·.1) := fun l => by
    induction l with
    | nil => exact fun _ m => nomatch m
    | cons q r ih =>
      rw [List.lookup_cons]
      cases e : z == q.1 with
      | true => exact fun y => nomatch y
      | false =>
        intro y m
        rcases List.mem_cons.mp m with m | m
        · rw [m] at e
          simp at e
        · exact ih y m
  rw [lk]
  cases e : ts.lookup z with
  | none => exact .inr ⟨rfl, nsIn_none h (non _ e)⟩
  | some i =>
    obtain ⟨u, h1, h2⟩ := He.valsB_ok hv (q := (z, He.Dv.int i)) (List.mem_map_of_mem (f := fun q : Str × Int => (q.1, He.Dv.int q.2)) (mem _ _ e))
    exact .inl ⟨_, rfl, .int i, u, h1, h2, fun H A => .int i⟩
theorem kdct_of {K : PySem.W.Frag} {w : World} {a : Addr} {kvs : List (Str × He.Dv)} {es : Array DictEntry} {n : Nat} (D : KDict K w a es n) (hv : He.valsB K a kvs = true) {z : Str} {v : He.Dv} (hm : (z, v) ∈ kvs) : KDct K w a z (v.v K) := by
  obtain ⟨u, h1, h2⟩ := He.valsB_ok hv hm
  exact ⟨es, n, u, D.at_, D.lit, h1, h2⟩
theorem tupS_of {K : PySem.W.Frag} {x : Str} {zs : List Str} (h : He.tupB K x (zs.map He.Dv.str) = true) (H : Hp) (A : AS) : Dv K H A (.ref (He.ga K x)) (.tuple (zs.map PyData.str)) := by
  have t := He.tupB_ok h fun _ => none
  have dv : ∀ zs : List Str, DvA K H A ((zs.map He.Dv.str).map (He.Dv.v K)) (zs.map PyData.str) := fun zs => by
    induction zs with
    | nil => exact .nil
    | cons z r ih => exact .cons (.str z) ih
  rcases t with t | t
  · exact (rd_some t rfl).elim
  · exact .tup (.inr t) (dv zs)
end Dl
set_option Elab.async false
set_option linter.all false
set_option maxRecDepth 100000
set_option maxHeartbeats 1000000
namespace K6
open PySem PySem.Spec PyProof.Rows L2 Dl
def c_GRADES : PD := .tuple [.str "all", .str "commuting", .str "same"]
def c_NUMBERS_BEHIND : List (Str × PD) := [("sum", .int 1), ("product", .int 1), ("most", .int 0), ("least", .int 0), ("first", .int 0), ("last", .int 0), ("or", .int 0), ("maps", .int 1), ("grids", .int 2), ("brackets", .int 0), ("spans", .int 0), ("counts", .int 1)]
structure Txt (P : Program) (w : World) (K : PySem.W.Frag) (mg : Str → Option Value) (base : Heap) (cl : Str → Option Value) where
  b : Tx mg
  a_GRADES : Addr
  g_GRADES : mg "GRADES" = some (.ref a_GRADES)
  d_GRADES : ∀ H A, Dv K H A (.ref a_GRADES) c_GRADES
  a_NUMBERS_BEHIND : Addr
  g_NUMBERS_BEHIND : mg "NUMBERS_BEHIND" = some (.ref a_NUMBERS_BEHIND)
  d_NUMBERS_BEHIND : DTab K w a_NUMBERS_BEHIND c_NUMBERS_BEHIND
  x_NotUsable : ExT P w K mg base "NotUsable" "word" "at"
  e_NotUsable : cl "NotUsable" = some (.ref x_NotUsable.C)
end K6
set_option Elab.async false
set_option linter.all false
set_option maxRecDepth 100000
set_option maxHeartbeats 1000000
namespace K6
open PySem PySem.Spec PyProof.Rows L2 Dl
theorem sc_is_integer : FnScope ["thing"] ["thing"] (defScope s_is_integer) := ⟨rfl, rfl, rfl, by decide +kernel, rfl, by decide +kernel, by decide +kernel⟩
def m_is_integer : Nv → RS :=
  (sRet (eAnd (eIsi "int" (eV 0)) (eNot (eIsi "bool" (eV 0)))))
def f_is_integer : Nv → Rs Rv := ary 1 (body 0 (m_is_integer))
theorem ok_is_integer {P : Program} {w : World} {K : PySem.W.Frag} {mg : Str → Option Value} {base : Heap} {cl : Str → Option Value} {f : Addr} {fd : FuncData} (F : Fun K "is_integer" "is_integer" s_is_integer f fd) (hm : mg "is_integer" = some (.ref f)) (T : Txt P w K mg base cl) :
    Cal P w K mg base cl 1 "is_integer" ["thing"] f_is_integer :=
  cal_mk (g := m_is_integer) (m := 0) F hm sc_is_integer rfl (fun _ _ _ _ _ _ us hl => match us, hl with | [_], _ => rfl) fun cdv A outer s H E hr => by
    have tk : Takes (cxOf (L2.CX P w) P w K mg base ["thing"] "is_integer" (defScope s_is_integer) f cdv A outer s H E) (fun cls d _ H => E cls d H) := takes_of rfl rfl rfl rfl
    have po : PassesOwn (model P w) (cxOf (L2.CX P w) P w K mg base ["thing"] "is_integer" (defScope s_is_integer) f cdv A outer s H E).A (cxOf (L2.CX P w) P w K mg base ["thing"] "is_integer" (defScope s_is_integer) f cdv A outer s H E).env (cxOf (L2.CX P w) P w K mg base ["thing"] "is_integer" (defScope s_is_integer) f cdv A outer s H E).xe := passes_of rfl
    let cz : Cz := ⟨K, cl, fun _ => E⟩
    exact ⟨_, (b1 (sret (xand (xisi kit_int rfl T.b.isinstance rfl T.b.int (by decide +kernel) (xv 0)) (xone (xnot (xisi kit_bool rfl T.b.isinstance rfl T.b.bool (by decide +kernel) (xv 0)))))))⟩
theorem sc_is_group : FnScope ["thing", "many"] ["thing", "many"] (defScope s_is_group) := ⟨rfl, rfl, rfl, by decide +kernel, rfl, by decide +kernel, by decide +kernel⟩
def m_is_group : Nv → RS :=
  (sRet (eAnd (eIsi "tuple" (eV 0)) (eBin (gEq false) (eCb gLen (aCons (eV 0) aNil)) (eV 1))))
def f_is_group : Nv → Rs Rv := ary 2 (body 0 (m_is_group))
theorem ok_is_group {P : Program} {w : World} {K : PySem.W.Frag} {mg : Str → Option Value} {base : Heap} {cl : Str → Option Value} {f : Addr} {fd : FuncData} (F : Fun K "is_group" "is_group" s_is_group f fd) (hm : mg "is_group" = some (.ref f)) (T : Txt P w K mg base cl) :
    Cal P w K mg base cl 1 "is_group" ["thing", "many"] f_is_group :=
  cal_mk (g := m_is_group) (m := 0) F hm sc_is_group rfl (fun _ _ _ _ _ _ us hl => match us, hl with | [_, _], _ => rfl) fun cdv A outer s H E hr => by
    have tk : Takes (cxOf (L2.CX P w) P w K mg base ["thing", "many"] "is_group" (defScope s_is_group) f cdv A outer s H E) (fun cls d _ H => E cls d H) := takes_of rfl rfl rfl rfl
    have po : PassesOwn (model P w) (cxOf (L2.CX P w) P w K mg base ["thing", "many"] "is_group" (defScope s_is_group) f cdv A outer s H E).A (cxOf (L2.CX P w) P w K mg base ["thing", "many"] "is_group" (defScope s_is_group) f cdv A outer s H E).env (cxOf (L2.CX P w) P w K mg base ["thing", "many"] "is_group" (defScope s_is_group) f cdv A outer s H E).xe := passes_of rfl
    let cz : Cz := ⟨K, cl, fun _ => E⟩
    exact ⟨_, (b1 (sret (xand (xisi kit_tuple rfl T.b.isinstance rfl T.b.tuple (by decide +kernel) (xv 0)) (xone (xcmp (c_eq hr) (xcb cr_len len_ok rfl T.b.len (by decide +kernel) (a1 (xv 0) a0)) (xv 1))))))⟩
theorem sc__join_sum : FnScope ["operation", "one", "other"] ["operation", "one", "other"] (defScope s__join_sum) := ⟨rfl, rfl, rfl, by decide +kernel, rfl, by decide +kernel, by decide +kernel⟩
def m__join_sum : Nv → RS :=
  (sRet (eBin gMod (eBin gAdd (eV 1) (eV 2)) (eBin gIx (eV 0) (eC (.int 1)))))
def f__join_sum : Nv → Rs Rv := ary 3 (body 0 (m__join_sum))
theorem ok__join_sum {P : Program} {w : World} {K : PySem.W.Frag} {mg : Str → Option Value} {base : Heap} {cl : Str → Option Value} {f : Addr} {fd : FuncData} (F : Fun K "_join_sum" "_join_sum" s__join_sum f fd) (hm : mg "_join_sum" = some (.ref f)) (T : Txt P w K mg base cl) :
    Cal P w K mg base cl 1 "_join_sum" ["operation", "one", "other"] f__join_sum :=
  cal_mk (g := m__join_sum) (m := 0) F hm sc__join_sum rfl (fun _ _ _ _ _ _ us hl => match us, hl with | [_, _, _], _ => rfl) fun cdv A outer s H E hr => by
    have tk : Takes (cxOf (L2.CX P w) P w K mg base ["operation", "one", "other"] "_join_sum" (defScope s__join_sum) f cdv A outer s H E) (fun cls d _ H => E cls d H) := takes_of rfl rfl rfl rfl
    have po : PassesOwn (model P w) (cxOf (L2.CX P w) P w K mg base ["operation", "one", "other"] "_join_sum" (defScope s__join_sum) f cdv A outer s H E).A (cxOf (L2.CX P w) P w K mg base ["operation", "one", "other"] "_join_sum" (defScope s__join_sum) f cdv A outer s H E).env (cxOf (L2.CX P w) P w K mg base ["operation", "one", "other"] "_join_sum" (defScope s__join_sum) f cdv A outer s H E).xe := passes_of rfl
    let cz : Cz := ⟨K, cl, fun _ => E⟩
    exact ⟨_, (b1 (sret (xmod (xadd (xv 1) (xv 2)) (xix (xv 0) xi))))⟩
theorem sc__join_product : FnScope ["operation", "one", "other"] ["operation", "one", "other"] (defScope s__join_product) := ⟨rfl, rfl, rfl, by decide +kernel, rfl, by decide +kernel, by decide +kernel⟩
def m__join_product : Nv → RS :=
  (sRet (eBin gMod (eBin gMul (eV 1) (eV 2)) (eBin gIx (eV 0) (eC (.int 1)))))
def f__join_product : Nv → Rs Rv := ary 3 (body 0 (m__join_product))
theorem ok__join_product {P : Program} {w : World} {K : PySem.W.Frag} {mg : Str → Option Value} {base : Heap} {cl : Str → Option Value} {f : Addr} {fd : FuncData} (F : Fun K "_join_product" "_join_product" s__join_product f fd) (hm : mg "_join_product" = some (.ref f)) (T : Txt P w K mg base cl) :
    Cal P w K mg base cl 1 "_join_product" ["operation", "one", "other"] f__join_product :=
  cal_mk (g := m__join_product) (m := 0) F hm sc__join_product rfl (fun _ _ _ _ _ _ us hl => match us, hl with | [_, _, _], _ => rfl) fun cdv A outer s H E hr => by
    have tk : Takes (cxOf (L2.CX P w) P w K mg base ["operation", "one", "other"] "_join_product" (defScope s__join_product) f cdv A outer s H E) (fun cls d _ H => E cls d H) := takes_of rfl rfl rfl rfl
    have po : PassesOwn (model P w) (cxOf (L2.CX P w) P w K mg base ["operation", "one", "other"] "_join_product" (defScope s__join_product) f cdv A outer s H E).A (cxOf (L2.CX P w) P w K mg base ["operation", "one", "other"] "_join_product" (defScope s__join_product) f cdv A outer s H E).env (cxOf (L2.CX P w) P w K mg base ["operation", "one", "other"] "_join_product" (defScope s__join_product) f cdv A outer s H E).xe := passes_of rfl
    let cz : Cz := ⟨K, cl, fun _ => E⟩
    exact ⟨_, (b1 (sret (xmod (xmul (xv 1) (xv 2)) (xix (xv 0) xi))))⟩
theorem sc__join_most : FnScope ["_", "one", "other"] ["_", "one", "other"] (defScope s__join_most) := ⟨rfl, rfl, rfl, by decide +kernel, rfl, by decide +kernel, by decide +kernel⟩
def m__join_most : Nv → RS :=
  (sRet (eCb gMax2 (aCons (eV 1) (aCons (eV 2) aNil))))
def f__join_most : Nv → Rs Rv := ary 3 (body 0 (m__join_most))
theorem ok__join_most {P : Program} {w : World} {K : PySem.W.Frag} {mg : Str → Option Value} {base : Heap} {cl : Str → Option Value} {f : Addr} {fd : FuncData} (F : Fun K "_join_most" "_join_most" s__join_most f fd) (hm : mg "_join_most" = some (.ref f)) (T : Txt P w K mg base cl) :
    Cal P w K mg base cl 1 "_join_most" ["_", "one", "other"] f__join_most :=
  cal_mk (g := m__join_most) (m := 0) F hm sc__join_most rfl (fun _ _ _ _ _ _ us hl => match us, hl with | [_, _, _], _ => rfl) fun cdv A outer s H E hr => by
    have tk : Takes (cxOf (L2.CX P w) P w K mg base ["_", "one", "other"] "_join_most" (defScope s__join_most) f cdv A outer s H E) (fun cls d _ H => E cls d H) := takes_of rfl rfl rfl rfl
    have po : PassesOwn (model P w) (cxOf (L2.CX P w) P w K mg base ["_", "one", "other"] "_join_most" (defScope s__join_most) f cdv A outer s H E).A (cxOf (L2.CX P w) P w K mg base ["_", "one", "other"] "_join_most" (defScope s__join_most) f cdv A outer s H E).env (cxOf (L2.CX P w) P w K mg base ["_", "one", "other"] "_join_most" (defScope s__join_most) f cdv A outer s H E).xe := passes_of rfl
    let cz : Cz := ⟨K, cl, fun _ => E⟩
    exact ⟨_, (b1 (sret (xcb (call_max2 rfl) max2_ok rfl T.b.max (by decide +kernel) (a1 (xv 1) (a1 (xv 2) a0)))))⟩
theorem sc__join_least : FnScope ["_", "one", "other"] ["_", "one", "other"] (defScope s__join_least) := ⟨rfl, rfl, rfl, by decide +kernel, rfl, by decide +kernel, by decide +kernel⟩
def m__join_least : Nv → RS :=
  (sRet (eCb gMin2 (aCons (eV 1) (aCons (eV 2) aNil))))
def f__join_least : Nv → Rs Rv := ary 3 (body 0 (m__join_least))
theorem ok__join_least {P : Program} {w : World} {K : PySem.W.Frag} {mg : Str → Option Value} {base : Heap} {cl : Str → Option Value} {f : Addr} {fd : FuncData} (F : Fun K "_join_least" "_join_least" s__join_least f fd) (hm : mg "_join_least" = some (.ref f)) (T : Txt P w K mg base cl) :
    Cal P w K mg base cl 1 "_join_least" ["_", "one", "other"] f__join_least :=
  cal_mk (g := m__join_least) (m := 0) F hm sc__join_least rfl (fun _ _ _ _ _ _ us hl => match us, hl with | [_, _, _], _ => rfl) fun cdv A outer s H E hr => by
    have tk : Takes (cxOf (L2.CX P w) P w K mg base ["_", "one", "other"] "_join_least" (defScope s__join_least) f cdv A outer s H E) (fun cls d _ H => E cls d H) := takes_of rfl rfl rfl rfl
    have po : PassesOwn (model P w) (cxOf (L2.CX P w) P w K mg base ["_", "one", "other"] "_join_least" (defScope s__join_least) f cdv A outer s H E).A (cxOf (L2.CX P w) P w K mg base ["_", "one", "other"] "_join_least" (defScope s__join_least) f cdv A outer s H E).env (cxOf (L2.CX P w) P w K mg base ["_", "one", "other"] "_join_least" (defScope s__join_least) f cdv A outer s H E).xe := passes_of rfl
    let cz : Cz := ⟨K, cl, fun _ => E⟩
    exact ⟨_, (b1 (sret (xcb (call_min2 rfl) min2_ok rfl T.b.min (by decide +kernel) (a1 (xv 1) (a1 (xv 2) a0)))))⟩
theorem sc__join_first : FnScope ["_", "one", "other"] ["_", "one", "other"] (defScope s__join_first) := ⟨rfl, rfl, rfl, by decide +kernel, rfl, by decide +kernel, by decide +kernel⟩
def m__join_first : Nv → RS :=
  (sRet (eV 1))
def f__join_first : Nv → Rs Rv := ary 3 (body 0 (m__join_first))
theorem ok__join_first {P : Program} {w : World} {K : PySem.W.Frag} {mg : Str → Option Value} {base : Heap} {cl : Str → Option Value} {f : Addr} {fd : FuncData} (F : Fun K "_join_first" "_join_first" s__join_first f fd) (hm : mg "_join_first" = some (.ref f)) (T : Txt P w K mg base cl) :
    Cal P w K mg base cl 1 "_join_first" ["_", "one", "other"] f__join_first :=
  cal_mk (g := m__join_first) (m := 0) F hm sc__join_first rfl (fun _ _ _ _ _ _ us hl => match us, hl with | [_, _, _], _ => rfl) fun cdv A outer s H E hr => by
    have tk : Takes (cxOf (L2.CX P w) P w K mg base ["_", "one", "other"] "_join_first" (defScope s__join_first) f cdv A outer s H E) (fun cls d _ H => E cls d H) := takes_of rfl rfl rfl rfl
    have po : PassesOwn (model P w) (cxOf (L2.CX P w) P w K mg base ["_", "one", "other"] "_join_first" (defScope s__join_first) f cdv A outer s H E).A (cxOf (L2.CX P w) P w K mg base ["_", "one", "other"] "_join_first" (defScope s__join_first) f cdv A outer s H E).env (cxOf (L2.CX P w) P w K mg base ["_", "one", "other"] "_join_first" (defScope s__join_first) f cdv A outer s H E).xe := passes_of rfl
    let cz : Cz := ⟨K, cl, fun _ => E⟩
    exact ⟨_, (b1 (sret (xv 1)))⟩
theorem sc__join_last : FnScope ["_", "one", "other"] ["_", "one", "other"] (defScope s__join_last) := ⟨rfl, rfl, rfl, by decide +kernel, rfl, by decide +kernel, by decide +kernel⟩
def m__join_last : Nv → RS :=
  (sRet (eV 2))
def f__join_last : Nv → Rs Rv := ary 3 (body 0 (m__join_last))
theorem ok__join_last {P : Program} {w : World} {K : PySem.W.Frag} {mg : Str → Option Value} {base : Heap} {cl : Str → Option Value} {f : Addr} {fd : FuncData} (F : Fun K "_join_last" "_join_last" s__join_last f fd) (hm : mg "_join_last" = some (.ref f)) (T : Txt P w K mg base cl) :
    Cal P w K mg base cl 1 "_join_last" ["_", "one", "other"] f__join_last :=
  cal_mk (g := m__join_last) (m := 0) F hm sc__join_last rfl (fun _ _ _ _ _ _ us hl => match us, hl with | [_, _, _], _ => rfl) fun cdv A outer s H E hr => by
    have tk : Takes (cxOf (L2.CX P w) P w K mg base ["_", "one", "other"] "_join_last" (defScope s__join_last) f cdv A outer s H E) (fun cls d _ H => E cls d H) := takes_of rfl rfl rfl rfl
    have po : PassesOwn (model P w) (cxOf (L2.CX P w) P w K mg base ["_", "one", "other"] "_join_last" (defScope s__join_last) f cdv A outer s H E).A (cxOf (L2.CX P w) P w K mg base ["_", "one", "other"] "_join_last" (defScope s__join_last) f cdv A outer s H E).env (cxOf (L2.CX P w) P w K mg base ["_", "one", "other"] "_join_last" (defScope s__join_last) f cdv A outer s H E).xe := passes_of rfl
    let cz : Cz := ⟨K, cl, fun _ => E⟩
    exact ⟨_, (b1 (sret (xv 2)))⟩
theorem sc__join_or : FnScope ["_", "one", "other"] ["_", "one", "other"] (defScope s__join_or) := ⟨rfl, rfl, rfl, by decide +kernel, rfl, by decide +kernel, by decide +kernel⟩
def m__join_or : Nv → RS :=
  (sRet (eBin gOr (eV 1) (eV 2)))
def f__join_or : Nv → Rs Rv := ary 3 (body 0 (m__join_or))
theorem ok__join_or {P : Program} {w : World} {K : PySem.W.Frag} {mg : Str → Option Value} {base : Heap} {cl : Str → Option Value} {f : Addr} {fd : FuncData} (F : Fun K "_join_or" "_join_or" s__join_or f fd) (hm : mg "_join_or" = some (.ref f)) (T : Txt P w K mg base cl) :
    Cal P w K mg base cl 1 "_join_or" ["_", "one", "other"] f__join_or :=
  cal_mk (g := m__join_or) (m := 0) F hm sc__join_or rfl (fun _ _ _ _ _ _ us hl => match us, hl with | [_, _, _], _ => rfl) fun cdv A outer s H E hr => by
    have tk : Takes (cxOf (L2.CX P w) P w K mg base ["_", "one", "other"] "_join_or" (defScope s__join_or) f cdv A outer s H E) (fun cls d _ H => E cls d H) := takes_of rfl rfl rfl rfl
    have po : PassesOwn (model P w) (cxOf (L2.CX P w) P w K mg base ["_", "one", "other"] "_join_or" (defScope s__join_or) f cdv A outer s H E).A (cxOf (L2.CX P w) P w K mg base ["_", "one", "other"] "_join_or" (defScope s__join_or) f cdv A outer s H E).env (cxOf (L2.CX P w) P w K mg base ["_", "one", "other"] "_join_or" (defScope s__join_or) f cdv A outer s H E).xe := passes_of rfl
    let cz : Cz := ⟨K, cl, fun _ => E⟩
    exact ⟨_, (b1 (sret (xbor (xv 1) (xv 2))))⟩
theorem sc__join_maps : FnScope ["_", "one", "other", "at"] ["_", "one", "other"] (defScope s__join_maps) := ⟨rfl, rfl, rfl, by decide +kernel, rfl, by decide +kernel, by decide +kernel⟩
def m__join_maps : Nv → RS :=
  (sRet (eCb gTupOf (aCons (eOf (oComp [3] (iT (eV 1)) (gN 3) fYes (eBin gIx (eV 2) (eV 3)))) aNil)))
def f__join_maps : Nv → Rs Rv := ary 3 (body 1 (m__join_maps))
theorem ok__join_maps {P : Program} {w : World} {K : PySem.W.Frag} {mg : Str → Option Value} {base : Heap} {cl : Str → Option Value} {f : Addr} {fd : FuncData} (F : Fun K "_join_maps" "_join_maps" s__join_maps f fd) (hm : mg "_join_maps" = some (.ref f)) (T : Txt P w K mg base cl) :
    Cal P w K mg base cl 1 "_join_maps" ["_", "one", "other"] f__join_maps :=
  cal_mk (g := m__join_maps) (m := 1) F hm sc__join_maps rfl (fun _ _ _ _ _ _ us hl => match us, hl with | [_, _, _], _ => rfl) fun cdv A outer s H E hr => by
    have tk : Takes (cxOf (L2.CX P w) P w K mg base ["_", "one", "other", "at"] "_join_maps" (defScope s__join_maps) f cdv A outer s H E) (fun cls d _ H => E cls d H) := takes_of rfl rfl rfl rfl
    have po : PassesOwn (model P w) (cxOf (L2.CX P w) P w K mg base ["_", "one", "other", "at"] "_join_maps" (defScope s__join_maps) f cdv A outer s H E).A (cxOf (L2.CX P w) P w K mg base ["_", "one", "other", "at"] "_join_maps" (defScope s__join_maps) f cdv A outer s H E).env (cxOf (L2.CX P w) P w K mg base ["_", "one", "other", "at"] "_join_maps" (defScope s__join_maps) f cdv A outer s H E).xe := passes_of rfl
    let cz : Cz := ⟨K, cl, fun _ => E⟩
    exact ⟨_, (b1 (sret (xct call_tuple_of tupOf_ok rfl T.b.tuple (by decide +kernel) (a1 (xof (ocomp (own := [("at", 3)]) rfl sc__join_maps.nd (itup (xv 1)) (blkOk_of (N0 := ["_", "one", "other", "at"]) (o0 := defScope s__join_maps) rfl rfl (by decide +kernel)) (gin_name (by decide)) mono_name (fun _ _ _ _ _ => (gx 3 sc__join_maps.nd)) (fun _ _ _ _ _ => t0) (fun _ _ _ _ _ => (xix (xv 2) (xv 3))) s H)) a0))))⟩
theorem sc__cell : FnScope ["row", "column", "modulus", "left", "right"] ["row", "column", "modulus"] (defScope s__cell) := ⟨rfl, rfl, rfl, by decide +kernel, rfl, by decide +kernel, by decide +kernel⟩
def m__cell : Nv → RS :=
  (sRet (eBin gMod (eCb gSum (aCons (eOf (oComp [3, 4] (iZp (aCons (eV 0) (aCons (eV 1) aNil))) (gT 2 (gsC (gN 3) (gsC (gN 4) gsN))) fYes (eBin gMul (eV 3) (eV 4)))) aNil)) (eV 2)))
def f__cell : Nv → Rs Rv := ary 3 (body 2 (m__cell))
theorem ok__cell {P : Program} {w : World} {K : PySem.W.Frag} {mg : Str → Option Value} {base : Heap} {cl : Str → Option Value} {f : Addr} {fd : FuncData} (F : Fun K "_cell" "_cell" s__cell f fd) (hm : mg "_cell" = some (.ref f)) (T : Txt P w K mg base cl) :
    Cal P w K mg base cl 1 "_cell" ["row", "column", "modulus"] f__cell :=
  cal_mk (g := m__cell) (m := 2) F hm sc__cell rfl (fun _ _ _ _ _ _ us hl => match us, hl with | [_, _, _], _ => rfl) fun cdv A outer s H E hr => by
    have tk : Takes (cxOf (L2.CX P w) P w K mg base ["row", "column", "modulus", "left", "right"] "_cell" (defScope s__cell) f cdv A outer s H E) (fun cls d _ H => E cls d H) := takes_of rfl rfl rfl rfl
    have po : PassesOwn (model P w) (cxOf (L2.CX P w) P w K mg base ["row", "column", "modulus", "left", "right"] "_cell" (defScope s__cell) f cdv A outer s H E).A (cxOf (L2.CX P w) P w K mg base ["row", "column", "modulus", "left", "right"] "_cell" (defScope s__cell) f cdv A outer s H E).env (cxOf (L2.CX P w) P w K mg base ["row", "column", "modulus", "left", "right"] "_cell" (defScope s__cell) f cdv A outer s H E).xe := passes_of rfl
    let cz : Cz := ⟨K, cl, fun _ => E⟩
    exact ⟨_, (b1 (sret (xmod (xcb (cr_sum rfl) sum_ok rfl T.b.sum (by decide +kernel) (a1 (xof (ocomp (own := [("left", 3), ("right", 4)]) rfl sc__cell.nd (izip rfl T.b.zip (a1 (xv 0) (a1 (xv 1) a0))) (blkOk_of (N0 := ["row", "column", "modulus", "left", "right"]) (o0 := defScope s__cell) rfl rfl (by decide +kernel)) (gin_tup (gsin_cons (gin_name (by decide)) mono_name (gsin_cons (gin_name (by decide)) mono_name gsin_nil))) mono_tup2 (fun _ _ _ _ _ => (gtup rfl (gs1 (gx 3 sc__cell.nd) (gs1 (gx 4 sc__cell.nd) gs0)))) (fun _ _ _ _ _ => t0) (fun _ _ _ _ _ => (xmul (xv 3) (xv 4))) s H)) a0)) (xv 2))))⟩
theorem sc__join_brackets : FnScope ["_", "one", "other", "met"] ["_", "one", "other"] (defScope s__join_brackets) := ⟨rfl, rfl, rfl, by decide +kernel, rfl, by decide +kernel, by decide +kernel⟩
def m__join_brackets : Nv → RS :=
  (sSeq (sSet 3 (eCb gMin2 (aCons (eBin gIx (eV 1) (eC (.int 1))) (aCons (eBin gIx (eV 2) (eC (.int 0))) aNil))))
    (sRet (eTup (aCons (eBin Dl.gSub (eBin gAdd (eBin gIx (eV 1) (eC (.int 0))) (eBin gIx (eV 2) (eC (.int 0)))) (eV 3)) (aCons (eBin Dl.gSub (eBin gAdd (eBin gIx (eV 1) (eC (.int 1))) (eBin gIx (eV 2) (eC (.int 1)))) (eV 3)) aNil)))))
def f__join_brackets : Nv → Rs Rv := ary 3 (body 1 (m__join_brackets))
theorem ok__join_brackets {P : Program} {w : World} {K : PySem.W.Frag} {mg : Str → Option Value} {base : Heap} {cl : Str → Option Value} {f : Addr} {fd : FuncData} (F : Fun K "_join_brackets" "_join_brackets" s__join_brackets f fd) (hm : mg "_join_brackets" = some (.ref f)) (T : Txt P w K mg base cl) :
    Cal P w K mg base cl 1 "_join_brackets" ["_", "one", "other"] f__join_brackets :=
  cal_mk (g := m__join_brackets) (m := 1) F hm sc__join_brackets rfl (fun _ _ _ _ _ _ us hl => match us, hl with | [_, _, _], _ => rfl) fun cdv A outer s H E hr => by
    have tk : Takes (cxOf (L2.CX P w) P w K mg base ["_", "one", "other", "met"] "_join_brackets" (defScope s__join_brackets) f cdv A outer s H E) (fun cls d _ H => E cls d H) := takes_of rfl rfl rfl rfl
    have po : PassesOwn (model P w) (cxOf (L2.CX P w) P w K mg base ["_", "one", "other", "met"] "_join_brackets" (defScope s__join_brackets) f cdv A outer s H E).A (cxOf (L2.CX P w) P w K mg base ["_", "one", "other", "met"] "_join_brackets" (defScope s__join_brackets) f cdv A outer s H E).env (cxOf (L2.CX P w) P w K mg base ["_", "one", "other", "met"] "_join_brackets" (defScope s__join_brackets) f cdv A outer s H E).xe := passes_of rfl
    let cz : Cz := ⟨K, cl, fun _ => E⟩
    exact ⟨_, (bc (sset 3 sc__join_brackets.nd (xcb (call_min2 rfl) min2_ok rfl T.b.min (by decide +kernel) (a1 (xix (xv 1) xi) (a1 (xix (xv 2) xi) a0))))
      (b1 (sret (xtup (a1 (xsub (xadd (xix (xv 1) xi) (xix (xv 2) xi)) (xv 3)) (a1 (xsub (xadd (xix (xv 1) xi) (xix (xv 2) xi)) (xv 3)) a0))))))⟩
theorem sc__join_spans : FnScope ["_", "one", "other"] ["_", "one", "other"] (defScope s__join_spans) := ⟨rfl, rfl, rfl, by decide +kernel, rfl, by decide +kernel, by decide +kernel⟩
def m__join_spans : Nv → RS :=
  (sSeq (sIf (tOrF (tVal (eIsN false (eV 1))) (tOrF (tVal (eIsN false (eV 2))) (tVal (eBin (gEq true) (eBin gIx (eV 1) (eC (.int 1))) (eBin gIx (eV 2) (eC (.int 0))))))) (sRet (eC .none)) sNext)
    (sRet (eTup (aCons (eBin gIx (eV 1) (eC (.int 0))) (aCons (eBin gIx (eV 2) (eC (.int 1))) aNil)))))
def f__join_spans : Nv → Rs Rv := ary 3 (body 0 (m__join_spans))
theorem ok__join_spans {P : Program} {w : World} {K : PySem.W.Frag} {mg : Str → Option Value} {base : Heap} {cl : Str → Option Value} {f : Addr} {fd : FuncData} (F : Fun K "_join_spans" "_join_spans" s__join_spans f fd) (hm : mg "_join_spans" = some (.ref f)) (T : Txt P w K mg base cl) :
    Cal P w K mg base cl 1 "_join_spans" ["_", "one", "other"] f__join_spans :=
  cal_mk (g := m__join_spans) (m := 0) F hm sc__join_spans rfl (fun _ _ _ _ _ _ us hl => match us, hl with | [_, _, _], _ => rfl) fun cdv A outer s H E hr => by
    have tk : Takes (cxOf (L2.CX P w) P w K mg base ["_", "one", "other"] "_join_spans" (defScope s__join_spans) f cdv A outer s H E) (fun cls d _ H => E cls d H) := takes_of rfl rfl rfl rfl
    have po : PassesOwn (model P w) (cxOf (L2.CX P w) P w K mg base ["_", "one", "other"] "_join_spans" (defScope s__join_spans) f cdv A outer s H E).A (cxOf (L2.CX P w) P w K mg base ["_", "one", "other"] "_join_spans" (defScope s__join_spans) f cdv A outer s H E).env (cxOf (L2.CX P w) P w K mg base ["_", "one", "other"] "_join_spans" (defScope s__join_spans) f cdv A outer s H E).xe := passes_of rfl
    let cz : Cz := ⟨K, cl, fun _ => E⟩
    exact ⟨_, (bc (sif (xtw (wor (xtisn (xv 1)) (wor (xtisn (xv 2)) (wor1 (xtcmp (c_ne hr) (xix (xv 1) xi) (xix (xv 2) xi)))))) (b1 (sret xn)) b0)
      (b1 (sret (xtup (a1 (xix (xv 1) xi) (a1 (xix (xv 2) xi) a0))))))⟩
theorem sc__join_counts : FnScope ["_", "one", "other", "left", "right"] ["_", "one", "other"] (defScope s__join_counts) := ⟨rfl, rfl, rfl, by decide +kernel, rfl, by decide +kernel, by decide +kernel⟩
def m__join_counts : Nv → RS :=
  (sRet (eCb gTupOf (aCons (eOf (oComp [3, 4] (iZp (aCons (eV 1) (aCons (eV 2) aNil))) (gT 2 (gsC (gN 3) (gsC (gN 4) gsN))) fYes (eBin gAdd (eV 3) (eV 4)))) aNil)))
def f__join_counts : Nv → Rs Rv := ary 3 (body 2 (m__join_counts))
theorem ok__join_counts {P : Program} {w : World} {K : PySem.W.Frag} {mg : Str → Option Value} {base : Heap} {cl : Str → Option Value} {f : Addr} {fd : FuncData} (F : Fun K "_join_counts" "_join_counts" s__join_counts f fd) (hm : mg "_join_counts" = some (.ref f)) (T : Txt P w K mg base cl) :
    Cal P w K mg base cl 1 "_join_counts" ["_", "one", "other"] f__join_counts :=
  cal_mk (g := m__join_counts) (m := 2) F hm sc__join_counts rfl (fun _ _ _ _ _ _ us hl => match us, hl with | [_, _, _], _ => rfl) fun cdv A outer s H E hr => by
    have tk : Takes (cxOf (L2.CX P w) P w K mg base ["_", "one", "other", "left", "right"] "_join_counts" (defScope s__join_counts) f cdv A outer s H E) (fun cls d _ H => E cls d H) := takes_of rfl rfl rfl rfl
    have po : PassesOwn (model P w) (cxOf (L2.CX P w) P w K mg base ["_", "one", "other", "left", "right"] "_join_counts" (defScope s__join_counts) f cdv A outer s H E).A (cxOf (L2.CX P w) P w K mg base ["_", "one", "other", "left", "right"] "_join_counts" (defScope s__join_counts) f cdv A outer s H E).env (cxOf (L2.CX P w) P w K mg base ["_", "one", "other", "left", "right"] "_join_counts" (defScope s__join_counts) f cdv A outer s H E).xe := passes_of rfl
    let cz : Cz := ⟨K, cl, fun _ => E⟩
    exact ⟨_, (b1 (sret (xct call_tuple_of tupOf_ok rfl T.b.tuple (by decide +kernel) (a1 (xof (ocomp (own := [("left", 3), ("right", 4)]) rfl sc__join_counts.nd (izip rfl T.b.zip (a1 (xv 1) (a1 (xv 2) a0))) (blkOk_of (N0 := ["_", "one", "other", "left", "right"]) (o0 := defScope s__join_counts) rfl rfl (by decide +kernel)) (gin_tup (gsin_cons (gin_name (by decide)) mono_name (gsin_cons (gin_name (by decide)) mono_name gsin_nil))) mono_tup2 (fun _ _ _ _ _ => (gtup rfl (gs1 (gx 3 sc__join_counts.nd) (gs1 (gx 4 sc__join_counts.nd) gs0)))) (fun _ _ _ _ _ => t0) (fun _ _ _ _ _ => (xadd (xv 3) (xv 4))) s H)) a0))))⟩
theorem at0 {α : Type} {x : α} {xs : List α} : atI (x :: xs) 0 = some x := by simp [atI, ixN]
theorem sc_joined : FnScope ["operation", "one", "other", "joining"] ["operation", "one", "other"] (defScope s_joined) := ⟨rfl, rfl, rfl, by decide +kernel, rfl, by decide +kernel, by decide +kernel⟩
def j_joined (z : Str) : Option (Nv → Rs Rv) := if z = "spans" then some f__join_spans else if z = "counts" then some f__join_counts else if z = "or" then some f__join_or else none
def f_joined : Nv → Rs Rv := ary 3 fun n => match n with
  | .im (.tuple (.str z :: _)) :: _ => match j_joined z with
    | some g => g n
    | none => none
  | _ => none
structure JnT (P : Program) (w : World) (K : PySem.W.Frag) (mg : Str → Option Value) (base : Heap) (cl : Str → Option Value) where
  aJ : Addr
  gJ : mg "JOINING" = some (.ref aJ)
  j : ∀ z g, j_joined z = some g → ∃ a fd ps, KDct K w aJ z (.ref a) ∧ ps.length = 3 ∧ FnOk P w K mg base (L2.CX P w) 1 a fd ps (spM K cl 3 g) ∧ PySem.W.keepIn K (.ref a) = true ∧ Binds K fd ps []
theorem ok_joined {P : Program} {w : World} {K : PySem.W.Frag} {mg : Str → Option Value} {base : Heap} {cl : Str → Option Value} {f : Addr} {fd : FuncData} (F : Fun K "joined" "joined" s_joined f fd) (hm : mg "joined" = some (.ref f)) (J : JnT P w K mg base cl) :
    Cal P w K mg base cl 2 "joined" ["operation", "one", "other"] f_joined := by
  suffices H : FnOk P w K mg base (L2.CX P w) 2 f fd ["operation", "one", "other"] (spM K cl 3 f_joined) from ⟨⟨f, fd, H, hm, F.kp, F.binds (fun _ _ _ _ _ _ us hl => match us, hl with | [_, _, _], _ => rfl)⟩, ary_ok, F.only hm H⟩
  refine F.okX sc_joined (fun vs H Q E h => h.1) fun cdv A outer s H vs Q E hr hsp => ?_
  have tk : Takes (cxOf (L2.CX P w) P w K mg base ["operation", "one", "other", "joining"] "joined" (defScope s_joined) f cdv A outer s H E) (fun cls d _ H => E cls d H) := takes_of rfl rfl rfl rfl
  obtain ⟨hl, S, as, R, sub, nf, hf⟩ := hsp
  match vs, hl with
  | [v0, v1, v2], _ =>
  have al : as.length = 3 := by simpa using R.len
  have key : ∃ z g ds, as[0]? = some (.im (.tuple (.str z :: ds))) ∧ j_joined z = some g ∧ f_joined as = g as := by
    match as, al with
    | [a0, a1, a2], _ =>
    unfold f_joined ary at hf ⊢
    simp only [List.length_cons, List.length_nil, ite_true] at hf ⊢
    split at hf
    · rename_i z ds r he
      cases he
      split at hf
      · rename_i g hg
        refine ⟨z, g, ds, rfl, hg, ?_⟩
        simp only [hg]
      · exact hf.elim
    · exact hf.elim
  obtain ⟨z, g, ds, e0, hg, ef⟩ := key
  rw [ef] at hf
  obtain ⟨a, fdj, ps, kd, hp, FJ, kp, bd⟩ := J.j z g hg
  obtain ⟨v, hv0, dv⟩ := R.im 0 _ e0
  cases hv0
  obtain ⟨p, xs, rfl, hq, hx⟩ := (show Dw K H (AV S _ as) v0 _ from .inl dv).tup
  match xs, hx with
  | _ :: xs, .cons (.str _) _ =>
  refine ⟨_, pss_cons (ps_set (i := 3) sc_joined.nd rfl (.inl rfl) (pe_ix ix_kdict (pe_glob (v := .ref J.aJ) rfl J.gJ rfl (by decide)) (pe_ix ix_seq (pe_var (i := 0) rfl (.inl rfl) (by decide) (by decide)) pe_int (fun _ _ => rfl)) (fun _ _ => rfl)))
    (pss_one (ps_ret (pe_callL (i := 3) FJ hr rfl (.inl rfl) kp bd .nil (passes_call tk fun _ _ _ _ h => h)
      (pa_cons (pe_var (i := 0) rfl (.inl rfl) (by decide) (by decide)) (pa_cons (pe_var (i := 1) rfl (.inl rfl) (by decide) (by decide)) (pa_cons (pe_var (i := 2) rfl (.inl rfl) (by decide) (by decide)) pa_nil rfl) rfl) rfl)))), ?_⟩
  refine ⟨_, rfl, .inr (.inl ⟨p, _, 0, .str z, rfl, rfl, hq, at0, ?_⟩)⟩
  refine ⟨J.aJ, z, .ref a, rfl, rfl, kd, ?_⟩
  refine ⟨rfl, _, rfl, _, rfl, _, rfl, ?_⟩
  show spM K cl 3 g [.ref p, v1, v2] H Q E
  exact ⟨rfl, S, as, R, sub, nf, hf⟩
theorem sc__idle_maps : FnScope ["many"] ["many"] (defScope s__idle_maps) := ⟨rfl, rfl, rfl, by decide +kernel, rfl, by decide +kernel, by decide +kernel⟩
def m__idle_maps : Nv → RS :=
  (sSeq (sIf (tVal (eBin (gEq false) (eV 0) (eC (.int 1)))) (sRet (eC .none)) sNext)
    (sRet (eTup (aCons (eTupRg1 (eV 0)) (aCons (eBin gMul (eTup (aCons (eC (.int 0)) aNil)) (eV 0)) aNil)))))
def f__idle_maps : Nv → Rs Rv := ary 1 (body 0 (m__idle_maps))
theorem ok__idle_maps {P : Program} {w : World} {K : PySem.W.Frag} {mg : Str → Option Value} {base : Heap} {cl : Str → Option Value} {f : Addr} {fd : FuncData} (F : Fun K "_idle_maps" "_idle_maps" s__idle_maps f fd) (hm : mg "_idle_maps" = some (.ref f)) (T : Txt P w K mg base cl) :
    Cal P w K mg base cl 1 "_idle_maps" ["many"] f__idle_maps :=
  cal_mk (g := m__idle_maps) (m := 0) F hm sc__idle_maps rfl (fun _ _ _ _ _ _ us hl => match us, hl with | [_], _ => rfl) fun cdv A outer s H E hr => by
    have tk : Takes (cxOf (L2.CX P w) P w K mg base ["many"] "_idle_maps" (defScope s__idle_maps) f cdv A outer s H E) (fun cls d _ H => E cls d H) := takes_of rfl rfl rfl rfl
    have po : PassesOwn (model P w) (cxOf (L2.CX P w) P w K mg base ["many"] "_idle_maps" (defScope s__idle_maps) f cdv A outer s H E).A (cxOf (L2.CX P w) P w K mg base ["many"] "_idle_maps" (defScope s__idle_maps) f cdv A outer s H E).env (cxOf (L2.CX P w) P w K mg base ["many"] "_idle_maps" (defScope s__idle_maps) f cdv A outer s H E).xe := passes_of rfl
    let cz : Cz := ⟨K, cl, fun _ => E⟩
    exact ⟨_, (bc (sif (xtcmp (c_eq hr) (xv 0) xi) (b1 (sret xn)) b0)
      (b1 (sret (xtup (a1 (xtrng1 rfl rfl T.b.tuple rfl T.b.range (xv 0)) (a1 (xmul (xtup (a1 xi a0)) (xv 0)) a0))))))⟩
theorem sc__idle_grids : FnScope ["many", "modulus", "unit", "row", "column"] ["many", "modulus"] (defScope s__idle_grids) := ⟨rfl, rfl, rfl, by decide +kernel, rfl, by decide +kernel, by decide +kernel⟩
def m__idle_grids : Nv → RS :=
  (sSeq (sIf (tVal (eBin (gEq false) (eV 1) (eC (.int 1)))) (sRet (eC .none)) sNext)
    (sSeq (sSet 2 (eCb gTupOf (aCons (eOf (oComp [3] (iR1 (aCons (eV 0) aNil)) (gN 3) fYes (eCb gTupOf (aCons (eOf (oComp [4] (iR1 (aCons (eV 0) aNil)) (gN 4) fYes (eIf (tVal (eBin (gEq false) (eV 3) (eV 4))) (eC (.int 1)) (eC (.int 0))))) aNil)))) aNil)))
    (sRet (eTup (aCons (eV 2) (aCons (eBin gMul (eTup (aCons (eBin gMul (eTup (aCons (eC (.int 0)) aNil)) (eV 0)) aNil)) (eV 0)) aNil))))))
def f__idle_grids : Nv → Rs Rv := ary 2 (body 3 (m__idle_grids))
theorem ok__idle_grids {P : Program} {w : World} {K : PySem.W.Frag} {mg : Str → Option Value} {base : Heap} {cl : Str → Option Value} {f : Addr} {fd : FuncData} (F : Fun K "_idle_grids" "_idle_grids" s__idle_grids f fd) (hm : mg "_idle_grids" = some (.ref f)) (T : Txt P w K mg base cl) :
    Cal P w K mg base cl 1 "_idle_grids" ["many", "modulus"] f__idle_grids :=
  cal_mk (g := m__idle_grids) (m := 3) F hm sc__idle_grids rfl (fun _ _ _ _ _ _ us hl => match us, hl with | [_, _], _ => rfl) fun cdv A outer s H E hr => by
    have tk : Takes (cxOf (L2.CX P w) P w K mg base ["many", "modulus", "unit", "row", "column"] "_idle_grids" (defScope s__idle_grids) f cdv A outer s H E) (fun cls d _ H => E cls d H) := takes_of rfl rfl rfl rfl
    have po : PassesOwn (model P w) (cxOf (L2.CX P w) P w K mg base ["many", "modulus", "unit", "row", "column"] "_idle_grids" (defScope s__idle_grids) f cdv A outer s H E).A (cxOf (L2.CX P w) P w K mg base ["many", "modulus", "unit", "row", "column"] "_idle_grids" (defScope s__idle_grids) f cdv A outer s H E).env (cxOf (L2.CX P w) P w K mg base ["many", "modulus", "unit", "row", "column"] "_idle_grids" (defScope s__idle_grids) f cdv A outer s H E).xe := passes_of rfl
    let cz : Cz := ⟨K, cl, fun _ => E⟩
    exact ⟨_, (bc (sif (xtcmp (c_eq hr) (xv 1) xi) (b1 (sret xn)) b0)
      (bc (sset 2 sc__idle_grids.nd (xct call_tuple_of tupOf_ok rfl T.b.tuple (by decide +kernel) (a1 (xof (ocomp (own := [("row", 3)]) rfl sc__idle_grids.nd (irng1 rfl T.b.range (a1 (xv 0) a0)) (blkOk_of (N0 := ["many", "modulus", "unit", "row", "column"]) (o0 := defScope s__idle_grids) rfl rfl (by decide +kernel)) (gin_name (by decide)) mono_name (fun _ _ _ _ _ => (gx 3 sc__idle_grids.nd)) (fun _ _ _ _ _ => t0) (fun _ _ _ _ _ => (xct call_tuple_of tupOf_ok rfl T.b.tuple (by decide +kernel) (a1 (xof (ocomp (own := [("column", 4)]) rfl sc__idle_grids.nd (irng1 rfl T.b.range (a1 (xv 0) a0)) (blkOk_by rfl) (gin_name (by decide)) mono_name (fun _ _ _ _ _ => (gx 4 sc__idle_grids.nd)) (fun _ _ _ _ _ => t0) (fun _ _ _ _ _ => (xife (xtcmp (c_eq hr) (xv 3) (xv 4)) xi xi)) s H)) a0))) s H)) a0)))
      (b1 (sret (xtup (a1 (xv 2) (a1 (xmul (xtup (a1 (xmul (xtup (a1 xi a0)) (xv 0)) a0)) (xv 0)) a0)))))))⟩
theorem sc_suits_asks : FnScope ["plan", "asks", "size", "_", "answers", "ask"] ["plan", "asks"] (defScope s_suits_asks) := ⟨rfl, rfl, rfl, by decide +kernel, rfl, by decide +kernel, by decide +kernel⟩
def m_suits_asks : Nv → RS :=
  (sSeq (sAsg (eV 0) (gT 3 (gsC (gN 2) (gsC (gN 3) (gsC (gN 4) gsN)))))
    (sRet (eAnd (eBin (gEq false) (eCb gLen (aCons (eV 4) aNil)) (eCb gLen (aCons (eV 1) aNil))) (eCb gAll (aCons (eOf (oComp [5] (iT (eV 1)) (gN 5) fYes (eBin gLe (eBin gIx (eV 5) (eC (.int 1))) (eV 2)))) aNil)))))
def f_suits_asks : Nv → Rs Rv := ary 2 (body 4 (m_suits_asks))
theorem ok_suits_asks {P : Program} {w : World} {K : PySem.W.Frag} {mg : Str → Option Value} {base : Heap} {cl : Str → Option Value} {f : Addr} {fd : FuncData} (F : Fun K "suits_asks" "suits_asks" s_suits_asks f fd) (hm : mg "suits_asks" = some (.ref f)) (T : Txt P w K mg base cl) :
    Cal P w K mg base cl 1 "suits_asks" ["plan", "asks"] f_suits_asks :=
  cal_mk (g := m_suits_asks) (m := 4) F hm sc_suits_asks rfl (fun _ _ _ _ _ _ us hl => match us, hl with | [_, _], _ => rfl) fun cdv A outer s H E hr => by
    have tk : Takes (cxOf (L2.CX P w) P w K mg base ["plan", "asks", "size", "_", "answers", "ask"] "suits_asks" (defScope s_suits_asks) f cdv A outer s H E) (fun cls d _ H => E cls d H) := takes_of rfl rfl rfl rfl
    have po : PassesOwn (model P w) (cxOf (L2.CX P w) P w K mg base ["plan", "asks", "size", "_", "answers", "ask"] "suits_asks" (defScope s_suits_asks) f cdv A outer s H E).A (cxOf (L2.CX P w) P w K mg base ["plan", "asks", "size", "_", "answers", "ask"] "suits_asks" (defScope s_suits_asks) f cdv A outer s H E).env (cxOf (L2.CX P w) P w K mg base ["plan", "asks", "size", "_", "answers", "ask"] "suits_asks" (defScope s_suits_asks) f cdv A outer s H E).xe := passes_of rfl
    let cz : Cz := ⟨K, cl, fun _ => E⟩
    exact ⟨_, (bc (sasg (xv 0) (gtup rfl (gs1 (gx 2 sc_suits_asks.nd) (gs1 (gx 3 sc_suits_asks.nd) (gs1 (gx 4 sc_suits_asks.nd) gs0)))))
      (b1 (sret (xand (xcmp (c_eq hr) (xcb cr_len len_ok rfl T.b.len (by decide +kernel) (a1 (xv 4) a0)) (xcb cr_len len_ok rfl T.b.len (by decide +kernel) (a1 (xv 1) a0))) (xone (xcb (cr_all rfl) all_ok rfl T.b.all (by decide +kernel) (a1 (xof (ocomp (own := [("ask", 5)]) rfl sc_suits_asks.nd (itup (xv 1)) (blkOk_of (N0 := ["plan", "asks", "size", "_", "answers", "ask"]) (o0 := defScope s_suits_asks) rfl rfl (by decide +kernel)) (gin_name (by decide)) mono_name (fun _ _ _ _ _ => (gx 5 sc_suits_asks.nd)) (fun _ _ _ _ _ => t0) (fun _ _ _ _ _ => (xcmp c_le (xix (xv 5) xi) (xv 2))) s H)) a0)))))))⟩
theorem sc__law_start : FnScope ["_law_script", "_law_state", "_law_k", "_law_cell"] ["_law_script"] (defScope s__law_start) := ⟨rfl, rfl, rfl, by decide +kernel, rfl, by decide +kernel, by decide +kernel⟩
def lp__law_start_0 : Nv → RS := (sSeq (sSet 3 (eCb gInt (aCons (eBin gIx (eV 0) (eV 2)) aNil)))
    (sIf (tAndF (tVal (eBin (gEq false) (eBin gIx (eV 1) (eC (.int 0))) (eC (.int 0)))) (tVal (eBin gGe (eV 3) (eBin gPow (eC (.int 10)) (eC (.int 18)))))) (sItm 1 (eV 3) (eC (.int 0))) (sItm 1 (eBin gMod (eCb gInt (aCons (eBin gAdd (eBin gAdd (eBin gAdd (eBin gMul (eBin gIx (eV 1) (eC (.int 1))) (eC (.int 40014))) (eBin gMul (eV 3) (eC (.int 52774)))) (eBin gMul (eV 2) (eC (.int 131)))) (eC (.int 5))) aNil)) (eC (.int 2147483587))) (eC (.int 1)))))
def m__law_start : Nv → RS :=
  (sSeq (sNew 1 (oLst (aCons (eC (.int 0)) (aCons (eC (.int 977)) aNil))))
    (sSeq (sFor (iR1 (aCons (eCb gLen (aCons (eV 0) aNil)) aNil)) (gN 2) (lp__law_start_0))
    (sRet (eV 1))))
def f__law_start : Nv → Rs Rv := ary 1 (body 3 (m__law_start))
theorem ok__law_start {P : Program} {w : World} {K : PySem.W.Frag} {mg : Str → Option Value} {base : Heap} {cl : Str → Option Value} {f : Addr} {fd : FuncData} (F : Fun K "_law_start" "_law_start" s__law_start f fd) (hm : mg "_law_start" = some (.ref f)) (T : Txt P w K mg base cl) :
    Cal P w K mg base cl 1 "_law_start" ["_law_script"] f__law_start :=
  cal_mk (g := m__law_start) (m := 3) F hm sc__law_start rfl (fun _ _ _ _ _ _ us hl => match us, hl with | [_], _ => rfl) fun cdv A outer s H E hr => by
    have tk : Takes (cxOf (L2.CX P w) P w K mg base ["_law_script", "_law_state", "_law_k", "_law_cell"] "_law_start" (defScope s__law_start) f cdv A outer s H E) (fun cls d _ H => E cls d H) := takes_of rfl rfl rfl rfl
    have po : PassesOwn (model P w) (cxOf (L2.CX P w) P w K mg base ["_law_script", "_law_state", "_law_k", "_law_cell"] "_law_start" (defScope s__law_start) f cdv A outer s H E).A (cxOf (L2.CX P w) P w K mg base ["_law_script", "_law_state", "_law_k", "_law_cell"] "_law_start" (defScope s__law_start) f cdv A outer s H E).env (cxOf (L2.CX P w) P w K mg base ["_law_script", "_law_state", "_law_k", "_law_cell"] "_law_start" (defScope s__law_start) f cdv A outer s H E).xe := passes_of rfl
    let cz : Cz := ⟨K, cl, fun _ => E⟩
    exact ⟨_, (bc (snew 1 sc__law_start.nd (olst (a1 xi (a1 xi a0))))
      (bc (sfor po rfl (irng1 rfl T.b.range (a1 (xcb cr_len len_ok rfl T.b.len (by decide +kernel) (a1 (xv 0) a0)) a0)) (gx 2 sc__law_start.nd) (bc (sset 3 sc__law_start.nd (xct call_int1 int_ok rfl T.b.int (by decide +kernel) (a1 (xix (xv 0) (xv 2)) a0)))
      (b1 (sif (xtw (wand (xtcmp (c_eq hr) (xix (xv 1) xi) xi) (wand1 (xtcmp c_ge (xv 3) (xpow xi xi))))) (b1 (sitm 1 (xv 1) (xv 3) xi)) (b1 (sitm 1 (xv 1) (xmod (xct call_int1 int_ok rfl T.b.int (by decide +kernel) (a1 (xadd (xadd (xadd (xmul (xix (xv 1) xi) xi) (xmul (xv 3) xi)) (xmul (xv 2) xi)) xi) a0)) xi) xi))))))
      (b1 (sret (xv 1)))))⟩
theorem sc__law_draw : FnScope ["_law_state", "_law_many", "_law_got"] ["_law_state", "_law_many"] (defScope s__law_draw) := ⟨rfl, rfl, rfl, by decide +kernel, rfl, by decide +kernel, by decide +kernel⟩
def m__law_draw : Nv → RS :=
  (sSeq (sIf (tVal (eBin gGt (eBin gIx (eV 0) (eC (.int 0))) (eC (.int 0)))) (sSeq (sSet 2 (eBin gMod (eCb gInt (aCons (eBin gIx (eV 0) (eC (.int 0))) aNil)) (eV 1)))
    (sSeq (sItm 0 (eBin gDiv (eBin gIx (eV 0) (eC (.int 0))) (eV 1)) (eC (.int 0)))
    (sRet (eV 2)))) sNext)
    (sSeq (sItm 0 (eBin gMod (eCb gInt (aCons (eBin gAdd (eBin gMul (eBin gIx (eV 0) (eC (.int 1))) (eC (.int 40692))) (eC (.int 7919))) aNil)) (eC (.int 2147483587))) (eC (.int 1)))
    (sRet (eBin gMod (eCb gInt (aCons (eBin gDiv (eBin gIx (eV 0) (eC (.int 1))) (eC (.int 2039))) aNil)) (eV 1)))))
def f__law_draw : Nv → Rs Rv := ary 2 (body 1 (m__law_draw))
theorem ok__law_draw {P : Program} {w : World} {K : PySem.W.Frag} {mg : Str → Option Value} {base : Heap} {cl : Str → Option Value} {f : Addr} {fd : FuncData} (F : Fun K "_law_draw" "_law_draw" s__law_draw f fd) (hm : mg "_law_draw" = some (.ref f)) (T : Txt P w K mg base cl) :
    Cal P w K mg base cl 1 "_law_draw" ["_law_state", "_law_many"] f__law_draw :=
  cal_mk (g := m__law_draw) (m := 1) F hm sc__law_draw rfl (fun _ _ _ _ _ _ us hl => match us, hl with | [_, _], _ => rfl) fun cdv A outer s H E hr => by
    have tk : Takes (cxOf (L2.CX P w) P w K mg base ["_law_state", "_law_many", "_law_got"] "_law_draw" (defScope s__law_draw) f cdv A outer s H E) (fun cls d _ H => E cls d H) := takes_of rfl rfl rfl rfl
    have po : PassesOwn (model P w) (cxOf (L2.CX P w) P w K mg base ["_law_state", "_law_many", "_law_got"] "_law_draw" (defScope s__law_draw) f cdv A outer s H E).A (cxOf (L2.CX P w) P w K mg base ["_law_state", "_law_many", "_law_got"] "_law_draw" (defScope s__law_draw) f cdv A outer s H E).env (cxOf (L2.CX P w) P w K mg base ["_law_state", "_law_many", "_law_got"] "_law_draw" (defScope s__law_draw) f cdv A outer s H E).xe := passes_of rfl
    let cz : Cz := ⟨K, cl, fun _ => E⟩
    exact ⟨_, (bc (sif (xtcmp c_gt (xix (xv 0) xi) xi) (bc (sset 2 sc__law_draw.nd (xmod (xct call_int1 int_ok rfl T.b.int (by decide +kernel) (a1 (xix (xv 0) xi) a0)) (xv 1)))
      (bc (sitm 0 (xv 0) (xdiv (xix (xv 0) xi) (xv 1)) xi)
      (b1 (sret (xv 2))))) b0)
      (bc (sitm 0 (xv 0) (xmod (xct call_int1 int_ok rfl T.b.int (by decide +kernel) (a1 (xadd (xmul (xix (xv 0) xi) xi) xi) a0)) xi) xi)
      (b1 (sret (xmod (xct call_int1 int_ok rfl T.b.int (by decide +kernel) (a1 (xdiv (xix (xv 0) xi) xi) a0)) (xv 1))))))⟩
theorem sc__law_words : FnScope ["_law_plan_here", "_law_words_here", "_law_pair", "_law_e"] ["_law_plan_here"] (defScope s__law_words) := ⟨rfl, rfl, rfl, by decide +kernel, rfl, by decide +kernel, by decide +kernel⟩
def lp__law_words_0 : Nv → RS := (sApp 1 (aCons (eBin gAdd (eBin gIx (eV 1) (eBin gIx (eV 2) (eC (.int 0)))) (eBin gIx (eV 1) (eBin gIx (eV 2) (eC (.int 1))))) aNil))
def m__law_words : Nv → RS :=
  (sSeq (sNew 1 (oComp [3] (iR1 (aCons (eBin gIx (eV 0) (eC (.int 0))) aNil)) (gN 3) fYes (eOf (oLst (aCons (eV 3) aNil)))))
    (sSeq (sFor (iT (eBin gIx (eV 0) (eC (.int 1)))) (gN 2) (lp__law_words_0))
    (sRet (eV 1))))
def f__law_words : Nv → Rs Rv := ary 1 (body 3 (m__law_words))
theorem ok__law_words {P : Program} {w : World} {K : PySem.W.Frag} {mg : Str → Option Value} {base : Heap} {cl : Str → Option Value} {f : Addr} {fd : FuncData} (F : Fun K "_law_words" "_law_words" s__law_words f fd) (hm : mg "_law_words" = some (.ref f)) (T : Txt P w K mg base cl) :
    Cal P w K mg base cl 1 "_law_words" ["_law_plan_here"] f__law_words :=
  cal_mk (g := m__law_words) (m := 3) F hm sc__law_words rfl (fun _ _ _ _ _ _ us hl => match us, hl with | [_], _ => rfl) fun cdv A outer s H E hr => by
    have tk : Takes (cxOf (L2.CX P w) P w K mg base ["_law_plan_here", "_law_words_here", "_law_pair", "_law_e"] "_law_words" (defScope s__law_words) f cdv A outer s H E) (fun cls d _ H => E cls d H) := takes_of rfl rfl rfl rfl
    have po : PassesOwn (model P w) (cxOf (L2.CX P w) P w K mg base ["_law_plan_here", "_law_words_here", "_law_pair", "_law_e"] "_law_words" (defScope s__law_words) f cdv A outer s H E).A (cxOf (L2.CX P w) P w K mg base ["_law_plan_here", "_law_words_here", "_law_pair", "_law_e"] "_law_words" (defScope s__law_words) f cdv A outer s H E).env (cxOf (L2.CX P w) P w K mg base ["_law_plan_here", "_law_words_here", "_law_pair", "_law_e"] "_law_words" (defScope s__law_words) f cdv A outer s H E).xe := passes_of rfl
    let cz : Cz := ⟨K, cl, fun _ => E⟩
    exact ⟨_, (bc (snewc 1 (own := [("_law_e", 3)]) rfl sc__law_words.nd (irng1 rfl T.b.range (a1 (xix (xv 0) xi) a0)) (blkOk_of (N0 := ["_law_plan_here", "_law_words_here", "_law_pair", "_law_e"]) (o0 := defScope s__law_words) rfl rfl (by decide +kernel)) (gin_name (by decide)) mono_name (fun _ _ _ _ _ => (gx 3 sc__law_words.nd)) (fun _ _ _ _ _ => t0) (fun _ _ _ _ _ => (xof (olst (a1 (xv 3) a0)))) s H)
      (bc (sfor po rfl (itup (xix (xv 0) xi)) (gx 2 sc__law_words.nd) (b1 (sappn 1 (xv 1) (a1 (xadd (xix (xv 1) (xix (xv 2) xi)) (xix (xv 1) (xix (xv 2) xi))) a0))))
      (b1 (sret (xv 1)))))⟩
theorem sc__law_suits : FnScope ["_law_plan_here", "_law_row", "_law_ask"] ["_law_plan_here", "_law_row"] (defScope s__law_suits) := ⟨rfl, rfl, rfl, by decide +kernel, rfl, by decide +kernel, by decide +kernel⟩
def m__law_suits : Nv → RS :=
  (sRet (eAnd (eBin (gEq false) (eCb gLen (aCons (eBin gIx (eV 0) (eC (.int 2))) aNil)) (eCb gLen (aCons (eV 1) aNil))) (eCb gAll (aCons (eOf (oComp [2] (iT (eV 1)) (gN 2) fYes (eBin gLe (eBin gIx (eV 2) (eC (.int 1))) (eBin gIx (eV 0) (eC (.int 0)))))) aNil))))
def f__law_suits : Nv → Rs Rv := ary 2 (body 1 (m__law_suits))
theorem ok__law_suits {P : Program} {w : World} {K : PySem.W.Frag} {mg : Str → Option Value} {base : Heap} {cl : Str → Option Value} {f : Addr} {fd : FuncData} (F : Fun K "_law_suits" "_law_suits" s__law_suits f fd) (hm : mg "_law_suits" = some (.ref f)) (T : Txt P w K mg base cl) :
    Cal P w K mg base cl 1 "_law_suits" ["_law_plan_here", "_law_row"] f__law_suits :=
  cal_mk (g := m__law_suits) (m := 1) F hm sc__law_suits rfl (fun _ _ _ _ _ _ us hl => match us, hl with | [_, _], _ => rfl) fun cdv A outer s H E hr => by
    have tk : Takes (cxOf (L2.CX P w) P w K mg base ["_law_plan_here", "_law_row", "_law_ask"] "_law_suits" (defScope s__law_suits) f cdv A outer s H E) (fun cls d _ H => E cls d H) := takes_of rfl rfl rfl rfl
    have po : PassesOwn (model P w) (cxOf (L2.CX P w) P w K mg base ["_law_plan_here", "_law_row", "_law_ask"] "_law_suits" (defScope s__law_suits) f cdv A outer s H E).A (cxOf (L2.CX P w) P w K mg base ["_law_plan_here", "_law_row", "_law_ask"] "_law_suits" (defScope s__law_suits) f cdv A outer s H E).env (cxOf (L2.CX P w) P w K mg base ["_law_plan_here", "_law_row", "_law_ask"] "_law_suits" (defScope s__law_suits) f cdv A outer s H E).xe := passes_of rfl
    let cz : Cz := ⟨K, cl, fun _ => E⟩
    exact ⟨_, (b1 (sret (xand (xcmp (c_eq hr) (xcb cr_len len_ok rfl T.b.len (by decide +kernel) (a1 (xix (xv 0) xi) a0)) (xcb cr_len len_ok rfl T.b.len (by decide +kernel) (a1 (xv 1) a0))) (xone (xcb (cr_all rfl) all_ok rfl T.b.all (by decide +kernel) (a1 (xof (ocomp (own := [("_law_ask", 2)]) rfl sc__law_suits.nd (itup (xv 1)) (blkOk_of (N0 := ["_law_plan_here", "_law_row", "_law_ask"]) (o0 := defScope s__law_suits) rfl rfl (by decide +kernel)) (gin_name (by decide)) mono_name (fun _ _ _ _ _ => (gx 2 sc__law_suits.nd)) (fun _ _ _ _ _ => t0) (fun _ _ _ _ _ => (xcmp c_le (xix (xv 2) xi) (xix (xv 0) xi))) s H)) a0))))))⟩
theorem sc_is_number : FnScope ["thing"] ["thing"] (defScope s_is_number) := ⟨rfl, rfl, rfl, by decide +kernel, rfl, by decide +kernel, by decide +kernel⟩
def m_is_number : Nv → RS :=
  (sRet (eAnd (eCall f_is_integer (aCons (eV 0) aNil)) (eBin gGe (eV 0) (eC (.int 0)))))
def f_is_number : Nv → Rs Rv := ary 1 (body 0 (m_is_number))
theorem ok_is_number {P : Program} {w : World} {K : PySem.W.Frag} {mg : Str → Option Value} {base : Heap} {cl : Str → Option Value} {f : Addr} {fd : FuncData} (F : Fun K "is_number" "is_number" s_is_number f fd) (hm : mg "is_number" = some (.ref f)) (T : Txt P w K mg base cl) (C_is_integer : Cal P w K mg base cl 1 "is_integer" ["thing"] f_is_integer) :
    Cal P w K mg base cl 2 "is_number" ["thing"] f_is_number :=
  cal_mk (g := m_is_number) (m := 0) F hm sc_is_number rfl (fun _ _ _ _ _ _ us hl => match us, hl with | [_], _ => rfl) fun cdv A outer s H E hr => by
    have tk : Takes (cxOf (L2.CX P w) P w K mg base ["thing"] "is_number" (defScope s_is_number) f cdv A outer s H E) (fun cls d _ H => E cls d H) := takes_of rfl rfl rfl rfl
    have po : PassesOwn (model P w) (cxOf (L2.CX P w) P w K mg base ["thing"] "is_number" (defScope s_is_number) f cdv A outer s H E).A (cxOf (L2.CX P w) P w K mg base ["thing"] "is_number" (defScope s_is_number) f cdv A outer s H E).env (cxOf (L2.CX P w) P w K mg base ["thing"] "is_number" (defScope s_is_number) f cdv A outer s H E).xe := passes_of rfl
    let cz : Cz := ⟨K, cl, fun _ => E⟩
    exact ⟨_, (b1 (sret (xand (xcal rfl C_is_integer hr tk rfl (a1 (xv 0) a0)) (xone (xcmp c_ge (xv 0) xi)))))⟩
theorem sc_is_positive : FnScope ["thing"] ["thing"] (defScope s_is_positive) := ⟨rfl, rfl, rfl, by decide +kernel, rfl, by decide +kernel, by decide +kernel⟩
def m_is_positive : Nv → RS :=
  (sRet (eAnd (eCall f_is_integer (aCons (eV 0) aNil)) (eBin gGe (eV 0) (eC (.int 1)))))
def f_is_positive : Nv → Rs Rv := ary 1 (body 0 (m_is_positive))
theorem ok_is_positive {P : Program} {w : World} {K : PySem.W.Frag} {mg : Str → Option Value} {base : Heap} {cl : Str → Option Value} {f : Addr} {fd : FuncData} (F : Fun K "is_positive" "is_positive" s_is_positive f fd) (hm : mg "is_positive" = some (.ref f)) (T : Txt P w K mg base cl) (C_is_integer : Cal P w K mg base cl 1 "is_integer" ["thing"] f_is_integer) :
    Cal P w K mg base cl 2 "is_positive" ["thing"] f_is_positive :=
  cal_mk (g := m_is_positive) (m := 0) F hm sc_is_positive rfl (fun _ _ _ _ _ _ us hl => match us, hl with | [_], _ => rfl) fun cdv A outer s H E hr => by
    have tk : Takes (cxOf (L2.CX P w) P w K mg base ["thing"] "is_positive" (defScope s_is_positive) f cdv A outer s H E) (fun cls d _ H => E cls d H) := takes_of rfl rfl rfl rfl
    have po : PassesOwn (model P w) (cxOf (L2.CX P w) P w K mg base ["thing"] "is_positive" (defScope s_is_positive) f cdv A outer s H E).A (cxOf (L2.CX P w) P w K mg base ["thing"] "is_positive" (defScope s_is_positive) f cdv A outer s H E).env (cxOf (L2.CX P w) P w K mg base ["thing"] "is_positive" (defScope s_is_positive) f cdv A outer s H E).xe := passes_of rfl
    let cz : Cz := ⟨K, cl, fun _ => E⟩
    exact ⟨_, (b1 (sret (xand (xcal rfl C_is_integer hr tk rfl (a1 (xv 0) a0)) (xone (xcmp c_ge (xv 0) xi)))))⟩
theorem sc__law_asks : FnScope ["_law_state", "_law_size", "_law_row", "_law_many", "_law_low", "_law_high", "_law_k"] ["_law_state", "_law_size"] (defScope s__law_asks) := ⟨rfl, rfl, rfl, by decide +kernel, rfl, by decide +kernel, by decide +kernel⟩
def lp__law_asks_0 : Nv → RS := (sSeq (sSet 4 (eCall f__law_draw (aCons (eV 0) (aCons (eV 1) aNil))))
    (sApp 2 (aCons (eTup (aCons (eV 4) (aCons (eBin gAdd (eBin gAdd (eV 4) (eC (.int 1))) (eCall f__law_draw (aCons (eV 0) (aCons (eBin Dl.gSub (eV 1) (eV 4)) aNil)))) aNil))) aNil)))
def lp__law_asks_1 : Nv → RS := (sSeq (sSet 4 (eCb gMin2 (aCons (eBin Dl.gSub (eV 1) (eC (.int 1))) (aCons (eBin gAdd (eV 4) (eBin gIx (eOf (oLst (aCons (eC (.int 0)) (aCons (eC (.int 0)) (aCons (eC (.int 1)) (aCons (eC (.int 1)) (aCons (eC (.int 2)) aNil))))))) (eCall f__law_draw (aCons (eV 0) (aCons (eC (.int 5)) aNil))))) aNil))))
    (sSeq (sSet 5 (eCb gMin2 (aCons (eV 1) (aCons (eCb gMax2 (aCons (eBin gAdd (eV 4) (eC (.int 1))) (aCons (eBin gAdd (eV 5) (eBin gIx (eOf (oLst (aCons (eC (.int 0)) (aCons (eC (.int 1)) (aCons (eC (.int 1)) (aCons (eC (.int 2)) (aCons (eC (.int 3)) aNil))))))) (eCall f__law_draw (aCons (eV 0) (aCons (eC (.int 5)) aNil))))) aNil))) aNil))))
    (sIf (tVal (eBin (gIn true) (eTup (aCons (eV 4) (aCons (eV 5) aNil))) (eV 2))) (sApp 2 (aCons (eTup (aCons (eV 4) (aCons (eV 5) aNil))) aNil)) sNext)))
def m__law_asks : Nv → RS :=
  (sSeq (sNew 2 (oLst aNil))
    (sSeq (sSet 3 (eBin gIx (eOf (oLst (aCons (eC (.int 0)) (aCons (eC (.int 1)) (aCons (eC (.int 2)) (aCons (eC (.int 3)) (aCons (eC (.int 4)) (aCons (eC (.int 5)) (aCons (eC (.int 4)) (aCons (eC (.int 3)) aNil)))))))))) (eCall f__law_draw (aCons (eV 0) (aCons (eC (.int 8)) aNil)))))
    (sSeq (sIf (tVal (eBin (gEq false) (eCall f__law_draw (aCons (eV 0) (aCons (eC (.int 4)) aNil))) (eC (.int 0)))) (sSeq (sFor (iR1 (aCons (eBin gAdd (eV 3) (eC (.int 2))) aNil)) (gN 6) (lp__law_asks_0))
    (sRet (eCb gTupOf (aCons (eOf (oCb gSetP (aCons (eV 2) aNil))) aNil)))) sNext)
    (sSeq (sSet 4 (eC (.int 0)))
    (sSeq (sSet 5 (eC (.int 1)))
    (sSeq (sFor (iR1 (aCons (eV 3) aNil)) (gN 6) (lp__law_asks_1))
    (sRet (eCb gTupOf (aCons (eV 2) aNil)))))))))
def f__law_asks : Nv → Rs Rv := ary 2 (body 5 (m__law_asks))
theorem ok__law_asks {P : Program} {w : World} {K : PySem.W.Frag} {mg : Str → Option Value} {base : Heap} {cl : Str → Option Value} {f : Addr} {fd : FuncData} (F : Fun K "_law_asks" "_law_asks" s__law_asks f fd) (hm : mg "_law_asks" = some (.ref f)) (T : Txt P w K mg base cl) (C__law_draw : Cal P w K mg base cl 1 "_law_draw" ["_law_state", "_law_many"] f__law_draw) :
    Cal P w K mg base cl 2 "_law_asks" ["_law_state", "_law_size"] f__law_asks :=
  cal_mk (g := m__law_asks) (m := 5) F hm sc__law_asks rfl (fun _ _ _ _ _ _ us hl => match us, hl with | [_, _], _ => rfl) fun cdv A outer s H E hr => by
    have tk : Takes (cxOf (L2.CX P w) P w K mg base ["_law_state", "_law_size", "_law_row", "_law_many", "_law_low", "_law_high", "_law_k"] "_law_asks" (defScope s__law_asks) f cdv A outer s H E) (fun cls d _ H => E cls d H) := takes_of rfl rfl rfl rfl
    have po : PassesOwn (model P w) (cxOf (L2.CX P w) P w K mg base ["_law_state", "_law_size", "_law_row", "_law_many", "_law_low", "_law_high", "_law_k"] "_law_asks" (defScope s__law_asks) f cdv A outer s H E).A (cxOf (L2.CX P w) P w K mg base ["_law_state", "_law_size", "_law_row", "_law_many", "_law_low", "_law_high", "_law_k"] "_law_asks" (defScope s__law_asks) f cdv A outer s H E).env (cxOf (L2.CX P w) P w K mg base ["_law_state", "_law_size", "_law_row", "_law_many", "_law_low", "_law_high", "_law_k"] "_law_asks" (defScope s__law_asks) f cdv A outer s H E).xe := passes_of rfl
    let cz : Cz := ⟨K, cl, fun _ => E⟩
    exact ⟨_, (bc (snew 2 sc__law_asks.nd (olst a0))
      (bc (sset 3 sc__law_asks.nd (xix (xof (olst (a1 xi (a1 xi (a1 xi (a1 xi (a1 xi (a1 xi (a1 xi (a1 xi a0)))))))))) (xcal rfl C__law_draw hr tk rfl (a1 (xv 0) (a1 xi a0)))))
      (bc (sif (xtcmp (c_eq hr) (xcal rfl C__law_draw hr tk rfl (a1 (xv 0) (a1 xi a0))) xi) (bc (sfor po rfl (irng1 rfl T.b.range (a1 (xadd (xv 3) xi) a0)) (gx 6 sc__law_asks.nd) (bc (sset 4 sc__law_asks.nd (xcal rfl C__law_draw hr tk rfl (a1 (xv 0) (a1 (xv 1) a0))))
      (b1 (sappn 2 (xv 2) (a1 (xtup (a1 (xv 4) (a1 (xadd (xadd (xv 4) xi) (xcal rfl C__law_draw hr tk rfl (a1 (xv 0) (a1 (xsub (xv 1) (xv 4)) a0)))) a0))) a0)))))
      (b1 (sret (xct call_tuple_of tupOf_ok rfl T.b.tuple (by decide +kernel) (a1 (xof (ossetP hr rfl T.b rfl rfl (a1 (xv 2) a0))) a0))))) b0)
      (bc (sset 4 sc__law_asks.nd xi)
      (bc (sset 5 sc__law_asks.nd xi)
      (bc (sfor po rfl (irng1 rfl T.b.range (a1 (xv 3) a0)) (gx 6 sc__law_asks.nd) (bc (sset 4 sc__law_asks.nd (xcb (call_min2 rfl) min2_ok rfl T.b.min (by decide +kernel) (a1 (xsub (xv 1) xi) (a1 (xadd (xv 4) (xix (xof (olst (a1 xi (a1 xi (a1 xi (a1 xi (a1 xi a0))))))) (xcal rfl C__law_draw hr tk rfl (a1 (xv 0) (a1 xi a0))))) a0))))
      (bc (sset 5 sc__law_asks.nd (xcb (call_min2 rfl) min2_ok rfl T.b.min (by decide +kernel) (a1 (xv 1) (a1 (xcb (call_max2 rfl) max2_ok rfl T.b.max (by decide +kernel) (a1 (xadd (xv 4) xi) (a1 (xadd (xv 5) (xix (xof (olst (a1 xi (a1 xi (a1 xi (a1 xi (a1 xi a0))))))) (xcal rfl C__law_draw hr tk rfl (a1 (xv 0) (a1 xi a0))))) a0))) a0))))
      (b1 (sif (xtcmp (c_nin hr) (xtup (a1 (xv 4) (a1 (xv 5) a0))) (xv 2)) (b1 (sappn 2 (xv 2) (a1 (xtup (a1 (xv 4) (a1 (xv 5) a0))) a0))) b0)))))
      (b1 (sret (xct call_tuple_of tupOf_ok rfl T.b.tuple (by decide +kernel) (a1 (xv 2) a0))))))))))⟩
theorem sc__law_flawed : FnScope ["_law_state", "_law_flaw", "_law_words_here", "_law_joins", "_law_left", "_law_right", "_law_extra"] ["_law_state", "_law_flaw", "_law_words_here", "_law_joins", "_law_left", "_law_right"] (defScope s__law_flawed) := ⟨rfl, rfl, rfl, by decide +kernel, rfl, by decide +kernel, by decide +kernel⟩
def m__law_flawed : Nv → RS :=
  (sSeq (sIf (tVal (eBin (gEq false) (eV 1) (eC (.int 1)))) (sRet (eTup (aCons (eV 5) (aCons (eV 4) aNil)))) sNext)
    (sSeq (sSet 6 (eV 4))
    (sSeq (sIf (tAndF (tVal (eBin (gEq false) (eV 1) (eC (.int 2)))) (tVal (eBin gLt (eBin gAdd (eCb gLen (aCons (eBin gIx (eV 2) (eV 4)) aNil)) (eCb gLen (aCons (eBin gIx (eV 2) (eV 5)) aNil))) (eC (.int 16))))) (sSeq (sApp 3 (aCons (eTup (aCons (eV 4) (aCons (eV 5) aNil))) aNil))
    (sSeq (sApp 2 (aCons (eBin gAdd (eBin gIx (eV 2) (eV 4)) (eBin gIx (eV 2) (eV 5))) aNil))
    (sRet (eTup (aCons (eV 4) (aCons (eBin Dl.gSub (eCb gLen (aCons (eV 2) aNil)) (eC (.int 1))) aNil)))))) sNext)
    (sSeq (sIf (tVal (eBin (gEq false) (eV 1) (eC (.int 3)))) (sSet 6 (eBin gIx (eBin gIx (eV 2) (eV 4)) (eUn (fun | .int i => some (.int (-i)) | _ => none) (eC (.int 1))))) sNext)
    (sSeq (sIf (tVal (eBin (gEq false) (eV 1) (eC (.int 4)))) (sSet 6 (eCall f__law_draw (aCons (eV 0) (aCons (eCb gLen (aCons (eV 2) aNil)) aNil)))) sNext)
    (sSeq (sIf (tAndF (tVal (eBin (gEq false) (eV 1) (eC (.int 3)))) (tVal (eBin gLt (eBin gAdd (eCb gLen (aCons (eBin gIx (eV 2) (eV 4)) aNil)) (eCb gLen (aCons (eBin gIx (eV 2) (eV 5)) aNil))) (eC (.int 16))))) (sSeq (sApp 3 (aCons (eTup (aCons (eV 6) (aCons (eV 5) aNil))) aNil))
    (sSeq (sApp 2 (aCons (eBin gAdd (eOf (oLst (aCons (eV 6) aNil))) (eBin gIx (eV 2) (eV 5))) aNil))
    (sRet (eTup (aCons (eV 4) (aCons (eBin Dl.gSub (eCb gLen (aCons (eV 2) aNil)) (eC (.int 1))) aNil)))))) sNext)
    (sRet (eTup (aCons (eV 4) (aCons (eV 6) aNil))))))))))
def f__law_flawed : Nv → Rs Rv := ary 6 (body 1 (m__law_flawed))
theorem ok__law_flawed {P : Program} {w : World} {K : PySem.W.Frag} {mg : Str → Option Value} {base : Heap} {cl : Str → Option Value} {f : Addr} {fd : FuncData} (F : Fun K "_law_flawed" "_law_flawed" s__law_flawed f fd) (hm : mg "_law_flawed" = some (.ref f)) (T : Txt P w K mg base cl) (C__law_draw : Cal P w K mg base cl 1 "_law_draw" ["_law_state", "_law_many"] f__law_draw) :
    Cal P w K mg base cl 2 "_law_flawed" ["_law_state", "_law_flaw", "_law_words_here", "_law_joins", "_law_left", "_law_right"] f__law_flawed :=
  cal_mk (g := m__law_flawed) (m := 1) F hm sc__law_flawed rfl (fun _ _ _ _ _ _ us hl => match us, hl with | [_, _, _, _, _, _], _ => rfl) fun cdv A outer s H E hr => by
    have tk : Takes (cxOf (L2.CX P w) P w K mg base ["_law_state", "_law_flaw", "_law_words_here", "_law_joins", "_law_left", "_law_right", "_law_extra"] "_law_flawed" (defScope s__law_flawed) f cdv A outer s H E) (fun cls d _ H => E cls d H) := takes_of rfl rfl rfl rfl
    have po : PassesOwn (model P w) (cxOf (L2.CX P w) P w K mg base ["_law_state", "_law_flaw", "_law_words_here", "_law_joins", "_law_left", "_law_right", "_law_extra"] "_law_flawed" (defScope s__law_flawed) f cdv A outer s H E).A (cxOf (L2.CX P w) P w K mg base ["_law_state", "_law_flaw", "_law_words_here", "_law_joins", "_law_left", "_law_right", "_law_extra"] "_law_flawed" (defScope s__law_flawed) f cdv A outer s H E).env (cxOf (L2.CX P w) P w K mg base ["_law_state", "_law_flaw", "_law_words_here", "_law_joins", "_law_left", "_law_right", "_law_extra"] "_law_flawed" (defScope s__law_flawed) f cdv A outer s H E).xe := passes_of rfl
    let cz : Cz := ⟨K, cl, fun _ => E⟩
    exact ⟨_, (bc (sif (xtcmp (c_eq hr) (xv 1) xi) (b1 (sret (xtup (a1 (xv 5) (a1 (xv 4) a0))))) b0)
      (bc (sset 6 sc__law_flawed.nd (xv 4))
      (bc (sif (xtw (wand (xtcmp (c_eq hr) (xv 1) xi) (wand1 (xtcmp c_lt (xadd (xcb cr_len len_ok rfl T.b.len (by decide +kernel) (a1 (xix (xv 2) (xv 4)) a0)) (xcb cr_len len_ok rfl T.b.len (by decide +kernel) (a1 (xix (xv 2) (xv 5)) a0))) xi)))) (bc (sappn 3 (xv 3) (a1 (xtup (a1 (xv 4) (a1 (xv 5) a0))) a0))
      (bc (sappn 2 (xv 2) (a1 (xadd (xix (xv 2) (xv 4)) (xix (xv 2) (xv 5))) a0))
      (b1 (sret (xtup (a1 (xv 4) (a1 (xsub (xcb cr_len len_ok rfl T.b.len (by decide +kernel) (a1 (xv 2) a0)) xi) a0))))))) b0)
      (bc (sif (xtcmp (c_eq hr) (xv 1) xi) (b1 (sset 6 sc__law_flawed.nd (xix (xix (xv 2) (xv 4)) (xneg xi)))) b0)
      (bc (sif (xtcmp (c_eq hr) (xv 1) xi) (b1 (sset 6 sc__law_flawed.nd (xcal rfl C__law_draw hr tk rfl (a1 (xv 0) (a1 (xcb cr_len len_ok rfl T.b.len (by decide +kernel) (a1 (xv 2) a0)) a0))))) b0)
      (bc (sif (xtw (wand (xtcmp (c_eq hr) (xv 1) xi) (wand1 (xtcmp c_lt (xadd (xcb cr_len len_ok rfl T.b.len (by decide +kernel) (a1 (xix (xv 2) (xv 4)) a0)) (xcb cr_len len_ok rfl T.b.len (by decide +kernel) (a1 (xix (xv 2) (xv 5)) a0))) xi)))) (bc (sappn 3 (xv 3) (a1 (xtup (a1 (xv 6) (a1 (xv 5) a0))) a0))
      (bc (sappn 2 (xv 2) (a1 (xadd (xof (olst (a1 (xv 6) a0))) (xix (xv 2) (xv 5))) a0))
      (b1 (sret (xtup (a1 (xv 4) (a1 (xsub (xcb cr_len len_ok rfl T.b.len (by decide +kernel) (a1 (xv 2) a0)) xi) a0))))))) b0)
      (b1 (sret (xtup (a1 (xv 4) (a1 (xv 6) a0)))))))))))⟩
theorem sc__law_first_wrong : FnScope ["_law_plan_here", "_law_row", "_law_grade", "_law_words_here", "_law_k", "_law_word"] ["_law_plan_here", "_law_row", "_law_grade"] (defScope s__law_first_wrong) := ⟨rfl, rfl, rfl, by decide +kernel, rfl, by decide +kernel, by decide +kernel⟩
def lp__law_first_wrong_0 : Nv → RS := (sSeq (sSet 5 (eBin gIx (eV 3) (eBin gIx (eBin gIx (eV 0) (eC (.int 2))) (eV 4))))
    (sSeq (sIf (tVal (eBin (gEq false) (eV 2) (eC (.str "commuting")))) (sSet 5 (eOf (oCb gSrt (aCons (eV 5) aNil)))) sNext)
    (sSeq (sIf (tVal (eBin (gEq false) (eV 2) (eC (.str "same")))) (sSet 5 (eOf (oCb gSetS (aCons (eV 5) aNil)))) sNext)
    (sIf (tVal (eBin (gEq true) (eV 5) (eOf (oRg2 (eBin gIx (eBin gIx (eV 1) (eV 4)) (eC (.int 0))) (eBin gIx (eBin gIx (eV 1) (eV 4)) (eC (.int 1))))))) (sRet (eV 4)) sNext))))
def m__law_first_wrong : Nv → RS :=
  (sSeq (sSet 3 (eCall f__law_words (aCons (eV 0) aNil)))
    (sSeq (sFor (iR1 (aCons (eCb gLen (aCons (eV 1) aNil)) aNil)) (gN 4) (lp__law_first_wrong_0))
    (sRet (eC .none))))
def f__law_first_wrong : Nv → Rs Rv := ary 3 (body 3 (m__law_first_wrong))
theorem ok__law_first_wrong {P : Program} {w : World} {K : PySem.W.Frag} {mg : Str → Option Value} {base : Heap} {cl : Str → Option Value} {f : Addr} {fd : FuncData} (F : Fun K "_law_first_wrong" "_law_first_wrong" s__law_first_wrong f fd) (hm : mg "_law_first_wrong" = some (.ref f)) (T : Txt P w K mg base cl) (C__law_words : Cal P w K mg base cl 1 "_law_words" ["_law_plan_here"] f__law_words) :
    Cal P w K mg base cl 2 "_law_first_wrong" ["_law_plan_here", "_law_row", "_law_grade"] f__law_first_wrong :=
  cal_mk (g := m__law_first_wrong) (m := 3) F hm sc__law_first_wrong rfl (fun _ _ _ _ _ _ us hl => match us, hl with | [_, _, _], _ => rfl) fun cdv A outer s H E hr => by
    have tk : Takes (cxOf (L2.CX P w) P w K mg base ["_law_plan_here", "_law_row", "_law_grade", "_law_words_here", "_law_k", "_law_word"] "_law_first_wrong" (defScope s__law_first_wrong) f cdv A outer s H E) (fun cls d _ H => E cls d H) := takes_of rfl rfl rfl rfl
    have po : PassesOwn (model P w) (cxOf (L2.CX P w) P w K mg base ["_law_plan_here", "_law_row", "_law_grade", "_law_words_here", "_law_k", "_law_word"] "_law_first_wrong" (defScope s__law_first_wrong) f cdv A outer s H E).A (cxOf (L2.CX P w) P w K mg base ["_law_plan_here", "_law_row", "_law_grade", "_law_words_here", "_law_k", "_law_word"] "_law_first_wrong" (defScope s__law_first_wrong) f cdv A outer s H E).env (cxOf (L2.CX P w) P w K mg base ["_law_plan_here", "_law_row", "_law_grade", "_law_words_here", "_law_k", "_law_word"] "_law_first_wrong" (defScope s__law_first_wrong) f cdv A outer s H E).xe := passes_of rfl
    let cz : Cz := ⟨K, cl, fun _ => E⟩
    exact ⟨_, (bc (sset 3 sc__law_first_wrong.nd (xcal rfl C__law_words hr tk rfl (a1 (xv 0) a0)))
      (bc (sfor po rfl (irng1 rfl T.b.range (a1 (xcb cr_len len_ok rfl T.b.len (by decide +kernel) (a1 (xv 1) a0)) a0)) (gx 4 sc__law_first_wrong.nd) (bc (sset 5 sc__law_first_wrong.nd (xix (xv 3) (xix (xix (xv 0) xi) (xv 4))))
      (bc (sif (xtcmp (c_eq hr) (xv 2) xs) (b1 (sset 5 sc__law_first_wrong.nd (xof (ocb cr_sortedI srt_ok rfl T.b.sorted (by decide +kernel) (a1 (xv 5) a0))))) b0)
      (bc (sif (xtcmp (c_eq hr) (xv 2) xs) (b1 (sset 5 sc__law_first_wrong.nd (xof (osset rfl T.b rfl rfl (a1 (xv 5) a0))))) b0)
      (b1 (sif (xtcmp (c_ne hr) (xv 5) (xof (orng2 rfl rfl T.b.list rfl T.b.range (xix (xix (xv 1) (xv 4)) xi) (xix (xix (xv 1) (xv 4)) xi)))) (b1 (sret (xv 4))) b0))))))
      (b1 (sret xn))))⟩
theorem sc__law_idle : FnScope ["_law_state", "_law_many", "_law_modulus", "_law_menu"] ["_law_state"] (defScope s__law_idle) := ⟨rfl, rfl, rfl, by decide +kernel, rfl, by decide +kernel, by decide +kernel⟩
def m__law_idle : Nv → RS :=
  (sSeq (sSet 1 (eBin gAdd (eC (.int 2)) (eCall f__law_draw (aCons (eV 0) (aCons (eC (.int 3)) aNil)))))
    (sSeq (sSet 2 (eBin gAdd (eC (.int 2)) (eBin gIx (eOf (oLst (aCons (eC (.int 0)) (aCons (eC (.int 1)) (aCons (eC (.int 4)) (aCons (eBin Dl.gSub (eBin gPow (eC (.int 10)) (eC (.int 12))) (eC (.int 2))) aNil)))))) (eCall f__law_draw (aCons (eV 0) (aCons (eC (.int 4)) aNil))))))
    (sSeq (sSet 3 (eOf (oLst (aCons (eTup (aCons (eC (.str "most")) aNil)) (aCons (eTup (aCons (eC (.str "least")) aNil)) (aCons (eTup (aCons (eC (.str "or")) aNil)) (aCons (eTup (aCons (eC (.str "brackets")) aNil)) (aCons (eTup (aCons (eC (.str "product")) (aCons (eV 2) aNil))) (aCons (eTup (aCons (eC (.str "maps")) (aCons (eV 1) aNil))) aNil)))))))))
    (sSeq (sSet 3 (eBin gAdd (eV 3) (eOf (oLst (aCons (eTup (aCons (eC (.str "grids")) (aCons (eBin Dl.gSub (eV 1) (eC (.int 1))) (aCons (eV 2) aNil)))) aNil)))))
    (sRet (eBin gIx (eV 3) (eCall f__law_draw (aCons (eV 0) (aCons (eC (.int 7)) aNil)))))))))
def f__law_idle : Nv → Rs Rv := ary 1 (body 3 (m__law_idle))
theorem ok__law_idle {P : Program} {w : World} {K : PySem.W.Frag} {mg : Str → Option Value} {base : Heap} {cl : Str → Option Value} {f : Addr} {fd : FuncData} (F : Fun K "_law_idle" "_law_idle" s__law_idle f fd) (hm : mg "_law_idle" = some (.ref f)) (T : Txt P w K mg base cl) (C__law_draw : Cal P w K mg base cl 1 "_law_draw" ["_law_state", "_law_many"] f__law_draw) :
    Cal P w K mg base cl 2 "_law_idle" ["_law_state"] f__law_idle :=
  cal_mk (g := m__law_idle) (m := 3) F hm sc__law_idle rfl (fun _ _ _ _ _ _ us hl => match us, hl with | [_], _ => rfl) fun cdv A outer s H E hr => by
    have tk : Takes (cxOf (L2.CX P w) P w K mg base ["_law_state", "_law_many", "_law_modulus", "_law_menu"] "_law_idle" (defScope s__law_idle) f cdv A outer s H E) (fun cls d _ H => E cls d H) := takes_of rfl rfl rfl rfl
    have po : PassesOwn (model P w) (cxOf (L2.CX P w) P w K mg base ["_law_state", "_law_many", "_law_modulus", "_law_menu"] "_law_idle" (defScope s__law_idle) f cdv A outer s H E).A (cxOf (L2.CX P w) P w K mg base ["_law_state", "_law_many", "_law_modulus", "_law_menu"] "_law_idle" (defScope s__law_idle) f cdv A outer s H E).env (cxOf (L2.CX P w) P w K mg base ["_law_state", "_law_many", "_law_modulus", "_law_menu"] "_law_idle" (defScope s__law_idle) f cdv A outer s H E).xe := passes_of rfl
    let cz : Cz := ⟨K, cl, fun _ => E⟩
    exact ⟨_, (bc (sset 1 sc__law_idle.nd (xadd xi (xcal rfl C__law_draw hr tk rfl (a1 (xv 0) (a1 xi a0)))))
      (bc (sset 2 sc__law_idle.nd (xadd xi (xix (xof (olst (a1 xi (a1 xi (a1 xi (a1 (xsub (xpow xi xi) xi) a0)))))) (xcal rfl C__law_draw hr tk rfl (a1 (xv 0) (a1 xi a0))))))
      (bc (sset 3 sc__law_idle.nd (xof (olst (a1 (xtup (a1 xs a0)) (a1 (xtup (a1 xs a0)) (a1 (xtup (a1 xs a0)) (a1 (xtup (a1 xs a0)) (a1 (xtup (a1 xs (a1 (xv 2) a0))) (a1 (xtup (a1 xs (a1 (xv 1) a0))) a0)))))))))
      (bc (sset 3 sc__law_idle.nd (xadd (xv 3) (xof (olst (a1 (xtup (a1 xs (a1 (xsub (xv 1) xi) (a1 (xv 2) a0)))) a0)))))
      (b1 (sret (xix (xv 3) (xcal rfl C__law_draw hr tk rfl (a1 (xv 0) (a1 xi a0))))))))))⟩
theorem sc__law_no_idle : FnScope ["_law_state", "_law_menu"] ["_law_state"] (defScope s__law_no_idle) := ⟨rfl, rfl, rfl, by decide +kernel, rfl, by decide +kernel, by decide +kernel⟩
def m__law_no_idle : Nv → RS :=
  (sSeq (sSet 1 (eOf (oLst (aCons (eTup (aCons (eC (.str "sum")) (aCons (eC (.int 7)) aNil))) (aCons (eTup (aCons (eC (.str "sum")) (aCons (eC (.int 1)) aNil))) (aCons (eTup (aCons (eC (.str "product")) (aCons (eC (.int 1)) aNil))) (aCons (eTup (aCons (eC (.str "first")) aNil)) (aCons (eTup (aCons (eC (.str "last")) aNil)) (aCons (eTup (aCons (eC (.str "maps")) (aCons (eC (.int 1)) aNil))) (aCons (eTup (aCons (eC (.str "grids")) (aCons (eC (.int 2)) (aCons (eC (.int 1)) aNil)))) (aCons (eTup (aCons (eC (.str "spans")) aNil)) aNil)))))))))))
    (sSeq (sSet 1 (eBin gAdd (eV 1) (eOf (oLst (aCons (eTup (aCons (eC (.str "counts")) (aCons (eC (.int 3)) aNil))) (aCons (eTup (aCons (eC (.str "or")) (aCons (eC (.int 2)) aNil))) (aCons (eC (.str "or")) (aCons (eC .none) (aCons (eTup (aCons (eC (.str "product")) (aCons (eC (.int 0)) aNil))) (aCons (eTup (aCons (eC (.str "maps")) (aCons (eC (.bool true)) aNil))) (aCons (eOf (oLst (aCons (eC (.str "or")) aNil))) (aCons (eTup (aCons (eC (.str "most")) (aCons (eC (.int 2)) aNil))) (aCons (eTup aNil) aNil)))))))))))))
    (sRet (eBin gIx (eV 1) (eCall f__law_draw (aCons (eV 0) (aCons (eCb gLen (aCons (eV 1) aNil)) aNil)))))))
def f__law_no_idle : Nv → Rs Rv := ary 1 (body 1 (m__law_no_idle))
theorem ok__law_no_idle {P : Program} {w : World} {K : PySem.W.Frag} {mg : Str → Option Value} {base : Heap} {cl : Str → Option Value} {f : Addr} {fd : FuncData} (F : Fun K "_law_no_idle" "_law_no_idle" s__law_no_idle f fd) (hm : mg "_law_no_idle" = some (.ref f)) (T : Txt P w K mg base cl) (C__law_draw : Cal P w K mg base cl 1 "_law_draw" ["_law_state", "_law_many"] f__law_draw) :
    Cal P w K mg base cl 2 "_law_no_idle" ["_law_state"] f__law_no_idle :=
  cal_mk (g := m__law_no_idle) (m := 1) F hm sc__law_no_idle rfl (fun _ _ _ _ _ _ us hl => match us, hl with | [_], _ => rfl) fun cdv A outer s H E hr => by
    have tk : Takes (cxOf (L2.CX P w) P w K mg base ["_law_state", "_law_menu"] "_law_no_idle" (defScope s__law_no_idle) f cdv A outer s H E) (fun cls d _ H => E cls d H) := takes_of rfl rfl rfl rfl
    have po : PassesOwn (model P w) (cxOf (L2.CX P w) P w K mg base ["_law_state", "_law_menu"] "_law_no_idle" (defScope s__law_no_idle) f cdv A outer s H E).A (cxOf (L2.CX P w) P w K mg base ["_law_state", "_law_menu"] "_law_no_idle" (defScope s__law_no_idle) f cdv A outer s H E).env (cxOf (L2.CX P w) P w K mg base ["_law_state", "_law_menu"] "_law_no_idle" (defScope s__law_no_idle) f cdv A outer s H E).xe := passes_of rfl
    let cz : Cz := ⟨K, cl, fun _ => E⟩
    exact ⟨_, (bc (sset 1 sc__law_no_idle.nd (xof (olst (a1 (xtup (a1 xs (a1 xi a0))) (a1 (xtup (a1 xs (a1 xi a0))) (a1 (xtup (a1 xs (a1 xi a0))) (a1 (xtup (a1 xs a0)) (a1 (xtup (a1 xs a0)) (a1 (xtup (a1 xs (a1 xi a0))) (a1 (xtup (a1 xs (a1 xi (a1 xi a0)))) (a1 (xtup (a1 xs a0)) a0)))))))))))
      (bc (sset 1 sc__law_no_idle.nd (xadd (xv 1) (xof (olst (a1 (xtup (a1 xs (a1 xi a0))) (a1 (xtup (a1 xs (a1 xi a0))) (a1 xs (a1 xn (a1 (xtup (a1 xs (a1 xi a0))) (a1 (xtup (a1 xs (a1 xb a0))) (a1 (xof (olst (a1 xs a0))) (a1 (xtup (a1 xs (a1 xi a0))) (a1 (xtup a0) a0)))))))))))))
      (b1 (sret (xix (xv 1) (xcal rfl C__law_draw hr tk rfl (a1 (xv 0) (a1 (xcb cr_len len_ok rfl T.b.len (by decide +kernel) (a1 (xv 1) a0)) a0))))))))⟩
theorem sc__law_bad_plan : FnScope ["_law_state", "_law_plan_here", "_law_top", "_law_menu"] ["_law_state", "_law_plan_here"] (defScope s__law_bad_plan) := ⟨rfl, rfl, rfl, by decide +kernel, rfl, by decide +kernel, by decide +kernel⟩
def m__law_bad_plan : Nv → RS :=
  (sSeq (sSet 2 (eBin gAdd (eBin gIx (eV 1) (eC (.int 0))) (eCb gLen (aCons (eBin gIx (eV 1) (eC (.int 1))) aNil))))
    (sSeq (sSet 3 (eOf (oLst (aCons (eOf (oCb gLstOf (aCons (eV 1) aNil))) (aCons (eSl (eV 1) pN (pS (eC (.int 2)))) (aCons (eTup (aCons (eC (.int 0)) (aCons (eBin gIx (eV 1) (eC (.int 1))) (aCons (eBin gIx (eV 1) (eC (.int 2))) aNil)))) (aCons (eTup (aCons (eBin gIx (eV 1) (eC (.int 0))) (aCons (eOf (oCb gLstOf (aCons (eBin gIx (eV 1) (eC (.int 1))) aNil))) (aCons (eBin gIx (eV 1) (eC (.int 2))) aNil)))) (aCons (eC .none) (aCons (eC (.bool true)) (aCons (eTup aNil) aNil))))))))))
    (sSeq (sSet 3 (eBin gAdd (eV 3) (eOf (oLst (aCons (eTup (aCons (eBin gIx (eV 1) (eC (.int 0))) (aCons (eBin gIx (eV 1) (eC (.int 1))) (aCons (eBin gAdd (eBin gIx (eV 1) (eC (.int 2))) (eTup (aCons (eV 2) aNil))) aNil)))) (aCons (eTup (aCons (eBin gIx (eV 1) (eC (.int 0))) (aCons (eBin gIx (eV 1) (eC (.int 1))) (aCons (eBin gAdd (eBin gIx (eV 1) (eC (.int 2))) (eTup (aCons (eC (.bool false)) aNil))) aNil)))) (aCons (eBin gAdd (eV 1) (eTup (aCons (eTup aNil) aNil))) aNil)))))))
    (sSeq (sSet 3 (eBin gAdd (eV 3) (eOf (oLst (aCons (eTup (aCons (eBin gIx (eV 1) (eC (.int 0))) (aCons (eBin gAdd (eBin gIx (eV 1) (eC (.int 1))) (eTup (aCons (eTup (aCons (eC (.int 0)) (aCons (eV 2) aNil))) aNil))) (aCons (eBin gIx (eV 1) (eC (.int 2))) aNil)))) (aCons (eTup (aCons (eBin gIx (eV 1) (eC (.int 0))) (aCons (eBin gAdd (eBin gIx (eV 1) (eC (.int 1))) (eTup (aCons (eTup (aCons (eC (.int 0)) (aCons (eC (.bool true)) aNil))) aNil))) (aCons (eBin gIx (eV 1) (eC (.int 2))) aNil)))) aNil))))))
    (sRet (eBin gIx (eV 3) (eCall f__law_draw (aCons (eV 0) (aCons (eCb gLen (aCons (eV 3) aNil)) aNil)))))))))
def f__law_bad_plan : Nv → Rs Rv := ary 2 (body 2 (m__law_bad_plan))
theorem ok__law_bad_plan {P : Program} {w : World} {K : PySem.W.Frag} {mg : Str → Option Value} {base : Heap} {cl : Str → Option Value} {f : Addr} {fd : FuncData} (F : Fun K "_law_bad_plan" "_law_bad_plan" s__law_bad_plan f fd) (hm : mg "_law_bad_plan" = some (.ref f)) (T : Txt P w K mg base cl) (C__law_draw : Cal P w K mg base cl 1 "_law_draw" ["_law_state", "_law_many"] f__law_draw) :
    Cal P w K mg base cl 2 "_law_bad_plan" ["_law_state", "_law_plan_here"] f__law_bad_plan :=
  cal_mk (g := m__law_bad_plan) (m := 2) F hm sc__law_bad_plan rfl (fun _ _ _ _ _ _ us hl => match us, hl with | [_, _], _ => rfl) fun cdv A outer s H E hr => by
    have tk : Takes (cxOf (L2.CX P w) P w K mg base ["_law_state", "_law_plan_here", "_law_top", "_law_menu"] "_law_bad_plan" (defScope s__law_bad_plan) f cdv A outer s H E) (fun cls d _ H => E cls d H) := takes_of rfl rfl rfl rfl
    have po : PassesOwn (model P w) (cxOf (L2.CX P w) P w K mg base ["_law_state", "_law_plan_here", "_law_top", "_law_menu"] "_law_bad_plan" (defScope s__law_bad_plan) f cdv A outer s H E).A (cxOf (L2.CX P w) P w K mg base ["_law_state", "_law_plan_here", "_law_top", "_law_menu"] "_law_bad_plan" (defScope s__law_bad_plan) f cdv A outer s H E).env (cxOf (L2.CX P w) P w K mg base ["_law_state", "_law_plan_here", "_law_top", "_law_menu"] "_law_bad_plan" (defScope s__law_bad_plan) f cdv A outer s H E).xe := passes_of rfl
    let cz : Cz := ⟨K, cl, fun _ => E⟩
    exact ⟨_, (bc (sset 2 sc__law_bad_plan.nd (xadd (xix (xv 1) xi) (xcb cr_len len_ok rfl T.b.len (by decide +kernel) (a1 (xix (xv 1) xi) a0))))
      (bc (sset 3 sc__law_bad_plan.nd (xof (olst (a1 (xof (oct call_list_of lstOf_ok rfl T.b.list (by decide +kernel) (a1 (xv 1) a0))) (a1 (xsl (xv 1) p_no (p_so xi)) (a1 (xtup (a1 xi (a1 (xix (xv 1) xi) (a1 (xix (xv 1) xi) a0)))) (a1 (xtup (a1 (xix (xv 1) xi) (a1 (xof (oct call_list_of lstOf_ok rfl T.b.list (by decide +kernel) (a1 (xix (xv 1) xi) a0))) (a1 (xix (xv 1) xi) a0)))) (a1 xn (a1 xb (a1 (xtup a0) a0))))))))))
      (bc (sset 3 sc__law_bad_plan.nd (xadd (xv 3) (xof (olst (a1 (xtup (a1 (xix (xv 1) xi) (a1 (xix (xv 1) xi) (a1 (xadd (xix (xv 1) xi) (xtup (a1 (xv 2) a0))) a0)))) (a1 (xtup (a1 (xix (xv 1) xi) (a1 (xix (xv 1) xi) (a1 (xadd (xix (xv 1) xi) (xtup (a1 xb a0))) a0)))) (a1 (xadd (xv 1) (xtup (a1 (xtup a0) a0))) a0)))))))
      (bc (sset 3 sc__law_bad_plan.nd (xadd (xv 3) (xof (olst (a1 (xtup (a1 (xix (xv 1) xi) (a1 (xadd (xix (xv 1) xi) (xtup (a1 (xtup (a1 xi (a1 (xv 2) a0))) a0))) (a1 (xix (xv 1) xi) a0)))) (a1 (xtup (a1 (xix (xv 1) xi) (a1 (xadd (xix (xv 1) xi) (xtup (a1 (xtup (a1 xi (a1 xb a0))) a0))) (a1 (xix (xv 1) xi) a0)))) a0))))))
      (b1 (sret (xix (xv 3) (xcal rfl C__law_draw hr tk rfl (a1 (xv 0) (a1 (xcb cr_len len_ok rfl T.b.len (by decide +kernel) (a1 (xv 3) a0)) a0))))))))))⟩
theorem sc__law_bad_row : FnScope ["_law_state", "_law_row", "_law_menu"] ["_law_state", "_law_row"] (defScope s__law_bad_row) := ⟨rfl, rfl, rfl, by decide +kernel, rfl, by decide +kernel, by decide +kernel⟩
def m__law_bad_row : Nv → RS :=
  (sSeq (sSet 2 (eOf (oLst (aCons (eOf (oCb gLstOf (aCons (eV 1) aNil))) (aCons (eTup (aCons (eTup (aCons (eC (.int 1)) (aCons (eC (.int 2)) aNil))) (aCons (eTup (aCons (eC (.int 0)) (aCons (eC (.int 2)) aNil))) aNil))) (aCons (eTup (aCons (eTup (aCons (eC (.int 0)) (aCons (eC (.int 0)) aNil))) aNil)) (aCons (eTup (aCons (eTup (aCons (eC (.int 1)) (aCons (eC (.int 0)) aNil))) aNil)) (aCons (eTup (aCons (eTup (aCons (eC (.bool true)) (aCons (eC (.int 2)) aNil))) aNil)) (aCons (eTup (aCons (eTup (aCons (eC (.int 0)) (aCons (eC (.int 1)) aNil))) (aCons (eTup (aCons (eC (.int 0)) (aCons (eC (.int 1)) aNil))) aNil))) (aCons (eC .none) (aCons (eTup (aCons (eTup (aCons (eC (.int 0)) (aCons (eC (.int 1)) (aCons (eC (.int 2)) aNil)))) aNil)) aNil)))))))))))
    (sSeq (sSet 2 (eBin gAdd (eV 2) (eOf (oLst (aCons (eTup (aCons (eTup (aCons (eUn (fun | .int i => some (.int (-i)) | _ => none) (eC (.int 1))) (aCons (eC (.int 1)) aNil))) aNil)) (aCons (eC (.str "0-1")) (aCons (eC (.int 0)) (aCons (eC (.bool true)) (aCons (eTup (aCons (eOf (oLst (aCons (eC (.int 0)) (aCons (eC (.int 1)) aNil)))) aNil)) (aCons (eBin gAdd (eV 1) (eTup (aCons (eTup (aCons (eC (.int 0)) (aCons (eC (.int 1)) (aCons (eC (.int 2)) aNil)))) aNil))) (aCons (eBin gAdd (eV 1) (eTup (aCons (eC .none) aNil))) (aCons (eTup (aCons (eTup (aCons (eC (.int 0)) (aCons (eC (.bool false)) aNil))) aNil)) aNil))))))))))))
    (sRet (eBin gIx (eV 2) (eCall f__law_draw (aCons (eV 0) (aCons (eCb gLen (aCons (eV 2) aNil)) aNil)))))))
def f__law_bad_row : Nv → Rs Rv := ary 2 (body 1 (m__law_bad_row))
theorem ok__law_bad_row {P : Program} {w : World} {K : PySem.W.Frag} {mg : Str → Option Value} {base : Heap} {cl : Str → Option Value} {f : Addr} {fd : FuncData} (F : Fun K "_law_bad_row" "_law_bad_row" s__law_bad_row f fd) (hm : mg "_law_bad_row" = some (.ref f)) (T : Txt P w K mg base cl) (C__law_draw : Cal P w K mg base cl 1 "_law_draw" ["_law_state", "_law_many"] f__law_draw) :
    Cal P w K mg base cl 2 "_law_bad_row" ["_law_state", "_law_row"] f__law_bad_row :=
  cal_mk (g := m__law_bad_row) (m := 1) F hm sc__law_bad_row rfl (fun _ _ _ _ _ _ us hl => match us, hl with | [_, _], _ => rfl) fun cdv A outer s H E hr => by
    have tk : Takes (cxOf (L2.CX P w) P w K mg base ["_law_state", "_law_row", "_law_menu"] "_law_bad_row" (defScope s__law_bad_row) f cdv A outer s H E) (fun cls d _ H => E cls d H) := takes_of rfl rfl rfl rfl
    have po : PassesOwn (model P w) (cxOf (L2.CX P w) P w K mg base ["_law_state", "_law_row", "_law_menu"] "_law_bad_row" (defScope s__law_bad_row) f cdv A outer s H E).A (cxOf (L2.CX P w) P w K mg base ["_law_state", "_law_row", "_law_menu"] "_law_bad_row" (defScope s__law_bad_row) f cdv A outer s H E).env (cxOf (L2.CX P w) P w K mg base ["_law_state", "_law_row", "_law_menu"] "_law_bad_row" (defScope s__law_bad_row) f cdv A outer s H E).xe := passes_of rfl
    let cz : Cz := ⟨K, cl, fun _ => E⟩
    exact ⟨_, (bc (sset 2 sc__law_bad_row.nd (xof (olst (a1 (xof (oct call_list_of lstOf_ok rfl T.b.list (by decide +kernel) (a1 (xv 1) a0))) (a1 (xtup (a1 (xtup (a1 xi (a1 xi a0))) (a1 (xtup (a1 xi (a1 xi a0))) a0))) (a1 (xtup (a1 (xtup (a1 xi (a1 xi a0))) a0)) (a1 (xtup (a1 (xtup (a1 xi (a1 xi a0))) a0)) (a1 (xtup (a1 (xtup (a1 xb (a1 xi a0))) a0)) (a1 (xtup (a1 (xtup (a1 xi (a1 xi a0))) (a1 (xtup (a1 xi (a1 xi a0))) a0))) (a1 xn (a1 (xtup (a1 (xtup (a1 xi (a1 xi (a1 xi a0)))) a0)) a0)))))))))))
      (bc (sset 2 sc__law_bad_row.nd (xadd (xv 2) (xof (olst (a1 (xtup (a1 (xtup (a1 (xneg xi) (a1 xi a0))) a0)) (a1 xs (a1 xi (a1 xb (a1 (xtup (a1 (xof (olst (a1 xi (a1 xi a0)))) a0)) (a1 (xadd (xv 1) (xtup (a1 (xtup (a1 xi (a1 xi (a1 xi a0)))) a0))) (a1 (xadd (xv 1) (xtup (a1 xn a0))) (a1 (xtup (a1 (xtup (a1 xi (a1 xb a0))) a0)) a0))))))))))))
      (b1 (sret (xix (xv 2) (xcal rfl C__law_draw hr tk rfl (a1 (xv 0) (a1 (xcb cr_len len_ok rfl T.b.len (by decide +kernel) (a1 (xv 2) a0)) a0))))))))⟩
theorem sc_is_stretch : FnScope ["thing", "low", "high"] ["thing"] (defScope s_is_stretch) := ⟨rfl, rfl, rfl, by decide +kernel, rfl, by decide +kernel, by decide +kernel⟩
def m_is_stretch : Nv → RS :=
  (sSeq (sIf (tNotF (tVal (eCall f_is_group (aCons (eV 0) (aCons (eC (.int 2)) aNil))))) (sRet (eC (.bool false))) sNext)
    (sSeq (sAsg (eV 0) (gT 2 (gsC (gN 1) (gsC (gN 2) gsN))))
    (sRet (eAnd (eCall f_is_number (aCons (eV 1) aNil)) (eAnd (eCall f_is_number (aCons (eV 2) aNil)) (eBin gLt (eV 1) (eV 2)))))))
def f_is_stretch : Nv → Rs Rv := ary 1 (body 2 (m_is_stretch))
theorem ok_is_stretch {P : Program} {w : World} {K : PySem.W.Frag} {mg : Str → Option Value} {base : Heap} {cl : Str → Option Value} {f : Addr} {fd : FuncData} (F : Fun K "is_stretch" "is_stretch" s_is_stretch f fd) (hm : mg "is_stretch" = some (.ref f)) (T : Txt P w K mg base cl) (C_is_group : Cal P w K mg base cl 1 "is_group" ["thing", "many"] f_is_group) (C_is_number : Cal P w K mg base cl 2 "is_number" ["thing"] f_is_number) :
    Cal P w K mg base cl 3 "is_stretch" ["thing"] f_is_stretch :=
  cal_mk (g := m_is_stretch) (m := 2) F hm sc_is_stretch rfl (fun _ _ _ _ _ _ us hl => match us, hl with | [_], _ => rfl) fun cdv A outer s H E hr => by
    have tk : Takes (cxOf (L2.CX P w) P w K mg base ["thing", "low", "high"] "is_stretch" (defScope s_is_stretch) f cdv A outer s H E) (fun cls d _ H => E cls d H) := takes_of rfl rfl rfl rfl
    have po : PassesOwn (model P w) (cxOf (L2.CX P w) P w K mg base ["thing", "low", "high"] "is_stretch" (defScope s_is_stretch) f cdv A outer s H E).A (cxOf (L2.CX P w) P w K mg base ["thing", "low", "high"] "is_stretch" (defScope s_is_stretch) f cdv A outer s H E).env (cxOf (L2.CX P w) P w K mg base ["thing", "low", "high"] "is_stretch" (defScope s_is_stretch) f cdv A outer s H E).xe := passes_of rfl
    let cz : Cz := ⟨K, cl, fun _ => E⟩
    exact ⟨_, (bc (sif (xtnot (xt (xcal rfl C_is_group hr tk rfl (a1 (xv 0) (a1 xi a0))))) (b1 (sret xb)) b0)
      (bc (sasg (xv 0) (gtup rfl (gs1 (gx 1 sc_is_stretch.nd) (gs1 (gx 2 sc_is_stretch.nd) gs0))))
      (b1 (sret (xand (xcal rfl C_is_number hr tk rfl (a1 (xv 1) a0)) (xand (xcal rfl C_is_number hr tk rfl (a1 (xv 2) a0)) (xone (xcmp c_lt (xv 1) (xv 2)))))))))⟩
theorem sc_need : FnScope ["fit", "word"] ["fit", "word"] (defScope s_need) := ⟨rfl, rfl, rfl, by decide +kernel, rfl, by decide +kernel, by decide +kernel⟩
def m_need : Nv → RS :=
  (sIf (tNotF (tVal (eV 0))) (sRaise "NotUsable" "word" "at" (aCons (eV 1) (aCons (eUn (fun | .int i => some (.int (-i)) | _ => none) (eC (.int 1))) aNil))) sNext)
def f_need : Nv → Rs Rv := ary 2 (body 0 (m_need))
theorem ok_need {P : Program} {w : World} {K : PySem.W.Frag} {mg : Str → Option Value} {base : Heap} {cl : Str → Option Value} {f : Addr} {fd : FuncData} (F : Fun K "need" "need" s_need f fd) (hm : mg "need" = some (.ref f)) (T : Txt P w K mg base cl) :
    Cal P w K mg base cl 3 "need" ["fit", "word"] f_need :=
  cal_mk (g := m_need) (m := 0) F hm sc_need rfl (fun _ _ _ _ _ _ us hl => match us, hl with | [_, _], _ => rfl) fun cdv A outer s H E hr => by
    have tk : Takes (cxOf (L2.CX P w) P w K mg base ["fit", "word"] "need" (defScope s_need) f cdv A outer s H E) (fun cls d _ H => E cls d H) := takes_of rfl rfl rfl rfl
    have po : PassesOwn (model P w) (cxOf (L2.CX P w) P w K mg base ["fit", "word"] "need" (defScope s_need) f cdv A outer s H E).A (cxOf (L2.CX P w) P w K mg base ["fit", "word"] "need" (defScope s_need) f cdv A outer s H E).env (cxOf (L2.CX P w) P w K mg base ["fit", "word"] "need" (defScope s_need) f cdv A outer s H E).xe := passes_of rfl
    let cz : Cz := ⟨K, cl, fun _ => E⟩
    exact ⟨_, (b1 (sif (xtnot (xt (xv 0))) (b1 (sraise rfl T.x_NotUsable T.e_NotUsable hr tk rfl rfl (a1 (xv 1) (a1 (xneg xi) a0)))) b0))⟩
theorem sc_is_operation : FnScope ["thing", "word", "number"] ["thing"] (defScope s_is_operation) := ⟨rfl, rfl, rfl, by decide +kernel, rfl, by decide +kernel, by decide +kernel⟩
def m_is_operation : Nv → RS :=
  (sSeq (sIf (tOrF (tNotF (tVal (eIsi "tuple" (eV 0)))) (tVal (eBin (gEq false) (eCb gLen (aCons (eV 0) aNil)) (eC (.int 0))))) (sRet (eC (.bool false))) sNext)
    (sSeq (sSet 1 (eBin gIx (eV 0) (eC (.int 0))))
    (sSeq (sIf (tOrF (tNotF (tVal (eIsi "str" (eV 1)))) (tVal (eUn (gTbNin c_NUMBERS_BEHIND) (eV 1)))) (sRet (eC (.bool false))) sNext)
    (sRet (eAnd (eBin (gEq false) (eCb gLen (aCons (eV 0) aNil)) (eBin gAdd (eC (.int 1)) (eUn (gTbIx c_NUMBERS_BEHIND) (eV 1)))) (eCb gAll (aCons (eOf (oComp [2] (iT (eSl (eV 0) (pS (eC (.int 1))) pN)) (gN 2) fYes (eCall f_is_positive (aCons (eV 2) aNil)))) aNil)))))))
def f_is_operation : Nv → Rs Rv := ary 1 (body 2 (m_is_operation))
theorem ok_is_operation {P : Program} {w : World} {K : PySem.W.Frag} {mg : Str → Option Value} {base : Heap} {cl : Str → Option Value} {f : Addr} {fd : FuncData} (F : Fun K "is_operation" "is_operation" s_is_operation f fd) (hm : mg "is_operation" = some (.ref f)) (T : Txt P w K mg base cl) (C_is_positive : Cal P w K mg base cl 2 "is_positive" ["thing"] f_is_positive) :
    Cal P w K mg base cl 3 "is_operation" ["thing"] f_is_operation :=
  cal_mk (g := m_is_operation) (m := 2) F hm sc_is_operation rfl (fun _ _ _ _ _ _ us hl => match us, hl with | [_], _ => rfl) fun cdv A outer s H E hr => by
    have tk : Takes (cxOf (L2.CX P w) P w K mg base ["thing", "word", "number"] "is_operation" (defScope s_is_operation) f cdv A outer s H E) (fun cls d _ H => E cls d H) := takes_of rfl rfl rfl rfl
    have po : PassesOwn (model P w) (cxOf (L2.CX P w) P w K mg base ["thing", "word", "number"] "is_operation" (defScope s_is_operation) f cdv A outer s H E).A (cxOf (L2.CX P w) P w K mg base ["thing", "word", "number"] "is_operation" (defScope s_is_operation) f cdv A outer s H E).env (cxOf (L2.CX P w) P w K mg base ["thing", "word", "number"] "is_operation" (defScope s_is_operation) f cdv A outer s H E).xe := passes_of rfl
    let cz : Cz := ⟨K, cl, fun _ => E⟩
    exact ⟨_, (bc (sif (xtw (wor (xtnot (xt (xisi kit_tuple rfl T.b.isinstance rfl T.b.tuple (by decide +kernel) (xv 0)))) (wor1 (xtcmp (c_eq hr) (xcb cr_len len_ok rfl T.b.len (by decide +kernel) (a1 (xv 0) a0)) xi)))) (b1 (sret xb)) b0)
      (bc (sset 1 sc_is_operation.nd (xix (xv 0) xi))
      (bc (sif (xtw (wor (xtnot (xt (xisi kit_str rfl T.b.isinstance rfl T.b.str (by decide +kernel) (xv 1)))) (wor1 (xtbnin rfl rfl T.g_NUMBERS_BEHIND T.d_NUMBERS_BEHIND (xv 1))))) (b1 (sret xb)) b0)
      (b1 (sret (xand (xcmp (c_eq hr) (xcb cr_len len_ok rfl T.b.len (by decide +kernel) (a1 (xv 0) a0)) (xadd xi (xtbix rfl rfl T.g_NUMBERS_BEHIND T.d_NUMBERS_BEHIND (xv 1)))) (xone (xcb (cr_all rfl) all_ok rfl T.b.all (by decide +kernel) (a1 (xof (ocomp (own := [("number", 2)]) rfl sc_is_operation.nd (itup (xsl (xv 0) (p_so xi) p_no)) (blkOk_of (N0 := ["thing", "word", "number"]) (o0 := defScope s_is_operation) rfl rfl (by decide +kernel)) (gin_name (by decide)) mono_name (fun _ _ _ _ _ => (gx 2 sc_is_operation.nd)) (fun _ _ _ _ _ => t0) (fun _ _ _ _ _ => (xcalB rfl C_is_positive hr rfl (a1 (xv 2) a0))) s H)) a0)))))))))⟩
theorem sc_folded : FnScope ["operation", "values", "result", "value"] ["operation", "values"] (defScope s_folded) := ⟨rfl, rfl, rfl, by decide +kernel, rfl, by decide +kernel, by decide +kernel⟩
def lp_folded_0 : Nv → RS := (sSet 2 (eCall f_joined (aCons (eV 0) (aCons (eV 2) (aCons (eV 3) aNil)))))
def m_folded : Nv → RS :=
  (sSeq (sSet 2 (eBin gIx (eV 1) (eC (.int 0))))
    (sSeq (sFor (iT (eSl (eV 1) (pS (eC (.int 1))) pN)) (gN 3) (lp_folded_0))
    (sRet (eV 2))))
def f_folded : Nv → Rs Rv := ary 2 (body 2 (m_folded))
theorem ok_folded {P : Program} {w : World} {K : PySem.W.Frag} {mg : Str → Option Value} {base : Heap} {cl : Str → Option Value} {f : Addr} {fd : FuncData} (F : Fun K "folded" "folded" s_folded f fd) (hm : mg "folded" = some (.ref f)) (T : Txt P w K mg base cl) (C_joined : Cal P w K mg base cl 2 "joined" ["operation", "one", "other"] f_joined) :
    Cal P w K mg base cl 3 "folded" ["operation", "values"] f_folded :=
  cal_mk (g := m_folded) (m := 2) F hm sc_folded rfl (fun _ _ _ _ _ _ us hl => match us, hl with | [_, _], _ => rfl) fun cdv A outer s H E hr => by
    have tk : Takes (cxOf (L2.CX P w) P w K mg base ["operation", "values", "result", "value"] "folded" (defScope s_folded) f cdv A outer s H E) (fun cls d _ H => E cls d H) := takes_of rfl rfl rfl rfl
    have po : PassesOwn (model P w) (cxOf (L2.CX P w) P w K mg base ["operation", "values", "result", "value"] "folded" (defScope s_folded) f cdv A outer s H E).A (cxOf (L2.CX P w) P w K mg base ["operation", "values", "result", "value"] "folded" (defScope s_folded) f cdv A outer s H E).env (cxOf (L2.CX P w) P w K mg base ["operation", "values", "result", "value"] "folded" (defScope s_folded) f cdv A outer s H E).xe := passes_of rfl
    let cz : Cz := ⟨K, cl, fun _ => E⟩
    exact ⟨_, (bc (sset 2 sc_folded.nd (xix (xv 1) xi))
      (bc (sfor po rfl (itup (xsl (xv 1) (p_so xi) p_no)) (gx 3 sc_folded.nd) (b1 (sset 2 sc_folded.nd (xcal rfl C_joined hr tk rfl (a1 (xv 0) (a1 (xv 2) (a1 (xv 3) a0)))))))
      (b1 (sret (xv 2)))))⟩
theorem sc__is_name : FnScope ["thing", "bound"] ["thing", "bound"] (defScope s__is_name) := ⟨rfl, rfl, rfl, by decide +kernel, rfl, by decide +kernel, by decide +kernel⟩
def m__is_name : Nv → RS :=
  (sRet (eAnd (eCall f_is_number (aCons (eV 0) aNil)) (eBin gLt (eV 0) (eV 1))))
def f__is_name : Nv → Rs Rv := ary 2 (body 0 (m__is_name))
theorem ok__is_name {P : Program} {w : World} {K : PySem.W.Frag} {mg : Str → Option Value} {base : Heap} {cl : Str → Option Value} {f : Addr} {fd : FuncData} (F : Fun K "_is_name" "_is_name" s__is_name f fd) (hm : mg "_is_name" = some (.ref f)) (T : Txt P w K mg base cl) (C_is_number : Cal P w K mg base cl 2 "is_number" ["thing"] f_is_number) :
    Cal P w K mg base cl 3 "_is_name" ["thing", "bound"] f__is_name :=
  cal_mk (g := m__is_name) (m := 0) F hm sc__is_name rfl (fun _ _ _ _ _ _ us hl => match us, hl with | [_, _], _ => rfl) fun cdv A outer s H E hr => by
    have tk : Takes (cxOf (L2.CX P w) P w K mg base ["thing", "bound"] "_is_name" (defScope s__is_name) f cdv A outer s H E) (fun cls d _ H => E cls d H) := takes_of rfl rfl rfl rfl
    have po : PassesOwn (model P w) (cxOf (L2.CX P w) P w K mg base ["thing", "bound"] "_is_name" (defScope s__is_name) f cdv A outer s H E).A (cxOf (L2.CX P w) P w K mg base ["thing", "bound"] "_is_name" (defScope s__is_name) f cdv A outer s H E).env (cxOf (L2.CX P w) P w K mg base ["thing", "bound"] "_is_name" (defScope s__is_name) f cdv A outer s H E).xe := passes_of rfl
    let cz : Cz := ⟨K, cl, fun _ => E⟩
    exact ⟨_, (b1 (sret (xand (xcal rfl C_is_number hr tk rfl (a1 (xv 0) a0)) (xone (xcmp c_lt (xv 0) (xv 1))))))⟩
theorem sc_values_of_names : FnScope ["plan", "operation", "feed", "values", "one", "other"] ["plan", "operation", "feed"] (defScope s_values_of_names) := ⟨rfl, rfl, rfl, by decide +kernel, rfl, by decide +kernel, by decide +kernel⟩
def lp_values_of_names_0 : Nv → RS := (sApp 3 (aCons (eCall f_joined (aCons (eV 1) (aCons (eBin gIx (eV 3) (eV 4)) (aCons (eBin gIx (eV 3) (eV 5)) aNil)))) aNil))
def m_values_of_names : Nv → RS :=
  (sSeq (sNew 3 (oCb gLstOf (aCons (eV 2) aNil)))
    (sSeq (sFor (iT (eBin gIx (eV 0) (eC (.int 1)))) (gT 2 (gsC (gN 4) (gsC (gN 5) gsN))) (lp_values_of_names_0))
    (sRet (eV 3))))
def f_values_of_names : Nv → Rs Rv := ary 3 (body 3 (m_values_of_names))
theorem ok_values_of_names {P : Program} {w : World} {K : PySem.W.Frag} {mg : Str → Option Value} {base : Heap} {cl : Str → Option Value} {f : Addr} {fd : FuncData} (F : Fun K "values_of_names" "values_of_names" s_values_of_names f fd) (hm : mg "values_of_names" = some (.ref f)) (T : Txt P w K mg base cl) (C_joined : Cal P w K mg base cl 2 "joined" ["operation", "one", "other"] f_joined) :
    Cal P w K mg base cl 3 "values_of_names" ["plan", "operation", "feed"] f_values_of_names :=
  cal_mk (g := m_values_of_names) (m := 3) F hm sc_values_of_names rfl (fun _ _ _ _ _ _ us hl => match us, hl with | [_, _, _], _ => rfl) fun cdv A outer s H E hr => by
    have tk : Takes (cxOf (L2.CX P w) P w K mg base ["plan", "operation", "feed", "values", "one", "other"] "values_of_names" (defScope s_values_of_names) f cdv A outer s H E) (fun cls d _ H => E cls d H) := takes_of rfl rfl rfl rfl
    have po : PassesOwn (model P w) (cxOf (L2.CX P w) P w K mg base ["plan", "operation", "feed", "values", "one", "other"] "values_of_names" (defScope s_values_of_names) f cdv A outer s H E).A (cxOf (L2.CX P w) P w K mg base ["plan", "operation", "feed", "values", "one", "other"] "values_of_names" (defScope s_values_of_names) f cdv A outer s H E).env (cxOf (L2.CX P w) P w K mg base ["plan", "operation", "feed", "values", "one", "other"] "values_of_names" (defScope s_values_of_names) f cdv A outer s H E).xe := passes_of rfl
    let cz : Cz := ⟨K, cl, fun _ => E⟩
    exact ⟨_, (bc (snew 3 sc_values_of_names.nd (oct call_list_of lstOf_ok rfl T.b.list (by decide +kernel) (a1 (xv 2) a0)))
      (bc (sfor po rfl (itup (xix (xv 0) xi)) (gtup rfl (gs1 (gx 4 sc_values_of_names.nd) (gs1 (gx 5 sc_values_of_names.nd) gs0))) (b1 (sappn 3 (xv 3) (a1 (xcal rfl C_joined hr tk rfl (a1 (xv 1) (a1 (xix (xv 3) (xv 4)) (a1 (xix (xv 3) (xv 5)) a0)))) a0))))
      (b1 (sret (xv 3)))))⟩
theorem sc__law_plan : FnScope ["_law_state", "_law_size", "_law_row", "_law_words_here", "_law_joins", "_law_answers", "_law_keep", "_law_flaws", "_law_made", "_law_ask", "_law_parts", "_law_t", "_law_e", "_law_at", "_law_pair", "_law_flaw", "_law_word"] ["_law_state", "_law_size", "_law_row"] (defScope s__law_plan) := ⟨rfl, rfl, rfl, by decide +kernel, rfl, by decide +kernel, by decide +kernel⟩
def lp__law_plan_0 : Nv → RS := (sSeq (sSet 13 (eCall f__law_draw (aCons (eV 0) (aCons (eBin Dl.gSub (eCb gLen (aCons (eV 10) aNil)) (eC (.int 1))) aNil))))
    (sSeq (sSet 14 (eTup (aCons (eBin gIx (eV 10) (eV 13)) (aCons (eBin gIx (eV 10) (eBin gAdd (eV 13) (eC (.int 1)))) aNil))))
    (sSeq (sSet 15 (eBin gIx (eV 7) (eCall f__law_draw (aCons (eV 0) (aCons (eCb gLen (aCons (eV 7) aNil)) aNil)))))
    (sSeq (sIf (tVal (eBin gGt (eV 15) (eC (.int 0)))) (sSet 14 (eCall f__law_flawed (aCons (eV 0) (aCons (eV 15) (aCons (eV 3) (aCons (eV 4) (aCons (eBin gIx (eV 14) (eC (.int 0))) (aCons (eBin gIx (eV 14) (eC (.int 1))) aNil)))))))) sNext)
    (sSeq (sSet 16 (eBin gAdd (eBin gIx (eV 3) (eBin gIx (eV 14) (eC (.int 0)))) (eBin gIx (eV 3) (eBin gIx (eV 14) (eC (.int 1))))))
    (sSeq (sIf (tVal (eBin gGt (eCb gLen (aCons (eV 16) aNil)) (eC (.int 24)))) (sSeq (sSet 16 (eBin gIx (eV 3) (eBin gIx (eV 10) (eV 13))))
    (sDput 8 (eBin gIx (eV 10) (eV 13)) (eCb gStr (aCons (eV 16) aNil)))) (sIf (tOrF (tVal (eDin true 8 (eCb gStr (aCons (eV 16) aNil)))) (tNotF (tOrF (tVal (eV 6)) (tVal (eBin gGt (eCb gLen (aCons (eV 4) aNil)) (eC (.int 11))))))) (sSeq (sDput 8 (eCb gLen (aCons (eV 3) aNil)) (eCb gStr (aCons (eV 16) aNil)))
    (sSeq (sApp 4 (aCons (eV 14) aNil))
    (sApp 3 (aCons (eV 16) aNil)))) sNext))
    (sSet 10 (eBin gAdd (eBin gAdd (eSl (eV 10) pN (pS (eV 13))) (eOf (oLst (aCons (eDget 8 (eCb gStr (aCons (eV 16) aNil))) aNil)))) (eSl (eV 10) (pS (eBin gAdd (eV 13) (eC (.int 2)))) pN)))))))))
def lp__law_plan_1 : Nv → RS := (sSeq (sSet 10 (eOf (oRg2 (eBin gIx (eV 9) (eC (.int 0))) (eBin gIx (eV 9) (eC (.int 1))))))
    (sSeq (sFor (iR1 (aCons (eBin Dl.gSub (eBin Dl.gSub (eBin gIx (eV 9) (eC (.int 1))) (eBin gIx (eV 9) (eC (.int 0)))) (eC (.int 1))) aNil)) (gN 11) (lp__law_plan_0))
    (sApp 5 (aCons (eBin gIx (eV 10) (eC (.int 0))) aNil))))
def m__law_plan : Nv → RS :=
  (sSeq (sNew 3 (oComp [12] (iR1 (aCons (eV 1) aNil)) (gN 12) fYes (eOf (oLst (aCons (eV 12) aNil)))))
    (sSeq (sNew 4 (oLst aNil))
    (sSeq (sNew 5 (oLst aNil))
    (sSeq (sSet 6 (eBin gGt (eCall f__law_draw (aCons (eV 0) (aCons (eC (.int 3)) aNil))) (eC (.int 0))))
    (sSeq (sSet 7 (eOf (oLst (aCons (eOf (oLst (aCons (eC (.int 0)) aNil))) (aCons (eOf (oLst (aCons (eC (.int 0)) (aCons (eC (.int 0)) (aCons (eC (.int 0)) (aCons (eC (.int 1)) aNil)))))) (aCons (eOf (oLst (aCons (eC (.int 0)) (aCons (eC (.int 1)) (aCons (eC (.int 0)) (aCons (eC (.int 2)) (aCons (eC (.int 3)) aNil))))))) (aCons (eOf (oLst (aCons (eC (.int 0)) (aCons (eC (.int 0)) (aCons (eC (.int 0)) (aCons (eC (.int 0)) (aCons (eC (.int 0)) (aCons (eC (.int 0)) (aCons (eC (.int 1)) (aCons (eC (.int 2)) (aCons (eC (.int 3)) (aCons (eC (.int 4)) aNil)))))))))))) aNil)))))))
    (sSeq (sSet 7 (eBin gIx (eV 7) (eCall f__law_draw (aCons (eV 0) (aCons (eC (.int 4)) aNil)))))
    (sSeq (sDnew 8)
    (sSeq (sFor (iT (eV 2)) (gN 9) (lp__law_plan_1))
    (sRet (eTup (aCons (eV 1) (aCons (eCb gTupOf (aCons (eV 4) aNil)) (aCons (eCb gTupOf (aCons (eV 5) aNil)) aNil)))))))))))))
def f__law_plan : Nv → Rs Rv := ary 3 (body 14 (m__law_plan))
theorem ok__law_plan {P : Program} {w : World} {K : PySem.W.Frag} {mg : Str → Option Value} {base : Heap} {cl : Str → Option Value} {f : Addr} {fd : FuncData} (F : Fun K "_law_plan" "_law_plan" s__law_plan f fd) (hm : mg "_law_plan" = some (.ref f)) (T : Txt P w K mg base cl) (C__law_draw : Cal P w K mg base cl 1 "_law_draw" ["_law_state", "_law_many"] f__law_draw) (C__law_flawed : Cal P w K mg base cl 2 "_law_flawed" ["_law_state", "_law_flaw", "_law_words_here", "_law_joins", "_law_left", "_law_right"] f__law_flawed) :
    CalG P w K mg base cl 3 "_law_plan" ["_law_state", "_law_size", "_law_row"] f__law_plan :=
  calG_mk (g := m__law_plan) (m := 14) F hm sc__law_plan rfl (fun _ _ _ _ _ _ us hl => match us, hl with | [_, _, _], _ => rfl) fun cdv A outer s H E gd hr => by
    have tk : Takes (cxOf (L2.CX P w) P w K mg base ["_law_state", "_law_size", "_law_row", "_law_words_here", "_law_joins", "_law_answers", "_law_keep", "_law_flaws", "_law_made", "_law_ask", "_law_parts", "_law_t", "_law_e", "_law_at", "_law_pair", "_law_flaw", "_law_word"] "_law_plan" (defScope s__law_plan) f cdv A outer s H E) (fun cls d _ H => E cls d H) := takes_of rfl rfl rfl rfl
    have po : PassesOwn (model P w) (cxOf (L2.CX P w) P w K mg base ["_law_state", "_law_size", "_law_row", "_law_words_here", "_law_joins", "_law_answers", "_law_keep", "_law_flaws", "_law_made", "_law_ask", "_law_parts", "_law_t", "_law_e", "_law_at", "_law_pair", "_law_flaw", "_law_word"] "_law_plan" (defScope s__law_plan) f cdv A outer s H E).A (cxOf (L2.CX P w) P w K mg base ["_law_state", "_law_size", "_law_row", "_law_words_here", "_law_joins", "_law_answers", "_law_keep", "_law_flaws", "_law_made", "_law_ask", "_law_parts", "_law_t", "_law_e", "_law_at", "_law_pair", "_law_flaw", "_law_word"] "_law_plan" (defScope s__law_plan) f cdv A outer s H E).env (cxOf (L2.CX P w) P w K mg base ["_law_state", "_law_size", "_law_row", "_law_words_here", "_law_joins", "_law_answers", "_law_keep", "_law_flaws", "_law_made", "_law_ask", "_law_parts", "_law_t", "_law_e", "_law_at", "_law_pair", "_law_flaw", "_law_word"] "_law_plan" (defScope s__law_plan) f cdv A outer s H E).xe := passes_of rfl
    let cz : Cz := ⟨K, cl, fun _ => E⟩
    exact ⟨_, (bc (snewc 3 (own := [("_law_e", 12)]) rfl sc__law_plan.nd (irng1 rfl T.b.range (a1 (xv 1) a0)) (blkOk_of (N0 := ["_law_state", "_law_size", "_law_row", "_law_words_here", "_law_joins", "_law_answers", "_law_keep", "_law_flaws", "_law_made", "_law_ask", "_law_parts", "_law_t", "_law_e", "_law_at", "_law_pair", "_law_flaw", "_law_word"]) (o0 := defScope s__law_plan) rfl rfl (by decide +kernel)) (gin_name (by decide)) mono_name (fun _ _ _ _ _ => (gx 12 sc__law_plan.nd)) (fun _ _ _ _ _ => t0) (fun _ _ _ _ _ => (xof (olst (a1 (xv 12) a0)))) s H)
      (bc (snew 4 sc__law_plan.nd (olst a0))
      (bc (snew 5 sc__law_plan.nd (olst a0))
      (bc (sset 6 sc__law_plan.nd (xcmp c_gt (xcal rfl C__law_draw hr tk rfl (a1 (xv 0) (a1 xi a0))) xi))
      (bc (sset 7 sc__law_plan.nd (xof (olst (a1 (xof (olst (a1 xi a0))) (a1 (xof (olst (a1 xi (a1 xi (a1 xi (a1 xi a0)))))) (a1 (xof (olst (a1 xi (a1 xi (a1 xi (a1 xi (a1 xi a0))))))) (a1 (xof (olst (a1 xi (a1 xi (a1 xi (a1 xi (a1 xi (a1 xi (a1 xi (a1 xi (a1 xi (a1 xi a0)))))))))))) a0)))))))
      (bc (sset 7 sc__law_plan.nd (xix (xv 7) (xcal rfl C__law_draw hr tk rfl (a1 (xv 0) (a1 xi a0)))))
      (bc (sdnew 8 sc__law_plan.nd)
      (bc (sfor po rfl (itup (xv 2)) (gx 9 sc__law_plan.nd) (bc (sset 10 sc__law_plan.nd (xof (orng2 rfl rfl T.b.list rfl T.b.range (xix (xv 9) xi) (xix (xv 9) xi))))
      (bc (sfor po rfl (irng1 rfl T.b.range (a1 (xsub (xsub (xix (xv 9) xi) (xix (xv 9) xi)) xi) a0)) (gx 11 sc__law_plan.nd) (bc (sset 13 sc__law_plan.nd (xcal rfl C__law_draw hr tk rfl (a1 (xv 0) (a1 (xsub (xcb cr_len len_ok rfl T.b.len (by decide +kernel) (a1 (xv 10) a0)) xi) a0))))
      (bc (sset 14 sc__law_plan.nd (xtup (a1 (xix (xv 10) (xv 13)) (a1 (xix (xv 10) (xadd (xv 13) xi)) a0))))
      (bc (sset 15 sc__law_plan.nd (xix (xv 7) (xcal rfl C__law_draw hr tk rfl (a1 (xv 0) (a1 (xcb cr_len len_ok rfl T.b.len (by decide +kernel) (a1 (xv 7) a0)) a0)))))
      (bc (sif (xtcmp c_gt (xv 15) xi) (b1 (sset 14 sc__law_plan.nd (xcal rfl C__law_flawed hr tk rfl (a1 (xv 0) (a1 (xv 15) (a1 (xv 3) (a1 (xv 4) (a1 (xix (xv 14) xi) (a1 (xix (xv 14) xi) a0))))))))) b0)
      (bc (sset 16 sc__law_plan.nd (xadd (xix (xv 3) (xix (xv 14) xi)) (xix (xv 3) (xix (xv 14) xi))))
      (bc (sif (xtcmp c_gt (xcb cr_len len_ok rfl T.b.len (by decide +kernel) (a1 (xv 16) a0)) xi) (bc (sset 16 sc__law_plan.nd (xix (xv 3) (xix (xv 10) (xv 13))))
      (b1 (sdput 8 hr (xv 8) (xix (xv 10) (xv 13)) (xct (cr_str gd hr.un200) str_ok rfl T.b.str (by decide +kernel) (a1 (xv 16) a0))))) (b1 (sif (xtw (wor (xtdnin 8 hr (xv 8) (xct (cr_str gd hr.un200) str_ok rfl T.b.str (by decide +kernel) (a1 (xv 16) a0))) (wor1 (xtnot (xtw (wor (xt (xv 6)) (wor1 (xtcmp c_gt (xcb cr_len len_ok rfl T.b.len (by decide +kernel) (a1 (xv 4) a0)) xi)))))))) (bc (sdput 8 hr (xv 8) (xcb cr_len len_ok rfl T.b.len (by decide +kernel) (a1 (xv 3) a0)) (xct (cr_str gd hr.un200) str_ok rfl T.b.str (by decide +kernel) (a1 (xv 16) a0)))
      (bc (sappn 4 (xv 4) (a1 (xv 14) a0))
      (b1 (sappn 3 (xv 3) (a1 (xv 16) a0))))) b0)))
      (b1 (sset 10 sc__law_plan.nd (xadd (xadd (xsl (xv 10) p_no (p_so (xv 13))) (xof (olst (a1 (xdget 8 hr (xv 8) (xct (cr_str gd hr.un200) str_ok rfl T.b.str (by decide +kernel) (a1 (xv 16) a0))) a0)))) (xsl (xv 10) (p_so (xadd (xv 13) xi)) p_no)))))))))))
      (b1 (sappn 5 (xv 5) (a1 (xix (xv 10) xi) a0))))))
      (b1 (sret (xtup (a1 (xv 1) (a1 (xct call_tuple_of tupOf_ok rfl T.b.tuple (by decide +kernel) (a1 (xv 4) a0)) (a1 (xct call_tuple_of tupOf_ok rfl T.b.tuple (by decide +kernel) (a1 (xv 5) a0)) a0))))))))))))))⟩
theorem sc__law_dues : FnScope ["_law_plan_here", "_law_row", "_law_fits", "_law_dues_here", "_law_k"] ["_law_plan_here", "_law_row"] (defScope s__law_dues) := ⟨rfl, rfl, rfl, by decide +kernel, rfl, by decide +kernel, by decide +kernel⟩
def lp__law_dues_0 : Nv → RS := (sIf (tVal (eBin gIx (eV 3) (eBin Dl.gSub (eC (.int 3)) (eV 4)))) (sItm 3 (eBin gIx (eOf (oLst (aCons (eC (.str "all")) (aCons (eC (.str "commuting")) (aCons (eC (.str "same")) aNil))))) (eBin Dl.gSub (eC (.int 2)) (eV 4))) (eC (.int 4))) sNext)
def m__law_dues : Nv → RS :=
  (sSeq (sSet 2 (eCall f__law_suits (aCons (eV 0) (aCons (eV 1) aNil))))
    (sSeq (sNew 3 (oLst (aCons (eV 2) (aCons (eC (.bool false)) (aCons (eC (.bool false)) (aCons (eC (.bool false)) (aCons (eC .none) aNil)))))))
    (sSeq (sIf (tVal (eV 2)) (sSeq (sItm 3 (eIsN false (eCall f__law_first_wrong (aCons (eV 0) (aCons (eV 1) (aCons (eC (.str "all")) aNil))))) (eC (.int 1)))
    (sSeq (sItm 3 (eIsN false (eCall f__law_first_wrong (aCons (eV 0) (aCons (eV 1) (aCons (eC (.str "commuting")) aNil))))) (eC (.int 2)))
    (sItm 3 (eIsN false (eCall f__law_first_wrong (aCons (eV 0) (aCons (eV 1) (aCons (eC (.str "same")) aNil))))) (eC (.int 3))))) sNext)
    (sSeq (sFor (iR1 (aCons (eC (.int 3)) aNil)) (gN 4) (lp__law_dues_0))
    (sRet (eCb gTupOf (aCons (eV 3) aNil)))))))
def f__law_dues : Nv → Rs Rv := ary 2 (body 3 (m__law_dues))
theorem ok__law_dues {P : Program} {w : World} {K : PySem.W.Frag} {mg : Str → Option Value} {base : Heap} {cl : Str → Option Value} {f : Addr} {fd : FuncData} (F : Fun K "_law_dues" "_law_dues" s__law_dues f fd) (hm : mg "_law_dues" = some (.ref f)) (T : Txt P w K mg base cl) (C__law_suits : Cal P w K mg base cl 1 "_law_suits" ["_law_plan_here", "_law_row"] f__law_suits) (C__law_first_wrong : Cal P w K mg base cl 2 "_law_first_wrong" ["_law_plan_here", "_law_row", "_law_grade"] f__law_first_wrong) :
    Cal P w K mg base cl 3 "_law_dues" ["_law_plan_here", "_law_row"] f__law_dues :=
  cal_mk (g := m__law_dues) (m := 3) F hm sc__law_dues rfl (fun _ _ _ _ _ _ us hl => match us, hl with | [_, _], _ => rfl) fun cdv A outer s H E hr => by
    have tk : Takes (cxOf (L2.CX P w) P w K mg base ["_law_plan_here", "_law_row", "_law_fits", "_law_dues_here", "_law_k"] "_law_dues" (defScope s__law_dues) f cdv A outer s H E) (fun cls d _ H => E cls d H) := takes_of rfl rfl rfl rfl
    have po : PassesOwn (model P w) (cxOf (L2.CX P w) P w K mg base ["_law_plan_here", "_law_row", "_law_fits", "_law_dues_here", "_law_k"] "_law_dues" (defScope s__law_dues) f cdv A outer s H E).A (cxOf (L2.CX P w) P w K mg base ["_law_plan_here", "_law_row", "_law_fits", "_law_dues_here", "_law_k"] "_law_dues" (defScope s__law_dues) f cdv A outer s H E).env (cxOf (L2.CX P w) P w K mg base ["_law_plan_here", "_law_row", "_law_fits", "_law_dues_here", "_law_k"] "_law_dues" (defScope s__law_dues) f cdv A outer s H E).xe := passes_of rfl
    let cz : Cz := ⟨K, cl, fun _ => E⟩
    exact ⟨_, (bc (sset 2 sc__law_dues.nd (xcal rfl C__law_suits hr tk rfl (a1 (xv 0) (a1 (xv 1) a0))))
      (bc (snew 3 sc__law_dues.nd (olst (a1 (xv 2) (a1 xb (a1 xb (a1 xb (a1 xn a0)))))))
      (bc (sif (xt (xv 2)) (bc (sitm 3 (xv 3) (xisn (xcal rfl C__law_first_wrong hr tk rfl (a1 (xv 0) (a1 (xv 1) (a1 xs a0))))) xi)
      (bc (sitm 3 (xv 3) (xisn (xcal rfl C__law_first_wrong hr tk rfl (a1 (xv 0) (a1 (xv 1) (a1 xs a0))))) xi)
      (b1 (sitm 3 (xv 3) (xisn (xcal rfl C__law_first_wrong hr tk rfl (a1 (xv 0) (a1 (xv 1) (a1 xs a0))))) xi)))) b0)
      (bc (sfor po rfl (irng1 rfl T.b.range (a1 xi a0)) (gx 4 sc__law_dues.nd) (b1 (sif (xt (xix (xv 3) (xsub xi (xv 4)))) (b1 (sitm 3 (xv 3) (xix (xof (olst (a1 xs (a1 xs (a1 xs a0))))) (xsub xi (xv 4))) xi)) b0)))
      (b1 (sret (xct call_tuple_of tupOf_ok rfl T.b.tuple (by decide +kernel) (a1 (xv 3) a0))))))))⟩
theorem sc_asks_fault : FnScope ["thing", "at", "ask"] ["thing"] (defScope s_asks_fault) := ⟨rfl, rfl, rfl, by decide +kernel, rfl, by decide +kernel, by decide +kernel⟩
def lp_asks_fault_0 : Nv → RS := (sSeq (sIf (tNotF (tVal (eCall f_is_stretch (aCons (eV 2) aNil)))) (sRet (eTup (aCons (eC (.str "ask")) (aCons (eV 1) aNil)))) sNext)
    (sIf (tAndF (tVal (eBin gGt (eV 1) (eC (.int 0)))) (tNotF (tVal (eBin gLtT (eBin gIx (eV 0) (eBin Dl.gSub (eV 1) (eC (.int 1)))) (eV 2))))) (sRet (eTup (aCons (eC (.str "order")) (aCons (eV 1) aNil)))) sNext))
def m_asks_fault : Nv → RS :=
  (sSeq (sIf (tNotF (tVal (eIsi "tuple" (eV 0)))) (sRet (eTup (aCons (eC (.str "shape")) (aCons (eUn (fun | .int i => some (.int (-i)) | _ => none) (eC (.int 1))) aNil)))) sNext)
    (sSeq (sFor (iEn (aCons (eV 0) aNil)) (gT 2 (gsC (gN 1) (gsC (gN 2) gsN))) (lp_asks_fault_0))
    (sRet (eC .none))))
def f_asks_fault : Nv → Rs Rv := ary 1 (body 2 (m_asks_fault))
theorem ok_asks_fault {P : Program} {w : World} {K : PySem.W.Frag} {mg : Str → Option Value} {base : Heap} {cl : Str → Option Value} {f : Addr} {fd : FuncData} (F : Fun K "asks_fault" "asks_fault" s_asks_fault f fd) (hm : mg "asks_fault" = some (.ref f)) (T : Txt P w K mg base cl) (C_is_stretch : Cal P w K mg base cl 3 "is_stretch" ["thing"] f_is_stretch) :
    Cal P w K mg base cl 4 "asks_fault" ["thing"] f_asks_fault :=
  cal_mk (g := m_asks_fault) (m := 2) F hm sc_asks_fault rfl (fun _ _ _ _ _ _ us hl => match us, hl with | [_], _ => rfl) fun cdv A outer s H E hr => by
    have tk : Takes (cxOf (L2.CX P w) P w K mg base ["thing", "at", "ask"] "asks_fault" (defScope s_asks_fault) f cdv A outer s H E) (fun cls d _ H => E cls d H) := takes_of rfl rfl rfl rfl
    have po : PassesOwn (model P w) (cxOf (L2.CX P w) P w K mg base ["thing", "at", "ask"] "asks_fault" (defScope s_asks_fault) f cdv A outer s H E).A (cxOf (L2.CX P w) P w K mg base ["thing", "at", "ask"] "asks_fault" (defScope s_asks_fault) f cdv A outer s H E).env (cxOf (L2.CX P w) P w K mg base ["thing", "at", "ask"] "asks_fault" (defScope s_asks_fault) f cdv A outer s H E).xe := passes_of rfl
    let cz : Cz := ⟨K, cl, fun _ => E⟩
    exact ⟨_, (bc (sif (xtnot (xt (xisi kit_tuple rfl T.b.isinstance rfl T.b.tuple (by decide +kernel) (xv 0)))) (b1 (sret (xtup (a1 xs (a1 (xneg xi) a0))))) b0)
      (bc (sfor po rfl (ienum rfl T.b.enumerate (a1 (xv 0) a0)) (gtup rfl (gs1 (gx 1 sc_asks_fault.nd) (gs1 (gx 2 sc_asks_fault.nd) gs0))) (bc (sif (xtnot (xt (xcal rfl C_is_stretch hr tk rfl (a1 (xv 2) a0)))) (b1 (sret (xtup (a1 xs (a1 (xv 1) a0))))) b0)
      (b1 (sif (xtw (wand (xtcmp c_gt (xv 1) xi) (wand1 (xtnot (xtcmp (c_ltT hr) (xix (xv 0) (xsub (xv 1) xi)) (xv 2)))))) (b1 (sret (xtup (a1 xs (a1 (xv 1) a0))))) b0))))
      (b1 (sret xn))))⟩
theorem sc_span_feed : FnScope ["size", "at"] ["size"] (defScope s_span_feed) := ⟨rfl, rfl, rfl, by decide +kernel, rfl, by decide +kernel, by decide +kernel⟩
def m_span_feed : Nv → RS :=
  (sSeq (sExpr (eCall f_need (aCons (eCall f_is_positive (aCons (eV 0) aNil)) (aCons (eC (.str "size")) aNil))))
    (sRet (eTup (aCons (eTup (aCons (eC (.str "spans")) aNil)) (aCons (eCb gTupOf (aCons (eOf (oComp [1] (iR1 (aCons (eV 0) aNil)) (gN 1) fYes (eTup (aCons (eV 1) (aCons (eBin gAdd (eV 1) (eC (.int 1))) aNil))))) aNil)) aNil)))))
def f_span_feed : Nv → Rs Rv := ary 1 (body 1 (m_span_feed))
theorem ok_span_feed {P : Program} {w : World} {K : PySem.W.Frag} {mg : Str → Option Value} {base : Heap} {cl : Str → Option Value} {f : Addr} {fd : FuncData} (F : Fun K "span_feed" "span_feed" s_span_feed f fd) (hm : mg "span_feed" = some (.ref f)) (T : Txt P w K mg base cl) (C_need : Cal P w K mg base cl 3 "need" ["fit", "word"] f_need) (C_is_positive : Cal P w K mg base cl 2 "is_positive" ["thing"] f_is_positive) :
    Cal P w K mg base cl 4 "span_feed" ["size"] f_span_feed :=
  cal_mk (g := m_span_feed) (m := 1) F hm sc_span_feed rfl (fun _ _ _ _ _ _ us hl => match us, hl with | [_], _ => rfl) fun cdv A outer s H E hr => by
    have tk : Takes (cxOf (L2.CX P w) P w K mg base ["size", "at"] "span_feed" (defScope s_span_feed) f cdv A outer s H E) (fun cls d _ H => E cls d H) := takes_of rfl rfl rfl rfl
    have po : PassesOwn (model P w) (cxOf (L2.CX P w) P w K mg base ["size", "at"] "span_feed" (defScope s_span_feed) f cdv A outer s H E).A (cxOf (L2.CX P w) P w K mg base ["size", "at"] "span_feed" (defScope s_span_feed) f cdv A outer s H E).env (cxOf (L2.CX P w) P w K mg base ["size", "at"] "span_feed" (defScope s_span_feed) f cdv A outer s H E).xe := passes_of rfl
    let cz : Cz := ⟨K, cl, fun _ => E⟩
    exact ⟨_, (bc (sexp (xcal rfl C_need hr tk rfl (a1 (xcal rfl C_is_positive hr tk rfl (a1 (xv 0) a0)) (a1 xs a0))))
      (b1 (sret (xtup (a1 (xtup (a1 xs a0)) (a1 (xct call_tuple_of tupOf_ok rfl T.b.tuple (by decide +kernel) (a1 (xof (ocomp (own := [("at", 1)]) rfl sc_span_feed.nd (irng1 rfl T.b.range (a1 (xv 0) a0)) (blkOk_of (N0 := ["size", "at"]) (o0 := defScope s_span_feed) rfl rfl (by decide +kernel)) (gin_name (by decide)) mono_name (fun _ _ _ _ _ => (gx 1 sc_span_feed.nd)) (fun _ _ _ _ _ => t0) (fun _ _ _ _ _ => (xtup (a1 (xv 1) (a1 (xadd (xv 1) xi) a0)))) s H)) a0)) a0))))))⟩
theorem sc_count_feed : FnScope ["size", "at"] ["size"] (defScope s_count_feed) := ⟨rfl, rfl, rfl, by decide +kernel, rfl, by decide +kernel, by decide +kernel⟩
def m_count_feed : Nv → RS :=
  (sSeq (sExpr (eCall f_need (aCons (eCall f_is_positive (aCons (eV 0) aNil)) (aCons (eC (.str "size")) aNil))))
    (sRet (eTup (aCons (eTup (aCons (eC (.str "counts")) (aCons (eV 0) aNil))) (aCons (eCb gTupOf (aCons (eOf (oComp [1] (iR1 (aCons (eV 0) aNil)) (gN 1) fYes (eBin gAdd (eBin gAdd (eBin gMul (eTup (aCons (eC (.int 0)) aNil)) (eV 1)) (eTup (aCons (eC (.int 1)) aNil))) (eBin gMul (eTup (aCons (eC (.int 0)) aNil)) (eBin Dl.gSub (eBin Dl.gSub (eV 0) (eC (.int 1))) (eV 1)))))) aNil)) aNil)))))
def f_count_feed : Nv → Rs Rv := ary 1 (body 1 (m_count_feed))
theorem ok_count_feed {P : Program} {w : World} {K : PySem.W.Frag} {mg : Str → Option Value} {base : Heap} {cl : Str → Option Value} {f : Addr} {fd : FuncData} (F : Fun K "count_feed" "count_feed" s_count_feed f fd) (hm : mg "count_feed" = some (.ref f)) (T : Txt P w K mg base cl) (C_need : Cal P w K mg base cl 3 "need" ["fit", "word"] f_need) (C_is_positive : Cal P w K mg base cl 2 "is_positive" ["thing"] f_is_positive) :
    Cal P w K mg base cl 4 "count_feed" ["size"] f_count_feed :=
  cal_mk (g := m_count_feed) (m := 1) F hm sc_count_feed rfl (fun _ _ _ _ _ _ us hl => match us, hl with | [_], _ => rfl) fun cdv A outer s H E hr => by
    have tk : Takes (cxOf (L2.CX P w) P w K mg base ["size", "at"] "count_feed" (defScope s_count_feed) f cdv A outer s H E) (fun cls d _ H => E cls d H) := takes_of rfl rfl rfl rfl
    have po : PassesOwn (model P w) (cxOf (L2.CX P w) P w K mg base ["size", "at"] "count_feed" (defScope s_count_feed) f cdv A outer s H E).A (cxOf (L2.CX P w) P w K mg base ["size", "at"] "count_feed" (defScope s_count_feed) f cdv A outer s H E).env (cxOf (L2.CX P w) P w K mg base ["size", "at"] "count_feed" (defScope s_count_feed) f cdv A outer s H E).xe := passes_of rfl
    let cz : Cz := ⟨K, cl, fun _ => E⟩
    exact ⟨_, (bc (sexp (xcal rfl C_need hr tk rfl (a1 (xcal rfl C_is_positive hr tk rfl (a1 (xv 0) a0)) (a1 xs a0))))
      (b1 (sret (xtup (a1 (xtup (a1 xs (a1 (xv 0) a0))) (a1 (xct call_tuple_of tupOf_ok rfl T.b.tuple (by decide +kernel) (a1 (xof (ocomp (own := [("at", 1)]) rfl sc_count_feed.nd (irng1 rfl T.b.range (a1 (xv 0) a0)) (blkOk_of (N0 := ["size", "at"]) (o0 := defScope s_count_feed) rfl rfl (by decide +kernel)) (gin_name (by decide)) mono_name (fun _ _ _ _ _ => (gx 1 sc_count_feed.nd)) (fun _ _ _ _ _ => t0) (fun _ _ _ _ _ => (xadd (xadd (xmul (xtup (a1 xi a0)) (xv 1)) (xtup (a1 xi a0))) (xmul (xtup (a1 xi a0)) (xsub (xsub (xv 0) xi) (xv 1))))) s H)) a0)) a0))))))⟩
theorem sc_bit_feed : FnScope ["size", "at"] ["size"] (defScope s_bit_feed) := ⟨rfl, rfl, rfl, by decide +kernel, rfl, by decide +kernel, by decide +kernel⟩
def m_bit_feed : Nv → RS :=
  (sSeq (sExpr (eCall f_need (aCons (eCall f_is_positive (aCons (eV 0) aNil)) (aCons (eC (.str "size")) aNil))))
    (sRet (eTup (aCons (eTup (aCons (eC (.str "or")) aNil)) (aCons (eCb gTupOf (aCons (eOf (oComp [1] (iR1 (aCons (eV 0) aNil)) (gN 1) fYes (eBin gShl (eC (.int 1)) (eV 1)))) aNil)) aNil)))))
def f_bit_feed : Nv → Rs Rv := ary 1 (body 1 (m_bit_feed))
theorem ok_bit_feed {P : Program} {w : World} {K : PySem.W.Frag} {mg : Str → Option Value} {base : Heap} {cl : Str → Option Value} {f : Addr} {fd : FuncData} (F : Fun K "bit_feed" "bit_feed" s_bit_feed f fd) (hm : mg "bit_feed" = some (.ref f)) (T : Txt P w K mg base cl) (C_need : Cal P w K mg base cl 3 "need" ["fit", "word"] f_need) (C_is_positive : Cal P w K mg base cl 2 "is_positive" ["thing"] f_is_positive) :
    Cal P w K mg base cl 4 "bit_feed" ["size"] f_bit_feed :=
  cal_mk (g := m_bit_feed) (m := 1) F hm sc_bit_feed rfl (fun _ _ _ _ _ _ us hl => match us, hl with | [_], _ => rfl) fun cdv A outer s H E hr => by
    have tk : Takes (cxOf (L2.CX P w) P w K mg base ["size", "at"] "bit_feed" (defScope s_bit_feed) f cdv A outer s H E) (fun cls d _ H => E cls d H) := takes_of rfl rfl rfl rfl
    have po : PassesOwn (model P w) (cxOf (L2.CX P w) P w K mg base ["size", "at"] "bit_feed" (defScope s_bit_feed) f cdv A outer s H E).A (cxOf (L2.CX P w) P w K mg base ["size", "at"] "bit_feed" (defScope s_bit_feed) f cdv A outer s H E).env (cxOf (L2.CX P w) P w K mg base ["size", "at"] "bit_feed" (defScope s_bit_feed) f cdv A outer s H E).xe := passes_of rfl
    let cz : Cz := ⟨K, cl, fun _ => E⟩
    exact ⟨_, (bc (sexp (xcal rfl C_need hr tk rfl (a1 (xcal rfl C_is_positive hr tk rfl (a1 (xv 0) a0)) (a1 xs a0))))
      (b1 (sret (xtup (a1 (xtup (a1 xs a0)) (a1 (xct call_tuple_of tupOf_ok rfl T.b.tuple (by decide +kernel) (a1 (xof (ocomp (own := [("at", 1)]) rfl sc_bit_feed.nd (irng1 rfl T.b.range (a1 (xv 0) a0)) (blkOk_of (N0 := ["size", "at"]) (o0 := defScope s_bit_feed) rfl rfl (by decide +kernel)) (gin_name (by decide)) mono_name (fun _ _ _ _ _ => (gx 1 sc_bit_feed.nd)) (fun _ _ _ _ _ => t0) (fun _ _ _ _ _ => (xshl xi (xv 1))) s H)) a0)) a0))))))⟩
theorem sc_idle_pair : FnScope ["operation", "word"] ["operation"] (defScope s_idle_pair) := ⟨rfl, rfl, rfl, by decide +kernel, rfl, by decide +kernel, by decide +kernel⟩
def m_idle_pair : Nv → RS :=
  (sSeq (sExpr (eCall f_need (aCons (eCall f_is_operation (aCons (eV 0) aNil)) (aCons (eC (.str "operation")) aNil))))
    (sSeq (sSet 1 (eBin gIx (eV 0) (eC (.int 0))))
    (sSeq (sIf (tVal (eBin (gEq false) (eV 1) (eC (.str "maps")))) (sRet (eCall f__idle_maps (aCons (eBin gIx (eV 0) (eC (.int 1))) aNil))) sNext)
    (sSeq (sIf (tVal (eBin (gEq false) (eV 1) (eC (.str "grids")))) (sRet (eCall f__idle_grids (aCons (eBin gIx (eV 0) (eC (.int 1))) (aCons (eBin gIx (eV 0) (eC (.int 2))) aNil)))) sNext)
    (sSeq (sIf (tVal (eBin (gEq false) (eV 1) (eC (.str "product")))) (sRet (eIf (tVal (eBin gGt (eBin gIx (eV 0) (eC (.int 1))) (eC (.int 1)))) (eTup (aCons (eC (.int 1)) (aCons (eC (.int 0)) aNil))) (eC .none))) sNext)
    (sSeq (sIf (tVal (eBin (gIn false) (eV 1) (eTup (aCons (eC (.str "most")) (aCons (eC (.str "or")) aNil))))) (sRet (eTup (aCons (eC (.int 0)) (aCons (eC (.int 1)) aNil)))) sNext)
    (sSeq (sIf (tVal (eBin (gEq false) (eV 1) (eC (.str "least")))) (sRet (eTup (aCons (eC (.int 1)) (aCons (eC (.int 0)) aNil)))) sNext)
    (sSeq (sIf (tVal (eBin (gEq false) (eV 1) (eC (.str "brackets")))) (sRet (eTup (aCons (eTup (aCons (eC (.int 0)) (aCons (eC (.int 0)) aNil))) (aCons (eTup (aCons (eC (.int 1)) (aCons (eC (.int 1)) aNil))) aNil)))) sNext)
    (sRet (eC .none))))))))))
def f_idle_pair : Nv → Rs Rv := ary 1 (body 1 (m_idle_pair))
theorem ok_idle_pair {P : Program} {w : World} {K : PySem.W.Frag} {mg : Str → Option Value} {base : Heap} {cl : Str → Option Value} {f : Addr} {fd : FuncData} (F : Fun K "idle_pair" "idle_pair" s_idle_pair f fd) (hm : mg "idle_pair" = some (.ref f)) (T : Txt P w K mg base cl) (C_need : Cal P w K mg base cl 3 "need" ["fit", "word"] f_need) (C_is_operation : Cal P w K mg base cl 3 "is_operation" ["thing"] f_is_operation) (C__idle_maps : Cal P w K mg base cl 1 "_idle_maps" ["many"] f__idle_maps) (C__idle_grids : Cal P w K mg base cl 1 "_idle_grids" ["many", "modulus"] f__idle_grids) :
    Cal P w K mg base cl 4 "idle_pair" ["operation"] f_idle_pair :=
  cal_mk (g := m_idle_pair) (m := 1) F hm sc_idle_pair rfl (fun _ _ _ _ _ _ us hl => match us, hl with | [_], _ => rfl) fun cdv A outer s H E hr => by
    have tk : Takes (cxOf (L2.CX P w) P w K mg base ["operation", "word"] "idle_pair" (defScope s_idle_pair) f cdv A outer s H E) (fun cls d _ H => E cls d H) := takes_of rfl rfl rfl rfl
    have po : PassesOwn (model P w) (cxOf (L2.CX P w) P w K mg base ["operation", "word"] "idle_pair" (defScope s_idle_pair) f cdv A outer s H E).A (cxOf (L2.CX P w) P w K mg base ["operation", "word"] "idle_pair" (defScope s_idle_pair) f cdv A outer s H E).env (cxOf (L2.CX P w) P w K mg base ["operation", "word"] "idle_pair" (defScope s_idle_pair) f cdv A outer s H E).xe := passes_of rfl
    let cz : Cz := ⟨K, cl, fun _ => E⟩
    exact ⟨_, (bc (sexp (xcal rfl C_need hr tk rfl (a1 (xcal rfl C_is_operation hr tk rfl (a1 (xv 0) a0)) (a1 xs a0))))
      (bc (sset 1 sc_idle_pair.nd (xix (xv 0) xi))
      (bc (sif (xtcmp (c_eq hr) (xv 1) xs) (b1 (sret (xcal rfl C__idle_maps hr tk rfl (a1 (xix (xv 0) xi) a0)))) b0)
      (bc (sif (xtcmp (c_eq hr) (xv 1) xs) (b1 (sret (xcal rfl C__idle_grids hr tk rfl (a1 (xix (xv 0) xi) (a1 (xix (xv 0) xi) a0))))) b0)
      (bc (sif (xtcmp (c_eq hr) (xv 1) xs) (b1 (sret (xife (xtcmp c_gt (xix (xv 0) xi) xi) (xtup (a1 xi (a1 xi a0))) xn))) b0)
      (bc (sif (xtcmp (c_in hr) (xv 1) (xtup (a1 xs (a1 xs a0)))) (b1 (sret (xtup (a1 xi (a1 xi a0))))) b0)
      (bc (sif (xtcmp (c_eq hr) (xv 1) xs) (b1 (sret (xtup (a1 xi (a1 xi a0))))) b0)
      (bc (sif (xtcmp (c_eq hr) (xv 1) xs) (b1 (sret (xtup (a1 (xtup (a1 xi (a1 xi a0))) (a1 (xtup (a1 xi (a1 xi a0))) a0))))) b0)
      (b1 (sret xn))))))))))⟩
theorem sc__is_join : FnScope ["thing", "bound", "side"] ["thing", "bound"] (defScope s__is_join) := ⟨rfl, rfl, rfl, by decide +kernel, rfl, by decide +kernel, by decide +kernel⟩
def m__is_join : Nv → RS :=
  (sRet (eAnd (eCall f_is_group (aCons (eV 0) (aCons (eC (.int 2)) aNil))) (eCb gAll (aCons (eOf (oComp [2] (iT (eV 0)) (gN 2) fYes (eCall f__is_name (aCons (eV 2) (aCons (eV 1) aNil))))) aNil))))
def f__is_join : Nv → Rs Rv := ary 2 (body 1 (m__is_join))
theorem ok__is_join {P : Program} {w : World} {K : PySem.W.Frag} {mg : Str → Option Value} {base : Heap} {cl : Str → Option Value} {f : Addr} {fd : FuncData} (F : Fun K "_is_join" "_is_join" s__is_join f fd) (hm : mg "_is_join" = some (.ref f)) (T : Txt P w K mg base cl) (C_is_group : Cal P w K mg base cl 1 "is_group" ["thing", "many"] f_is_group) (C__is_name : Cal P w K mg base cl 3 "_is_name" ["thing", "bound"] f__is_name) :
    Cal P w K mg base cl 4 "_is_join" ["thing", "bound"] f__is_join :=
  cal_mk (g := m__is_join) (m := 1) F hm sc__is_join rfl (fun _ _ _ _ _ _ us hl => match us, hl with | [_, _], _ => rfl) fun cdv A outer s H E hr => by
    have tk : Takes (cxOf (L2.CX P w) P w K mg base ["thing", "bound", "side"] "_is_join" (defScope s__is_join) f cdv A outer s H E) (fun cls d _ H => E cls d H) := takes_of rfl rfl rfl rfl
    have po : PassesOwn (model P w) (cxOf (L2.CX P w) P w K mg base ["thing", "bound", "side"] "_is_join" (defScope s__is_join) f cdv A outer s H E).A (cxOf (L2.CX P w) P w K mg base ["thing", "bound", "side"] "_is_join" (defScope s__is_join) f cdv A outer s H E).env (cxOf (L2.CX P w) P w K mg base ["thing", "bound", "side"] "_is_join" (defScope s__is_join) f cdv A outer s H E).xe := passes_of rfl
    let cz : Cz := ⟨K, cl, fun _ => E⟩
    exact ⟨_, (b1 (sret (xand (xcal rfl C_is_group hr tk rfl (a1 (xv 0) (a1 xi a0))) (xone (xcb (cr_all rfl) all_ok rfl T.b.all (by decide +kernel) (a1 (xof (ocomp (own := [("side", 2)]) rfl sc__is_join.nd (itup (xv 0)) (blkOk_of (N0 := ["thing", "bound", "side"]) (o0 := defScope s__is_join) rfl rfl (by decide +kernel)) (gin_name (by decide)) mono_name (fun _ _ _ _ _ => (gx 2 sc__is_join.nd)) (fun _ _ _ _ _ => t0) (fun _ _ _ _ _ => (xcalB rfl C__is_name hr rfl (a1 (xv 2) (a1 (xv 1) a0)))) s H)) a0))))))⟩
theorem sc__law_same : FnScope ["_law_got", "_law_due", "_law_k"] ["_law_got", "_law_due"] (defScope s__law_same) := ⟨rfl, rfl, rfl, by decide +kernel, rfl, by decide +kernel, by decide +kernel⟩
def lp__law_same_0 (f_rec : Nv → Rs Rv) : Nv → RS := (sIf (tNotF (tVal (eCall f_rec (aCons (eBin gIx (eV 0) (eV 2)) (aCons (eBin gIx (eV 1) (eV 2)) aNil))))) (sRet (eC (.bool false))) sNext)
def m__law_same (f_rec : Nv → Rs Rv) : Nv → RS :=
  (sSeq (sIf (tVal (eIsN false (eV 1))) (sRet (eIsN false (eV 0))) sNext)
    (sSeq (sIf (tVal (eBin (gIsB false) (eV 1) (eC (.bool true)))) (sRet (eBin (gIsB false) (eV 0) (eC (.bool true)))) sNext)
    (sSeq (sIf (tVal (eBin (gIsB false) (eV 1) (eC (.bool false)))) (sRet (eBin (gIsB false) (eV 0) (eC (.bool false)))) sNext)
    (sSeq (sIf (tVal (eIsi "tuple" (eV 1))) (sSeq (sIf (tOrF (tNotF (tVal (eIsi "tuple" (eV 0)))) (tVal (eBin (gEq true) (eCb gLen (aCons (eV 0) aNil)) (eCb gLen (aCons (eV 1) aNil))))) (sRet (eC (.bool false))) sNext)
    (sSeq (sFor (iR1 (aCons (eCb gLen (aCons (eV 1) aNil)) aNil)) (gN 2) (lp__law_same_0 f_rec))
    (sRet (eC (.bool true))))) sNext)
    (sSeq (sIf (tVal (eIsi "str" (eV 1))) (sRet (eAnd (eIsi "str" (eV 0)) (eBin (gEq false) (eV 0) (eV 1)))) sNext)
    (sRet (eAnd (eIsi "int" (eV 0)) (eAnd (eNot (eIsi "bool" (eV 0))) (eBin (gEq false) (eV 0) (eV 1))))))))))
def fr__law_same (f_rec : Nv → Rs Rv) : Nv → Rs Rv := ary 2 (body 1 (m__law_same f_rec))
theorem okr__law_same {P : Program} {w : World} {K : PySem.W.Frag} {mg : Str → Option Value} {base : Heap} {cl : Str → Option Value} {f : Addr} {fd : FuncData} (F : Fun K "_law_same" "_law_same" s__law_same f fd) (hm : mg "_law_same" = some (.ref f)) (T : Txt P w K mg base cl) {lr : Nat} {f_rec : Nv → Rs Rv} (C_rec : Cal P w K mg base cl lr "_law_same" ["_law_got", "_law_due"] f_rec) :
    Cal P w K mg base cl (lr + 1) "_law_same" ["_law_got", "_law_due"] (fr__law_same f_rec) :=
  cal_mk (g := m__law_same f_rec) (m := 1) F hm sc__law_same rfl (fun _ _ _ _ _ _ us hl => match us, hl with | [_, _], _ => rfl) fun cdv A outer s H E hr => by
    have tk : Takes (cxOf (L2.CX P w) P w K mg base ["_law_got", "_law_due", "_law_k"] "_law_same" (defScope s__law_same) f cdv A outer s H E) (fun cls d _ H => E cls d H) := takes_of rfl rfl rfl rfl
    have po : PassesOwn (model P w) (cxOf (L2.CX P w) P w K mg base ["_law_got", "_law_due", "_law_k"] "_law_same" (defScope s__law_same) f cdv A outer s H E).A (cxOf (L2.CX P w) P w K mg base ["_law_got", "_law_due", "_law_k"] "_law_same" (defScope s__law_same) f cdv A outer s H E).env (cxOf (L2.CX P w) P w K mg base ["_law_got", "_law_due", "_law_k"] "_law_same" (defScope s__law_same) f cdv A outer s H E).xe := passes_of rfl
    let cz : Cz := ⟨K, cl, fun _ => E⟩
    exact ⟨_, (bc (sif (xtisn (xv 1)) (b1 (sret (xisn (xv 0)))) b0)
      (bc (sif (xtcmp c_isB (xv 1) xb) (b1 (sret (xcmp c_isB (xv 0) xb))) b0)
      (bc (sif (xtcmp c_isB (xv 1) xb) (b1 (sret (xcmp c_isB (xv 0) xb))) b0)
      (bc (sif (xt (xisi kit_tuple rfl T.b.isinstance rfl T.b.tuple (by decide +kernel) (xv 1))) (bc (sif (xtw (wor (xtnot (xt (xisi kit_tuple rfl T.b.isinstance rfl T.b.tuple (by decide +kernel) (xv 0)))) (wor1 (xtcmp (c_ne hr) (xcb cr_len len_ok rfl T.b.len (by decide +kernel) (a1 (xv 0) a0)) (xcb cr_len len_ok rfl T.b.len (by decide +kernel) (a1 (xv 1) a0)))))) (b1 (sret xb)) b0)
      (bc (sfor po rfl (irng1 rfl T.b.range (a1 (xcb cr_len len_ok rfl T.b.len (by decide +kernel) (a1 (xv 1) a0)) a0)) (gx 2 sc__law_same.nd) (b1 (sif (xtnot (xt (xcal rfl C_rec hr tk rfl (a1 (xix (xv 0) (xv 2)) (a1 (xix (xv 1) (xv 2)) a0)) (Nat.le_refl _)))) (b1 (sret xb)) b0)))
      (b1 (sret xb)))) b0)
      (bc (sif (xt (xisi kit_str rfl T.b.isinstance rfl T.b.str (by decide +kernel) (xv 1))) (b1 (sret (xand (xisi kit_str rfl T.b.isinstance rfl T.b.str (by decide +kernel) (xv 0)) (xone (xcmp (c_eq hr) (xv 0) (xv 1)))))) b0)
      (b1 (sret (xand (xisi kit_int rfl T.b.isinstance rfl T.b.int (by decide +kernel) (xv 0)) (xand (xnot (xisi kit_bool rfl T.b.isinstance rfl T.b.bool (by decide +kernel) (xv 0))) (xone (xcmp (c_eq hr) (xv 0) (xv 1))))))))))))⟩
def f__law_same : Nv → Rs Rv := fr__law_same (fr__law_same (fr__law_same (ary 2 (body 1 fun _ => none))))
theorem ok__law_same {P : Program} {w : World} {K : PySem.W.Frag} {mg : Str → Option Value} {base : Heap} {cl : Str → Option Value} {f : Addr} {fd : FuncData} (F : Fun K "_law_same" "_law_same" s__law_same f fd) (hm : mg "_law_same" = some (.ref f)) (T : Txt P w K mg base cl) :
    Cal P w K mg base cl 4 "_law_same" ["_law_got", "_law_due"] f__law_same :=
  okr__law_same F hm T (okr__law_same F hm T (okr__law_same F hm T (cal_mk (k := 0) (g := fun _ => none) (m := 1) F hm sc__law_same rfl (fun _ _ _ _ _ _ us hl => match us, hl with | [_, _], _ => rfl) fun cdv A outer s H E hr =>
    ⟨fun _ _ _ => False, ⟨⟨fun _ _ _ _ _ _ h => h.elim⟩, fun _ _ _ _ _ _ _ _ h => h.elim⟩⟩)))
theorem sc__law_scene : FnScope ["_law_state", "_law_hand", "_law_size", "_law_row", "_law_plan_here", "_law_turn", "_law_answers", "_law_joins", "_law_at"] ["_law_state"] (defScope s__law_scene) := ⟨rfl, rfl, rfl, by decide +kernel, rfl, by decide +kernel, by decide +kernel⟩
def m__law_scene : Nv → RS :=
  (sSeq (sSet 1 (eCall f__law_draw (aCons (eV 0) (aCons (eC (.int 16)) aNil))))
    (sSeq (sIf (tVal (eBin (gEq false) (eV 1) (eC (.int 0)))) (sRet (eTup (aCons (eTup (aCons (eC (.int 3)) (aCons (eTup (aCons (eTup (aCons (eC (.int 0)) (aCons (eC (.int 1)) aNil))) (aCons (eTup (aCons (eC (.int 1)) (aCons (eC (.int 2)) aNil))) (aCons (eTup (aCons (eC (.int 3)) (aCons (eC (.int 4)) aNil))) aNil)))) (aCons (eTup (aCons (eC (.int 5)) aNil)) aNil)))) (aCons (eTup (aCons (eTup (aCons (eC (.int 0)) (aCons (eC (.int 3)) aNil))) aNil)) aNil)))) sNext)
    (sSeq (sIf (tVal (eBin (gEq false) (eV 1) (eC (.int 1)))) (sSeq (sSet 7 (eTup (aCons (eTup (aCons (eC (.int 2)) (aCons (eC (.int 3)) aNil))) (aCons (eTup (aCons (eC (.int 1)) (aCons (eC (.int 6)) aNil))) (aCons (eTup (aCons (eC (.int 0)) (aCons (eC (.int 7)) aNil))) (aCons (eTup (aCons (eC (.int 6)) (aCons (eC (.int 4)) aNil))) (aCons (eTup (aCons (eC (.int 9)) (aCons (eC (.int 5)) aNil))) (aCons (eTup (aCons (eC (.int 8)) (aCons (eC (.int 10)) aNil))) aNil))))))))
    (sRet (eTup (aCons (eTup (aCons (eC (.int 6)) (aCons (eV 7) (aCons (eTup (aCons (eC (.int 8)) (aCons (eC (.int 11)) (aCons (eC (.int 7)) (aCons (eC (.int 9)) (aCons (eC (.int 10)) aNil)))))) aNil)))) (aCons (eTup (aCons (eTup (aCons (eC (.int 0)) (aCons (eC (.int 4)) aNil))) (aCons (eTup (aCons (eC (.int 0)) (aCons (eC (.int 6)) aNil))) (aCons (eTup (aCons (eC (.int 1)) (aCons (eC (.int 4)) aNil))) (aCons (eTup (aCons (eC (.int 2)) (aCons (eC (.int 5)) aNil))) (aCons (eTup (aCons (eC (.int 2)) (aCons (eC (.int 6)) aNil))) aNil)))))) aNil))))) sNext)
    (sSeq (sIf (tVal (eBin (gEq false) (eV 1) (eC (.int 2)))) (sRet (eTup (aCons (eTup (aCons (eBin gAdd (eC (.int 1)) (eCall f__law_draw (aCons (eV 0) (aCons (eC (.int 3)) aNil)))) (aCons (eTup aNil) (aCons (eTup aNil) aNil)))) (aCons (eTup aNil) aNil)))) sNext)
    (sSeq (sSet 2 (eBin gIx (eOf (oLst (aCons (eC (.int 2)) (aCons (eC (.int 3)) (aCons (eC (.int 4)) (aCons (eC (.int 5)) (aCons (eC (.int 6)) (aCons (eC (.int 6)) (aCons (eC (.int 5)) (aCons (eC (.int 4)) aNil)))))))))) (eCall f__law_draw (aCons (eV 0) (aCons (eC (.int 8)) aNil)))))
    (sSeq (sSet 3 (eCall f__law_asks (aCons (eV 0) (aCons (eV 2) aNil))))
    (sSeq (sSet 4 (eCall f__law_plan (aCons (eV 0) (aCons (eV 2) (aCons (eV 3) aNil)))))
    (sSeq (sSet 5 (eCall f__law_draw (aCons (eV 0) (aCons (eC (.int 9)) aNil))))
    (sSeq (sSet 6 (eBin gIx (eV 4) (eC (.int 2))))
    (sSeq (sIf (tVal (eBin (gEq false) (eV 5) (eC (.int 0)))) (sSet 6 (eSl (eV 6) pN (pS (eUn (fun | .int i => some (.int (-i)) | _ => none) (eC (.int 1)))))) sNext)
    (sSeq (sIf (tVal (eBin (gEq false) (eV 5) (eC (.int 1)))) (sSet 6 (eBin gAdd (eV 6) (eTup (aCons (eCall f__law_draw (aCons (eV 0) (aCons (eV 2) aNil))) aNil)))) sNext)
    (sSeq (sIf (tAndF (tVal (eBin gGt (eV 5) (eC (.int 1)))) (tAndF (tVal (eBin gLt (eV 5) (eC (.int 4)))) (tVal (eBin gGt (eCb gLen (aCons (eV 6) aNil)) (eC (.int 0)))))) (sSeq (sSet 8 (eCall f__law_draw (aCons (eV 0) (aCons (eCb gLen (aCons (eV 6) aNil)) aNil))))
    (sSet 6 (eBin gAdd (eBin gAdd (eSl (eV 6) pN (pS (eV 8))) (eTup (aCons (eCall f__law_draw (aCons (eV 0) (aCons (eBin gAdd (eV 2) (eCb gLen (aCons (eBin gIx (eV 4) (eC (.int 1))) aNil))) aNil))) aNil))) (eSl (eV 6) (pS (eBin gAdd (eV 8) (eC (.int 1)))) pN)))) sNext)
    (sSeq (sIf (tAndF (tVal (eBin (gEq false) (eV 5) (eC (.int 4)))) (tVal (eBin gGt (eCb gLen (aCons (eV 3) aNil)) (eC (.int 0))))) (sSet 3 (eBin gAdd (eSl (eV 3) pN (pS (eUn (fun | .int i => some (.int (-i)) | _ => none) (eC (.int 1))))) (eTup (aCons (eTup (aCons (eBin gIx (eBin gIx (eV 3) (eUn (fun | .int i => some (.int (-i)) | _ => none) (eC (.int 1)))) (eC (.int 0))) (aCons (eBin gAdd (eBin gAdd (eV 2) (eC (.int 1))) (eCall f__law_draw (aCons (eV 0) (aCons (eC (.int 3)) aNil)))) aNil))) aNil)))) sNext)
    (sRet (eTup (aCons (eTup (aCons (eBin gIx (eV 4) (eC (.int 0))) (aCons (eBin gIx (eV 4) (eC (.int 1))) (aCons (eV 6) aNil)))) (aCons (eV 3) aNil)))))))))))))))))
def f__law_scene : Nv → Rs Rv := ary 1 (body 8 (m__law_scene))
theorem ok__law_scene {P : Program} {w : World} {K : PySem.W.Frag} {mg : Str → Option Value} {base : Heap} {cl : Str → Option Value} {f : Addr} {fd : FuncData} (F : Fun K "_law_scene" "_law_scene" s__law_scene f fd) (hm : mg "_law_scene" = some (.ref f)) (T : Txt P w K mg base cl) (C__law_draw : Cal P w K mg base cl 1 "_law_draw" ["_law_state", "_law_many"] f__law_draw) (C__law_asks : Cal P w K mg base cl 2 "_law_asks" ["_law_state", "_law_size"] f__law_asks) (C__law_plan : CalG P w K mg base cl 3 "_law_plan" ["_law_state", "_law_size", "_law_row"] f__law_plan) :
    CalG P w K mg base cl 4 "_law_scene" ["_law_state"] f__law_scene :=
  calG_mk (g := m__law_scene) (m := 8) F hm sc__law_scene rfl (fun _ _ _ _ _ _ us hl => match us, hl with | [_], _ => rfl) fun cdv A outer s H E gd hr => by
    have tk : Takes (cxOf (L2.CX P w) P w K mg base ["_law_state", "_law_hand", "_law_size", "_law_row", "_law_plan_here", "_law_turn", "_law_answers", "_law_joins", "_law_at"] "_law_scene" (defScope s__law_scene) f cdv A outer s H E) (fun cls d _ H => E cls d H) := takes_of rfl rfl rfl rfl
    have po : PassesOwn (model P w) (cxOf (L2.CX P w) P w K mg base ["_law_state", "_law_hand", "_law_size", "_law_row", "_law_plan_here", "_law_turn", "_law_answers", "_law_joins", "_law_at"] "_law_scene" (defScope s__law_scene) f cdv A outer s H E).A (cxOf (L2.CX P w) P w K mg base ["_law_state", "_law_hand", "_law_size", "_law_row", "_law_plan_here", "_law_turn", "_law_answers", "_law_joins", "_law_at"] "_law_scene" (defScope s__law_scene) f cdv A outer s H E).env (cxOf (L2.CX P w) P w K mg base ["_law_state", "_law_hand", "_law_size", "_law_row", "_law_plan_here", "_law_turn", "_law_answers", "_law_joins", "_law_at"] "_law_scene" (defScope s__law_scene) f cdv A outer s H E).xe := passes_of rfl
    let cz : Cz := ⟨K, cl, fun _ => E⟩
    exact ⟨_, (bc (sset 1 sc__law_scene.nd (xcal rfl C__law_draw hr tk rfl (a1 (xv 0) (a1 xi a0))))
      (bc (sif (xtcmp (c_eq hr) (xv 1) xi) (b1 (sret (xtup (a1 (xtup (a1 xi (a1 (xtup (a1 (xtup (a1 xi (a1 xi a0))) (a1 (xtup (a1 xi (a1 xi a0))) (a1 (xtup (a1 xi (a1 xi a0))) a0)))) (a1 (xtup (a1 xi a0)) a0)))) (a1 (xtup (a1 (xtup (a1 xi (a1 xi a0))) a0)) a0))))) b0)
      (bc (sif (xtcmp (c_eq hr) (xv 1) xi) (bc (sset 7 sc__law_scene.nd (xtup (a1 (xtup (a1 xi (a1 xi a0))) (a1 (xtup (a1 xi (a1 xi a0))) (a1 (xtup (a1 xi (a1 xi a0))) (a1 (xtup (a1 xi (a1 xi a0))) (a1 (xtup (a1 xi (a1 xi a0))) (a1 (xtup (a1 xi (a1 xi a0))) a0))))))))
      (b1 (sret (xtup (a1 (xtup (a1 xi (a1 (xv 7) (a1 (xtup (a1 xi (a1 xi (a1 xi (a1 xi (a1 xi a0)))))) a0)))) (a1 (xtup (a1 (xtup (a1 xi (a1 xi a0))) (a1 (xtup (a1 xi (a1 xi a0))) (a1 (xtup (a1 xi (a1 xi a0))) (a1 (xtup (a1 xi (a1 xi a0))) (a1 (xtup (a1 xi (a1 xi a0))) a0)))))) a0)))))) b0)
      (bc (sif (xtcmp (c_eq hr) (xv 1) xi) (b1 (sret (xtup (a1 (xtup (a1 (xadd xi (xcal rfl C__law_draw hr tk rfl (a1 (xv 0) (a1 xi a0)))) (a1 (xtup a0) (a1 (xtup a0) a0)))) (a1 (xtup a0) a0))))) b0)
      (bc (sset 2 sc__law_scene.nd (xix (xof (olst (a1 xi (a1 xi (a1 xi (a1 xi (a1 xi (a1 xi (a1 xi (a1 xi a0)))))))))) (xcal rfl C__law_draw hr tk rfl (a1 (xv 0) (a1 xi a0)))))
      (bc (sset 3 sc__law_scene.nd (xcal rfl C__law_asks hr tk rfl (a1 (xv 0) (a1 (xv 2) a0))))
      (bc (sset 4 sc__law_scene.nd (xcalG rfl C__law_plan gd hr tk rfl (a1 (xv 0) (a1 (xv 2) (a1 (xv 3) a0)))))
      (bc (sset 5 sc__law_scene.nd (xcal rfl C__law_draw hr tk rfl (a1 (xv 0) (a1 xi a0))))
      (bc (sset 6 sc__law_scene.nd (xix (xv 4) xi))
      (bc (sif (xtcmp (c_eq hr) (xv 5) xi) (b1 (sset 6 sc__law_scene.nd (xsl (xv 6) p_no (p_so (xneg xi))))) b0)
      (bc (sif (xtcmp (c_eq hr) (xv 5) xi) (b1 (sset 6 sc__law_scene.nd (xadd (xv 6) (xtup (a1 (xcal rfl C__law_draw hr tk rfl (a1 (xv 0) (a1 (xv 2) a0))) a0))))) b0)
      (bc (sif (xtw (wand (xtcmp c_gt (xv 5) xi) (wand (xtcmp c_lt (xv 5) xi) (wand1 (xtcmp c_gt (xcb cr_len len_ok rfl T.b.len (by decide +kernel) (a1 (xv 6) a0)) xi))))) (bc (sset 8 sc__law_scene.nd (xcal rfl C__law_draw hr tk rfl (a1 (xv 0) (a1 (xcb cr_len len_ok rfl T.b.len (by decide +kernel) (a1 (xv 6) a0)) a0))))
      (b1 (sset 6 sc__law_scene.nd (xadd (xadd (xsl (xv 6) p_no (p_so (xv 8))) (xtup (a1 (xcal rfl C__law_draw hr tk rfl (a1 (xv 0) (a1 (xadd (xv 2) (xcb cr_len len_ok rfl T.b.len (by decide +kernel) (a1 (xix (xv 4) xi) a0))) a0))) a0))) (xsl (xv 6) (p_so (xadd (xv 8) xi)) p_no))))) b0)
      (bc (sif (xtw (wand (xtcmp (c_eq hr) (xv 5) xi) (wand1 (xtcmp c_gt (xcb cr_len len_ok rfl T.b.len (by decide +kernel) (a1 (xv 3) a0)) xi)))) (b1 (sset 3 sc__law_scene.nd (xadd (xsl (xv 3) p_no (p_so (xneg xi))) (xtup (a1 (xtup (a1 (xix (xix (xv 3) (xneg xi)) xi) (a1 (xadd (xadd (xv 2) xi) (xcal rfl C__law_draw hr tk rfl (a1 (xv 0) (a1 xi a0)))) a0))) a0))))) b0)
      (b1 (sret (xtup (a1 (xtup (a1 (xix (xv 4) xi) (a1 (xix (xv 4) xi) (a1 (xv 6) a0)))) (a1 (xv 3) a0))))))))))))))))))⟩
theorem sc_is_asks : FnScope ["thing"] ["thing"] (defScope s_is_asks) := ⟨rfl, rfl, rfl, by decide +kernel, rfl, by decide +kernel, by decide +kernel⟩
def m_is_asks : Nv → RS :=
  (sRet (eIsN false (eCall f_asks_fault (aCons (eV 0) aNil))))
def f_is_asks : Nv → Rs Rv := ary 1 (body 0 (m_is_asks))
theorem ok_is_asks {P : Program} {w : World} {K : PySem.W.Frag} {mg : Str → Option Value} {base : Heap} {cl : Str → Option Value} {f : Addr} {fd : FuncData} (F : Fun K "is_asks" "is_asks" s_is_asks f fd) (hm : mg "is_asks" = some (.ref f)) (T : Txt P w K mg base cl) (C_asks_fault : Cal P w K mg base cl 4 "asks_fault" ["thing"] f_asks_fault) :
    Cal P w K mg base cl 5 "is_asks" ["thing"] f_is_asks :=
  cal_mk (g := m_is_asks) (m := 0) F hm sc_is_asks rfl (fun _ _ _ _ _ _ us hl => match us, hl with | [_], _ => rfl) fun cdv A outer s H E hr => by
    have tk : Takes (cxOf (L2.CX P w) P w K mg base ["thing"] "is_asks" (defScope s_is_asks) f cdv A outer s H E) (fun cls d _ H => E cls d H) := takes_of rfl rfl rfl rfl
    have po : PassesOwn (model P w) (cxOf (L2.CX P w) P w K mg base ["thing"] "is_asks" (defScope s_is_asks) f cdv A outer s H E).A (cxOf (L2.CX P w) P w K mg base ["thing"] "is_asks" (defScope s_is_asks) f cdv A outer s H E).env (cxOf (L2.CX P w) P w K mg base ["thing"] "is_asks" (defScope s_is_asks) f cdv A outer s H E).xe := passes_of rfl
    let cz : Cz := ⟨K, cl, fun _ => E⟩
    exact ⟨_, (b1 (sret (xisn (xcal rfl C_asks_fault hr tk rfl (a1 (xv 0) a0)))))⟩
theorem sc_plan_fault : FnScope ["thing", "size", "joins", "answers", "at", "join", "answer"] ["thing"] (defScope s_plan_fault) := ⟨rfl, rfl, rfl, by decide +kernel, rfl, by decide +kernel, by decide +kernel⟩
def lp_plan_fault_0 : Nv → RS := (sIf (tNotF (tVal (eCall f__is_join (aCons (eV 5) (aCons (eBin gAdd (eV 1) (eV 4)) aNil))))) (sRet (eTup (aCons (eC (.str "join")) (aCons (eV 4) aNil)))) sNext)
def lp_plan_fault_1 : Nv → RS := (sIf (tNotF (tVal (eCall f__is_name (aCons (eV 6) (aCons (eBin gAdd (eV 1) (eCb gLen (aCons (eV 2) aNil))) aNil))))) (sRet (eTup (aCons (eC (.str "answer")) (aCons (eV 4) aNil)))) sNext)
def m_plan_fault : Nv → RS :=
  (sSeq (sIf (tNotF (tVal (eCall f_is_group (aCons (eV 0) (aCons (eC (.int 3)) aNil))))) (sRet (eTup (aCons (eC (.str "shape")) (aCons (eUn (fun | .int i => some (.int (-i)) | _ => none) (eC (.int 1))) aNil)))) sNext)
    (sSeq (sAsg (eV 0) (gT 3 (gsC (gN 1) (gsC (gN 2) (gsC (gN 3) gsN)))))
    (sSeq (sIf (tNotF (tVal (eCall f_is_positive (aCons (eV 1) aNil)))) (sRet (eTup (aCons (eC (.str "size")) (aCons (eUn (fun | .int i => some (.int (-i)) | _ => none) (eC (.int 1))) aNil)))) sNext)
    (sSeq (sIf (tNotF (tVal (eIsi "tuple" (eV 2)))) (sRet (eTup (aCons (eC (.str "joins")) (aCons (eUn (fun | .int i => some (.int (-i)) | _ => none) (eC (.int 1))) aNil)))) sNext)
    (sSeq (sFor (iEn (aCons (eV 2) aNil)) (gT 2 (gsC (gN 4) (gsC (gN 5) gsN))) (lp_plan_fault_0))
    (sSeq (sIf (tNotF (tVal (eIsi "tuple" (eV 3)))) (sRet (eTup (aCons (eC (.str "answers")) (aCons (eUn (fun | .int i => some (.int (-i)) | _ => none) (eC (.int 1))) aNil)))) sNext)
    (sSeq (sFor (iEn (aCons (eV 3) aNil)) (gT 2 (gsC (gN 4) (gsC (gN 6) gsN))) (lp_plan_fault_1))
    (sRet (eC .none)))))))))
def f_plan_fault : Nv → Rs Rv := ary 1 (body 6 (m_plan_fault))
theorem ok_plan_fault {P : Program} {w : World} {K : PySem.W.Frag} {mg : Str → Option Value} {base : Heap} {cl : Str → Option Value} {f : Addr} {fd : FuncData} (F : Fun K "plan_fault" "plan_fault" s_plan_fault f fd) (hm : mg "plan_fault" = some (.ref f)) (T : Txt P w K mg base cl) (C_is_group : Cal P w K mg base cl 1 "is_group" ["thing", "many"] f_is_group) (C_is_positive : Cal P w K mg base cl 2 "is_positive" ["thing"] f_is_positive) (C__is_join : Cal P w K mg base cl 4 "_is_join" ["thing", "bound"] f__is_join) (C__is_name : Cal P w K mg base cl 3 "_is_name" ["thing", "bound"] f__is_name) :
    Cal P w K mg base cl 5 "plan_fault" ["thing"] f_plan_fault :=
  cal_mk (g := m_plan_fault) (m := 6) F hm sc_plan_fault rfl (fun _ _ _ _ _ _ us hl => match us, hl with | [_], _ => rfl) fun cdv A outer s H E hr => by
    have tk : Takes (cxOf (L2.CX P w) P w K mg base ["thing", "size", "joins", "answers", "at", "join", "answer"] "plan_fault" (defScope s_plan_fault) f cdv A outer s H E) (fun cls d _ H => E cls d H) := takes_of rfl rfl rfl rfl
    have po : PassesOwn (model P w) (cxOf (L2.CX P w) P w K mg base ["thing", "size", "joins", "answers", "at", "join", "answer"] "plan_fault" (defScope s_plan_fault) f cdv A outer s H E).A (cxOf (L2.CX P w) P w K mg base ["thing", "size", "joins", "answers", "at", "join", "answer"] "plan_fault" (defScope s_plan_fault) f cdv A outer s H E).env (cxOf (L2.CX P w) P w K mg base ["thing", "size", "joins", "answers", "at", "join", "answer"] "plan_fault" (defScope s_plan_fault) f cdv A outer s H E).xe := passes_of rfl
    let cz : Cz := ⟨K, cl, fun _ => E⟩
    exact ⟨_, (bc (sif (xtnot (xt (xcal rfl C_is_group hr tk rfl (a1 (xv 0) (a1 xi a0))))) (b1 (sret (xtup (a1 xs (a1 (xneg xi) a0))))) b0)
      (bc (sasg (xv 0) (gtup rfl (gs1 (gx 1 sc_plan_fault.nd) (gs1 (gx 2 sc_plan_fault.nd) (gs1 (gx 3 sc_plan_fault.nd) gs0)))))
      (bc (sif (xtnot (xt (xcal rfl C_is_positive hr tk rfl (a1 (xv 1) a0)))) (b1 (sret (xtup (a1 xs (a1 (xneg xi) a0))))) b0)
      (bc (sif (xtnot (xt (xisi kit_tuple rfl T.b.isinstance rfl T.b.tuple (by decide +kernel) (xv 2)))) (b1 (sret (xtup (a1 xs (a1 (xneg xi) a0))))) b0)
      (bc (sfor po rfl (ienum rfl T.b.enumerate (a1 (xv 2) a0)) (gtup rfl (gs1 (gx 4 sc_plan_fault.nd) (gs1 (gx 5 sc_plan_fault.nd) gs0))) (b1 (sif (xtnot (xt (xcal rfl C__is_join hr tk rfl (a1 (xv 5) (a1 (xadd (xv 1) (xv 4)) a0))))) (b1 (sret (xtup (a1 xs (a1 (xv 4) a0))))) b0)))
      (bc (sif (xtnot (xt (xisi kit_tuple rfl T.b.isinstance rfl T.b.tuple (by decide +kernel) (xv 3)))) (b1 (sret (xtup (a1 xs (a1 (xneg xi) a0))))) b0)
      (bc (sfor po rfl (ienum rfl T.b.enumerate (a1 (xv 3) a0)) (gtup rfl (gs1 (gx 4 sc_plan_fault.nd) (gs1 (gx 6 sc_plan_fault.nd) gs0))) (b1 (sif (xtnot (xt (xcal rfl C__is_name hr tk rfl (a1 (xv 6) (a1 (xadd (xv 1) (xcb cr_len len_ok rfl T.b.len (by decide +kernel) (a1 (xv 2) a0))) a0))))) (b1 (sret (xtup (a1 xs (a1 (xv 4) a0))))) b0)))
      (b1 (sret xn)))))))))⟩
theorem sc_proof_of : FnScope ["grade", "size"] ["grade", "size"] (defScope s_proof_of) := ⟨rfl, rfl, rfl, by decide +kernel, rfl, by decide +kernel, by decide +kernel⟩
def m_proof_of : Nv → RS :=
  (sSeq (sIf (tVal (eBin (gEq false) (eV 0) (eC (.str "all")))) (sRet (eCall f_span_feed (aCons (eV 1) aNil))) sNext)
    (sSeq (sIf (tVal (eBin (gEq false) (eV 0) (eC (.str "commuting")))) (sRet (eCall f_count_feed (aCons (eV 1) aNil))) sNext)
    (sRet (eCall f_bit_feed (aCons (eV 1) aNil)))))
def f_proof_of : Nv → Rs Rv := ary 2 (body 0 (m_proof_of))
theorem ok_proof_of {P : Program} {w : World} {K : PySem.W.Frag} {mg : Str → Option Value} {base : Heap} {cl : Str → Option Value} {f : Addr} {fd : FuncData} (F : Fun K "proof_of" "proof_of" s_proof_of f fd) (hm : mg "proof_of" = some (.ref f)) (T : Txt P w K mg base cl) (C_bit_feed : Cal P w K mg base cl 4 "bit_feed" ["size"] f_bit_feed) (C_span_feed : Cal P w K mg base cl 4 "span_feed" ["size"] f_span_feed) (C_count_feed : Cal P w K mg base cl 4 "count_feed" ["size"] f_count_feed) :
    Cal P w K mg base cl 5 "proof_of" ["grade", "size"] f_proof_of :=
  cal_mk (g := m_proof_of) (m := 0) F hm sc_proof_of rfl (fun _ _ _ _ _ _ us hl => match us, hl with | [_, _], _ => rfl) fun cdv A outer s H E hr => by
    have tk : Takes (cxOf (L2.CX P w) P w K mg base ["grade", "size"] "proof_of" (defScope s_proof_of) f cdv A outer s H E) (fun cls d _ H => E cls d H) := takes_of rfl rfl rfl rfl
    have po : PassesOwn (model P w) (cxOf (L2.CX P w) P w K mg base ["grade", "size"] "proof_of" (defScope s_proof_of) f cdv A outer s H E).A (cxOf (L2.CX P w) P w K mg base ["grade", "size"] "proof_of" (defScope s_proof_of) f cdv A outer s H E).env (cxOf (L2.CX P w) P w K mg base ["grade", "size"] "proof_of" (defScope s_proof_of) f cdv A outer s H E).xe := passes_of rfl
    let cz : Cz := ⟨K, cl, fun _ => E⟩
    exact ⟨_, (bc (sif (xtcmp (c_eq hr) (xv 0) xs) (b1 (sret (xcal rfl C_span_feed hr tk rfl (a1 (xv 1) a0)))) b0)
      (bc (sif (xtcmp (c_eq hr) (xv 0) xs) (b1 (sret (xcal rfl C_count_feed hr tk rfl (a1 (xv 1) a0)))) b0)
      (b1 (sret (xcal rfl C_bit_feed hr tk rfl (a1 (xv 1) a0))))))⟩
theorem sc_is_plan : FnScope ["thing"] ["thing"] (defScope s_is_plan) := ⟨rfl, rfl, rfl, by decide +kernel, rfl, by decide +kernel, by decide +kernel⟩
def m_is_plan : Nv → RS :=
  (sRet (eIsN false (eCall f_plan_fault (aCons (eV 0) aNil))))
def f_is_plan : Nv → Rs Rv := ary 1 (body 0 (m_is_plan))
theorem ok_is_plan {P : Program} {w : World} {K : PySem.W.Frag} {mg : Str → Option Value} {base : Heap} {cl : Str → Option Value} {f : Addr} {fd : FuncData} (F : Fun K "is_plan" "is_plan" s_is_plan f fd) (hm : mg "is_plan" = some (.ref f)) (T : Txt P w K mg base cl) (C_plan_fault : Cal P w K mg base cl 5 "plan_fault" ["thing"] f_plan_fault) :
    Cal P w K mg base cl 6 "is_plan" ["thing"] f_is_plan :=
  cal_mk (g := m_is_plan) (m := 0) F hm sc_is_plan rfl (fun _ _ _ _ _ _ us hl => match us, hl with | [_], _ => rfl) fun cdv A outer s H E hr => by
    have tk : Takes (cxOf (L2.CX P w) P w K mg base ["thing"] "is_plan" (defScope s_is_plan) f cdv A outer s H E) (fun cls d _ H => E cls d H) := takes_of rfl rfl rfl rfl
    have po : PassesOwn (model P w) (cxOf (L2.CX P w) P w K mg base ["thing"] "is_plan" (defScope s_is_plan) f cdv A outer s H E).A (cxOf (L2.CX P w) P w K mg base ["thing"] "is_plan" (defScope s_is_plan) f cdv A outer s H E).env (cxOf (L2.CX P w) P w K mg base ["thing"] "is_plan" (defScope s_is_plan) f cdv A outer s H E).xe := passes_of rfl
    let cz : Cz := ⟨K, cl, fun _ => E⟩
    exact ⟨_, (b1 (sret (xisn (xcal rfl C_plan_fault hr tk rfl (a1 (xv 0) a0)))))⟩
theorem sc_first_wrong : FnScope ["plan", "asks", "grade", "values", "operation", "feed", "at", "ask", "due"] ["plan", "asks", "grade"] (defScope s_first_wrong) := ⟨rfl, rfl, rfl, by decide +kernel, rfl, by decide +kernel, by decide +kernel⟩
def lp_first_wrong_0 : Nv → RS := (sSeq (sSet 8 (eCall f_folded (aCons (eV 4) (aCons (eSl (eV 5) (pS (eBin gIx (eV 7) (eC (.int 0)))) (pS (eBin gIx (eV 7) (eC (.int 1))))) aNil))))
    (sIf (tVal (eBin (gEq true) (eBin gIx (eV 3) (eBin gIx (eBin gIx (eV 0) (eC (.int 2))) (eV 6))) (eV 8))) (sRet (eV 6)) sNext))
def m_first_wrong : Nv → RS :=
  (sSeq (sAsg (eCall f_proof_of (aCons (eV 2) (aCons (eBin gIx (eV 0) (eC (.int 0))) aNil))) (gT 2 (gsC (gN 4) (gsC (gN 5) gsN))))
    (sSeq (sSet 3 (eCall f_values_of_names (aCons (eV 0) (aCons (eV 4) (aCons (eV 5) aNil)))))
    (sSeq (sFor (iEn (aCons (eV 1) aNil)) (gT 2 (gsC (gN 6) (gsC (gN 7) gsN))) (lp_first_wrong_0))
    (sRet (eC .none)))))
def f_first_wrong : Nv → Rs Rv := ary 3 (body 6 (m_first_wrong))
theorem ok_first_wrong {P : Program} {w : World} {K : PySem.W.Frag} {mg : Str → Option Value} {base : Heap} {cl : Str → Option Value} {f : Addr} {fd : FuncData} (F : Fun K "first_wrong" "first_wrong" s_first_wrong f fd) (hm : mg "first_wrong" = some (.ref f)) (T : Txt P w K mg base cl) (C_proof_of : Cal P w K mg base cl 5 "proof_of" ["grade", "size"] f_proof_of) (C_values_of_names : Cal P w K mg base cl 3 "values_of_names" ["plan", "operation", "feed"] f_values_of_names) (C_folded : Cal P w K mg base cl 3 "folded" ["operation", "values"] f_folded) :
    Cal P w K mg base cl 6 "first_wrong" ["plan", "asks", "grade"] f_first_wrong :=
  cal_mk (g := m_first_wrong) (m := 6) F hm sc_first_wrong rfl (fun _ _ _ _ _ _ us hl => match us, hl with | [_, _, _], _ => rfl) fun cdv A outer s H E hr => by
    have tk : Takes (cxOf (L2.CX P w) P w K mg base ["plan", "asks", "grade", "values", "operation", "feed", "at", "ask", "due"] "first_wrong" (defScope s_first_wrong) f cdv A outer s H E) (fun cls d _ H => E cls d H) := takes_of rfl rfl rfl rfl
    have po : PassesOwn (model P w) (cxOf (L2.CX P w) P w K mg base ["plan", "asks", "grade", "values", "operation", "feed", "at", "ask", "due"] "first_wrong" (defScope s_first_wrong) f cdv A outer s H E).A (cxOf (L2.CX P w) P w K mg base ["plan", "asks", "grade", "values", "operation", "feed", "at", "ask", "due"] "first_wrong" (defScope s_first_wrong) f cdv A outer s H E).env (cxOf (L2.CX P w) P w K mg base ["plan", "asks", "grade", "values", "operation", "feed", "at", "ask", "due"] "first_wrong" (defScope s_first_wrong) f cdv A outer s H E).xe := passes_of rfl
    let cz : Cz := ⟨K, cl, fun _ => E⟩
    exact ⟨_, (bc (sasg (xcal rfl C_proof_of hr tk rfl (a1 (xv 2) (a1 (xix (xv 0) xi) a0))) (gtup rfl (gs1 (gx 4 sc_first_wrong.nd) (gs1 (gx 5 sc_first_wrong.nd) gs0))))
      (bc (sset 3 sc_first_wrong.nd (xcal rfl C_values_of_names hr tk rfl (a1 (xv 0) (a1 (xv 4) (a1 (xv 5) a0)))))
      (bc (sfor po rfl (ienum rfl T.b.enumerate (a1 (xv 1) a0)) (gtup rfl (gs1 (gx 6 sc_first_wrong.nd) (gs1 (gx 7 sc_first_wrong.nd) gs0))) (bc (sset 8 sc_first_wrong.nd (xcal rfl C_folded hr tk rfl (a1 (xv 4) (a1 (xsl (xv 5) (p_so (xix (xv 7) xi)) (p_so (xix (xv 7) xi))) a0))))
      (b1 (sif (xtcmp (c_ne hr) (xix (xv 3) (xix (xix (xv 0) xi) (xv 6))) (xv 8)) (b1 (sret (xv 6))) b0))))
      (b1 (sret xn)))))⟩
theorem sc__need_both : FnScope ["plan", "asks"] ["plan", "asks"] (defScope s__need_both) := ⟨rfl, rfl, rfl, by decide +kernel, rfl, by decide +kernel, by decide +kernel⟩
def m__need_both : Nv → RS :=
  (sSeq (sExpr (eCall f_need (aCons (eCall f_is_plan (aCons (eV 0) aNil)) (aCons (eC (.str "plan")) aNil))))
    (sExpr (eCall f_need (aCons (eCall f_is_asks (aCons (eV 1) aNil)) (aCons (eC (.str "asks")) aNil)))))
def f__need_both : Nv → Rs Rv := ary 2 (body 0 (m__need_both))
theorem ok__need_both {P : Program} {w : World} {K : PySem.W.Frag} {mg : Str → Option Value} {base : Heap} {cl : Str → Option Value} {f : Addr} {fd : FuncData} (F : Fun K "_need_both" "_need_both" s__need_both f fd) (hm : mg "_need_both" = some (.ref f)) (T : Txt P w K mg base cl) (C_need : Cal P w K mg base cl 3 "need" ["fit", "word"] f_need) (C_is_plan : Cal P w K mg base cl 6 "is_plan" ["thing"] f_is_plan) (C_is_asks : Cal P w K mg base cl 5 "is_asks" ["thing"] f_is_asks) :
    Cal P w K mg base cl 7 "_need_both" ["plan", "asks"] f__need_both :=
  cal_mk (g := m__need_both) (m := 0) F hm sc__need_both rfl (fun _ _ _ _ _ _ us hl => match us, hl with | [_, _], _ => rfl) fun cdv A outer s H E hr => by
    have tk : Takes (cxOf (L2.CX P w) P w K mg base ["plan", "asks"] "_need_both" (defScope s__need_both) f cdv A outer s H E) (fun cls d _ H => E cls d H) := takes_of rfl rfl rfl rfl
    have po : PassesOwn (model P w) (cxOf (L2.CX P w) P w K mg base ["plan", "asks"] "_need_both" (defScope s__need_both) f cdv A outer s H E).A (cxOf (L2.CX P w) P w K mg base ["plan", "asks"] "_need_both" (defScope s__need_both) f cdv A outer s H E).env (cxOf (L2.CX P w) P w K mg base ["plan", "asks"] "_need_both" (defScope s__need_both) f cdv A outer s H E).xe := passes_of rfl
    let cz : Cz := ⟨K, cl, fun _ => E⟩
    exact ⟨_, (bc (sexp (xcal rfl C_need hr tk rfl (a1 (xcal rfl C_is_plan hr tk rfl (a1 (xv 0) a0)) (a1 xs a0))))
      (b1 (sexp (xcal rfl C_need hr tk rfl (a1 (xcal rfl C_is_asks hr tk rfl (a1 (xv 1) a0)) (a1 xs a0))))))⟩
theorem sc__is_right : FnScope ["plan", "asks", "grade"] ["plan", "asks", "grade"] (defScope s__is_right) := ⟨rfl, rfl, rfl, by decide +kernel, rfl, by decide +kernel, by decide +kernel⟩
def m__is_right : Nv → RS :=
  (sRet (eAnd (eCall f_suits_asks (aCons (eV 0) (aCons (eV 1) aNil))) (eIsN false (eCall f_first_wrong (aCons (eV 0) (aCons (eV 1) (aCons (eV 2) aNil)))))))
def f__is_right : Nv → Rs Rv := ary 3 (body 0 (m__is_right))
theorem ok__is_right {P : Program} {w : World} {K : PySem.W.Frag} {mg : Str → Option Value} {base : Heap} {cl : Str → Option Value} {f : Addr} {fd : FuncData} (F : Fun K "_is_right" "_is_right" s__is_right f fd) (hm : mg "_is_right" = some (.ref f)) (T : Txt P w K mg base cl) (C_suits_asks : Cal P w K mg base cl 1 "suits_asks" ["plan", "asks"] f_suits_asks) (C_first_wrong : Cal P w K mg base cl 6 "first_wrong" ["plan", "asks", "grade"] f_first_wrong) :
    Cal P w K mg base cl 7 "_is_right" ["plan", "asks", "grade"] f__is_right :=
  cal_mk (g := m__is_right) (m := 0) F hm sc__is_right rfl (fun _ _ _ _ _ _ us hl => match us, hl with | [_, _, _], _ => rfl) fun cdv A outer s H E hr => by
    have tk : Takes (cxOf (L2.CX P w) P w K mg base ["plan", "asks", "grade"] "_is_right" (defScope s__is_right) f cdv A outer s H E) (fun cls d _ H => E cls d H) := takes_of rfl rfl rfl rfl
    have po : PassesOwn (model P w) (cxOf (L2.CX P w) P w K mg base ["plan", "asks", "grade"] "_is_right" (defScope s__is_right) f cdv A outer s H E).A (cxOf (L2.CX P w) P w K mg base ["plan", "asks", "grade"] "_is_right" (defScope s__is_right) f cdv A outer s H E).env (cxOf (L2.CX P w) P w K mg base ["plan", "asks", "grade"] "_is_right" (defScope s__is_right) f cdv A outer s H E).xe := passes_of rfl
    let cz : Cz := ⟨K, cl, fun _ => E⟩
    exact ⟨_, (b1 (sret (xand (xcal rfl C_suits_asks hr tk rfl (a1 (xv 0) (a1 (xv 1) a0))) (xone (xisn (xcal rfl C_first_wrong hr tk rfl (a1 (xv 0) (a1 (xv 1) (a1 (xv 2) a0)))))))))⟩
theorem sc__need_suiting : FnScope ["plan", "asks"] ["plan", "asks"] (defScope s__need_suiting) := ⟨rfl, rfl, rfl, by decide +kernel, rfl, by decide +kernel, by decide +kernel⟩
def m__need_suiting : Nv → RS :=
  (sSeq (sExpr (eCall f_need (aCons (eCall f_is_plan (aCons (eV 0) aNil)) (aCons (eC (.str "plan")) aNil))))
    (sExpr (eCall f_need (aCons (eAnd (eCall f_is_asks (aCons (eV 1) aNil)) (eCall f_suits_asks (aCons (eV 0) (aCons (eV 1) aNil)))) (aCons (eC (.str "asks")) aNil)))))
def f__need_suiting : Nv → Rs Rv := ary 2 (body 0 (m__need_suiting))
theorem ok__need_suiting {P : Program} {w : World} {K : PySem.W.Frag} {mg : Str → Option Value} {base : Heap} {cl : Str → Option Value} {f : Addr} {fd : FuncData} (F : Fun K "_need_suiting" "_need_suiting" s__need_suiting f fd) (hm : mg "_need_suiting" = some (.ref f)) (T : Txt P w K mg base cl) (C_need : Cal P w K mg base cl 3 "need" ["fit", "word"] f_need) (C_is_plan : Cal P w K mg base cl 6 "is_plan" ["thing"] f_is_plan) (C_is_asks : Cal P w K mg base cl 5 "is_asks" ["thing"] f_is_asks) (C_suits_asks : Cal P w K mg base cl 1 "suits_asks" ["plan", "asks"] f_suits_asks) :
    Cal P w K mg base cl 7 "_need_suiting" ["plan", "asks"] f__need_suiting :=
  cal_mk (g := m__need_suiting) (m := 0) F hm sc__need_suiting rfl (fun _ _ _ _ _ _ us hl => match us, hl with | [_, _], _ => rfl) fun cdv A outer s H E hr => by
    have tk : Takes (cxOf (L2.CX P w) P w K mg base ["plan", "asks"] "_need_suiting" (defScope s__need_suiting) f cdv A outer s H E) (fun cls d _ H => E cls d H) := takes_of rfl rfl rfl rfl
    have po : PassesOwn (model P w) (cxOf (L2.CX P w) P w K mg base ["plan", "asks"] "_need_suiting" (defScope s__need_suiting) f cdv A outer s H E).A (cxOf (L2.CX P w) P w K mg base ["plan", "asks"] "_need_suiting" (defScope s__need_suiting) f cdv A outer s H E).env (cxOf (L2.CX P w) P w K mg base ["plan", "asks"] "_need_suiting" (defScope s__need_suiting) f cdv A outer s H E).xe := passes_of rfl
    let cz : Cz := ⟨K, cl, fun _ => E⟩
    exact ⟨_, (bc (sexp (xcal rfl C_need hr tk rfl (a1 (xcal rfl C_is_plan hr tk rfl (a1 (xv 0) a0)) (a1 xs a0))))
      (b1 (sexp (xcal rfl C_need hr tk rfl (a1 (xand (xcal rfl C_is_asks hr tk rfl (a1 (xv 1) a0)) (xone (xcal rfl C_suits_asks hr tk rfl (a1 (xv 0) (a1 (xv 1) a0))))) (a1 xs a0))))))⟩
theorem sc_suits : FnScope ["plan", "asks"] ["plan", "asks"] (defScope s_suits) := ⟨rfl, rfl, rfl, by decide +kernel, rfl, by decide +kernel, by decide +kernel⟩
def m_suits : Nv → RS :=
  (sSeq (sExpr (eCall f__need_both (aCons (eV 0) (aCons (eV 1) aNil))))
    (sRet (eCall f_suits_asks (aCons (eV 0) (aCons (eV 1) aNil)))))
def f_suits : Nv → Rs Rv := ary 2 (body 0 (m_suits))
theorem ok_suits {P : Program} {w : World} {K : PySem.W.Frag} {mg : Str → Option Value} {base : Heap} {cl : Str → Option Value} {f : Addr} {fd : FuncData} (F : Fun K "suits" "suits" s_suits f fd) (hm : mg "suits" = some (.ref f)) (T : Txt P w K mg base cl) (C__need_both : Cal P w K mg base cl 7 "_need_both" ["plan", "asks"] f__need_both) (C_suits_asks : Cal P w K mg base cl 1 "suits_asks" ["plan", "asks"] f_suits_asks) :
    Cal P w K mg base cl 8 "suits" ["plan", "asks"] f_suits :=
  cal_mk (g := m_suits) (m := 0) F hm sc_suits rfl (fun _ _ _ _ _ _ us hl => match us, hl with | [_, _], _ => rfl) fun cdv A outer s H E hr => by
    have tk : Takes (cxOf (L2.CX P w) P w K mg base ["plan", "asks"] "suits" (defScope s_suits) f cdv A outer s H E) (fun cls d _ H => E cls d H) := takes_of rfl rfl rfl rfl
    have po : PassesOwn (model P w) (cxOf (L2.CX P w) P w K mg base ["plan", "asks"] "suits" (defScope s_suits) f cdv A outer s H E).A (cxOf (L2.CX P w) P w K mg base ["plan", "asks"] "suits" (defScope s_suits) f cdv A outer s H E).env (cxOf (L2.CX P w) P w K mg base ["plan", "asks"] "suits" (defScope s_suits) f cdv A outer s H E).xe := passes_of rfl
    let cz : Cz := ⟨K, cl, fun _ => E⟩
    exact ⟨_, (bc (sexp (xcal rfl C__need_both hr tk rfl (a1 (xv 0) (a1 (xv 1) a0))))
      (b1 (sret (xcal rfl C_suits_asks hr tk rfl (a1 (xv 0) (a1 (xv 1) a0))))))⟩
theorem sc_right_all : FnScope ["plan", "asks"] ["plan", "asks"] (defScope s_right_all) := ⟨rfl, rfl, rfl, by decide +kernel, rfl, by decide +kernel, by decide +kernel⟩
def m_right_all : Nv → RS :=
  (sSeq (sExpr (eCall f__need_both (aCons (eV 0) (aCons (eV 1) aNil))))
    (sRet (eCall f__is_right (aCons (eV 0) (aCons (eV 1) (aCons (eC (.str "all")) aNil))))))
def f_right_all : Nv → Rs Rv := ary 2 (body 0 (m_right_all))
theorem ok_right_all {P : Program} {w : World} {K : PySem.W.Frag} {mg : Str → Option Value} {base : Heap} {cl : Str → Option Value} {f : Addr} {fd : FuncData} (F : Fun K "right_all" "right_all" s_right_all f fd) (hm : mg "right_all" = some (.ref f)) (T : Txt P w K mg base cl) (C__need_both : Cal P w K mg base cl 7 "_need_both" ["plan", "asks"] f__need_both) (C__is_right : Cal P w K mg base cl 7 "_is_right" ["plan", "asks", "grade"] f__is_right) :
    Cal P w K mg base cl 8 "right_all" ["plan", "asks"] f_right_all :=
  cal_mk (g := m_right_all) (m := 0) F hm sc_right_all rfl (fun _ _ _ _ _ _ us hl => match us, hl with | [_, _], _ => rfl) fun cdv A outer s H E hr => by
    have tk : Takes (cxOf (L2.CX P w) P w K mg base ["plan", "asks"] "right_all" (defScope s_right_all) f cdv A outer s H E) (fun cls d _ H => E cls d H) := takes_of rfl rfl rfl rfl
    have po : PassesOwn (model P w) (cxOf (L2.CX P w) P w K mg base ["plan", "asks"] "right_all" (defScope s_right_all) f cdv A outer s H E).A (cxOf (L2.CX P w) P w K mg base ["plan", "asks"] "right_all" (defScope s_right_all) f cdv A outer s H E).env (cxOf (L2.CX P w) P w K mg base ["plan", "asks"] "right_all" (defScope s_right_all) f cdv A outer s H E).xe := passes_of rfl
    let cz : Cz := ⟨K, cl, fun _ => E⟩
    exact ⟨_, (bc (sexp (xcal rfl C__need_both hr tk rfl (a1 (xv 0) (a1 (xv 1) a0))))
      (b1 (sret (xcal rfl C__is_right hr tk rfl (a1 (xv 0) (a1 (xv 1) (a1 xs a0)))))))⟩
theorem sc_right_commuting : FnScope ["plan", "asks"] ["plan", "asks"] (defScope s_right_commuting) := ⟨rfl, rfl, rfl, by decide +kernel, rfl, by decide +kernel, by decide +kernel⟩
def m_right_commuting : Nv → RS :=
  (sSeq (sExpr (eCall f__need_both (aCons (eV 0) (aCons (eV 1) aNil))))
    (sRet (eCall f__is_right (aCons (eV 0) (aCons (eV 1) (aCons (eC (.str "commuting")) aNil))))))
def f_right_commuting : Nv → Rs Rv := ary 2 (body 0 (m_right_commuting))
theorem ok_right_commuting {P : Program} {w : World} {K : PySem.W.Frag} {mg : Str → Option Value} {base : Heap} {cl : Str → Option Value} {f : Addr} {fd : FuncData} (F : Fun K "right_commuting" "right_commuting" s_right_commuting f fd) (hm : mg "right_commuting" = some (.ref f)) (T : Txt P w K mg base cl) (C__need_both : Cal P w K mg base cl 7 "_need_both" ["plan", "asks"] f__need_both) (C__is_right : Cal P w K mg base cl 7 "_is_right" ["plan", "asks", "grade"] f__is_right) :
    Cal P w K mg base cl 8 "right_commuting" ["plan", "asks"] f_right_commuting :=
  cal_mk (g := m_right_commuting) (m := 0) F hm sc_right_commuting rfl (fun _ _ _ _ _ _ us hl => match us, hl with | [_, _], _ => rfl) fun cdv A outer s H E hr => by
    have tk : Takes (cxOf (L2.CX P w) P w K mg base ["plan", "asks"] "right_commuting" (defScope s_right_commuting) f cdv A outer s H E) (fun cls d _ H => E cls d H) := takes_of rfl rfl rfl rfl
    have po : PassesOwn (model P w) (cxOf (L2.CX P w) P w K mg base ["plan", "asks"] "right_commuting" (defScope s_right_commuting) f cdv A outer s H E).A (cxOf (L2.CX P w) P w K mg base ["plan", "asks"] "right_commuting" (defScope s_right_commuting) f cdv A outer s H E).env (cxOf (L2.CX P w) P w K mg base ["plan", "asks"] "right_commuting" (defScope s_right_commuting) f cdv A outer s H E).xe := passes_of rfl
    let cz : Cz := ⟨K, cl, fun _ => E⟩
    exact ⟨_, (bc (sexp (xcal rfl C__need_both hr tk rfl (a1 (xv 0) (a1 (xv 1) a0))))
      (b1 (sret (xcal rfl C__is_right hr tk rfl (a1 (xv 0) (a1 (xv 1) (a1 xs a0)))))))⟩
theorem sc_right_same : FnScope ["plan", "asks"] ["plan", "asks"] (defScope s_right_same) := ⟨rfl, rfl, rfl, by decide +kernel, rfl, by decide +kernel, by decide +kernel⟩
def m_right_same : Nv → RS :=
  (sSeq (sExpr (eCall f__need_both (aCons (eV 0) (aCons (eV 1) aNil))))
    (sRet (eCall f__is_right (aCons (eV 0) (aCons (eV 1) (aCons (eC (.str "same")) aNil))))))
def f_right_same : Nv → Rs Rv := ary 2 (body 0 (m_right_same))
theorem ok_right_same {P : Program} {w : World} {K : PySem.W.Frag} {mg : Str → Option Value} {base : Heap} {cl : Str → Option Value} {f : Addr} {fd : FuncData} (F : Fun K "right_same" "right_same" s_right_same f fd) (hm : mg "right_same" = some (.ref f)) (T : Txt P w K mg base cl) (C__need_both : Cal P w K mg base cl 7 "_need_both" ["plan", "asks"] f__need_both) (C__is_right : Cal P w K mg base cl 7 "_is_right" ["plan", "asks", "grade"] f__is_right) :
    Cal P w K mg base cl 8 "right_same" ["plan", "asks"] f_right_same :=
  cal_mk (g := m_right_same) (m := 0) F hm sc_right_same rfl (fun _ _ _ _ _ _ us hl => match us, hl with | [_, _], _ => rfl) fun cdv A outer s H E hr => by
    have tk : Takes (cxOf (L2.CX P w) P w K mg base ["plan", "asks"] "right_same" (defScope s_right_same) f cdv A outer s H E) (fun cls d _ H => E cls d H) := takes_of rfl rfl rfl rfl
    have po : PassesOwn (model P w) (cxOf (L2.CX P w) P w K mg base ["plan", "asks"] "right_same" (defScope s_right_same) f cdv A outer s H E).A (cxOf (L2.CX P w) P w K mg base ["plan", "asks"] "right_same" (defScope s_right_same) f cdv A outer s H E).env (cxOf (L2.CX P w) P w K mg base ["plan", "asks"] "right_same" (defScope s_right_same) f cdv A outer s H E).xe := passes_of rfl
    let cz : Cz := ⟨K, cl, fun _ => E⟩
    exact ⟨_, (bc (sexp (xcal rfl C__need_both hr tk rfl (a1 (xv 0) (a1 (xv 1) a0))))
      (b1 (sret (xcal rfl C__is_right hr tk rfl (a1 (xv 0) (a1 (xv 1) (a1 xs a0)))))))⟩
theorem sc_grade_of : FnScope ["plan", "asks", "grade"] ["plan", "asks"] (defScope s_grade_of) := ⟨rfl, rfl, rfl, by decide +kernel, rfl, by decide +kernel, by decide +kernel⟩
def lp_grade_of_0 : Nv → RS := (sIf (tVal (eCall f__is_right (aCons (eV 0) (aCons (eV 1) (aCons (eV 2) aNil))))) (sRet (eV 2)) sNext)
def m_grade_of : Nv → RS :=
  (sSeq (sExpr (eCall f__need_both (aCons (eV 0) (aCons (eV 1) aNil))))
    (sSeq (sFor (iT (eC c_GRADES)) (gN 2) (lp_grade_of_0))
    (sRet (eC .none))))
def f_grade_of : Nv → Rs Rv := ary 2 (body 1 (m_grade_of))
theorem ok_grade_of {P : Program} {w : World} {K : PySem.W.Frag} {mg : Str → Option Value} {base : Heap} {cl : Str → Option Value} {f : Addr} {fd : FuncData} (F : Fun K "grade_of" "grade_of" s_grade_of f fd) (hm : mg "grade_of" = some (.ref f)) (T : Txt P w K mg base cl) (C__need_both : Cal P w K mg base cl 7 "_need_both" ["plan", "asks"] f__need_both) (C__is_right : Cal P w K mg base cl 7 "_is_right" ["plan", "asks", "grade"] f__is_right) :
    Cal P w K mg base cl 8 "grade_of" ["plan", "asks"] f_grade_of :=
  cal_mk (g := m_grade_of) (m := 1) F hm sc_grade_of rfl (fun _ _ _ _ _ _ us hl => match us, hl with | [_, _], _ => rfl) fun cdv A outer s H E hr => by
    have tk : Takes (cxOf (L2.CX P w) P w K mg base ["plan", "asks", "grade"] "grade_of" (defScope s_grade_of) f cdv A outer s H E) (fun cls d _ H => E cls d H) := takes_of rfl rfl rfl rfl
    have po : PassesOwn (model P w) (cxOf (L2.CX P w) P w K mg base ["plan", "asks", "grade"] "grade_of" (defScope s_grade_of) f cdv A outer s H E).A (cxOf (L2.CX P w) P w K mg base ["plan", "asks", "grade"] "grade_of" (defScope s_grade_of) f cdv A outer s H E).env (cxOf (L2.CX P w) P w K mg base ["plan", "asks", "grade"] "grade_of" (defScope s_grade_of) f cdv A outer s H E).xe := passes_of rfl
    let cz : Cz := ⟨K, cl, fun _ => E⟩
    exact ⟨_, (bc (sexp (xcal rfl C__need_both hr tk rfl (a1 (xv 0) (a1 (xv 1) a0))))
      (bc (sfor po rfl (itup (xg (v := .ref T.a_GRADES) rfl T.g_GRADES rfl T.d_GRADES)) (gx 2 sc_grade_of.nd) (b1 (sif (xt (xcal rfl C__is_right hr tk rfl (a1 (xv 0) (a1 (xv 1) (a1 (xv 2) a0))))) (b1 (sret (xv 2))) b0)))
      (b1 (sret xn))))⟩
theorem sc_right_idle : FnScope ["plan", "asks", "operation"] ["plan", "asks", "operation"] (defScope s_right_idle) := ⟨rfl, rfl, rfl, by decide +kernel, rfl, by decide +kernel, by decide +kernel⟩
def m_right_idle : Nv → RS :=
  (sSeq (sExpr (eCall f__need_both (aCons (eV 0) (aCons (eV 1) aNil))))
    (sSeq (sExpr (eCall f_need (aCons (eAnd (eCall f_is_operation (aCons (eV 2) aNil)) (eIsN true (eCall f_idle_pair (aCons (eV 2) aNil)))) (aCons (eC (.str "operation")) aNil))))
    (sRet (eCall f__is_right (aCons (eV 0) (aCons (eV 1) (aCons (eC (.str "same")) aNil)))))))
def f_right_idle : Nv → Rs Rv := ary 3 (body 0 (m_right_idle))
theorem ok_right_idle {P : Program} {w : World} {K : PySem.W.Frag} {mg : Str → Option Value} {base : Heap} {cl : Str → Option Value} {f : Addr} {fd : FuncData} (F : Fun K "right_idle" "right_idle" s_right_idle f fd) (hm : mg "right_idle" = some (.ref f)) (T : Txt P w K mg base cl) (C__need_both : Cal P w K mg base cl 7 "_need_both" ["plan", "asks"] f__need_both) (C_need : Cal P w K mg base cl 3 "need" ["fit", "word"] f_need) (C__is_right : Cal P w K mg base cl 7 "_is_right" ["plan", "asks", "grade"] f__is_right) (C_is_operation : Cal P w K mg base cl 3 "is_operation" ["thing"] f_is_operation) (C_idle_pair : Cal P w K mg base cl 4 "idle_pair" ["operation"] f_idle_pair) :
    Cal P w K mg base cl 8 "right_idle" ["plan", "asks", "operation"] f_right_idle :=
  cal_mk (g := m_right_idle) (m := 0) F hm sc_right_idle rfl (fun _ _ _ _ _ _ us hl => match us, hl with | [_, _, _], _ => rfl) fun cdv A outer s H E hr => by
    have tk : Takes (cxOf (L2.CX P w) P w K mg base ["plan", "asks", "operation"] "right_idle" (defScope s_right_idle) f cdv A outer s H E) (fun cls d _ H => E cls d H) := takes_of rfl rfl rfl rfl
    have po : PassesOwn (model P w) (cxOf (L2.CX P w) P w K mg base ["plan", "asks", "operation"] "right_idle" (defScope s_right_idle) f cdv A outer s H E).A (cxOf (L2.CX P w) P w K mg base ["plan", "asks", "operation"] "right_idle" (defScope s_right_idle) f cdv A outer s H E).env (cxOf (L2.CX P w) P w K mg base ["plan", "asks", "operation"] "right_idle" (defScope s_right_idle) f cdv A outer s H E).xe := passes_of rfl
    let cz : Cz := ⟨K, cl, fun _ => E⟩
    exact ⟨_, (bc (sexp (xcal rfl C__need_both hr tk rfl (a1 (xv 0) (a1 (xv 1) a0))))
      (bc (sexp (xcal rfl C_need hr tk rfl (a1 (xand (xcal rfl C_is_operation hr tk rfl (a1 (xv 2) a0)) (xone (xisnn (xcal rfl C_idle_pair hr tk rfl (a1 (xv 2) a0))))) (a1 xs a0))))
      (b1 (sret (xcal rfl C__is_right hr tk rfl (a1 (xv 0) (a1 (xv 1) (a1 xs a0))))))))⟩
theorem sc_wrong_at : FnScope ["plan", "asks", "grade"] ["plan", "asks", "grade"] (defScope s_wrong_at) := ⟨rfl, rfl, rfl, by decide +kernel, rfl, by decide +kernel, by decide +kernel⟩
def m_wrong_at : Nv → RS :=
  (sSeq (sExpr (eCall f__need_suiting (aCons (eV 0) (aCons (eV 1) aNil))))
    (sSeq (sExpr (eCall f_need (aCons (eBin (gIn false) (eV 2) (eC c_GRADES)) (aCons (eC (.str "grade")) aNil))))
    (sRet (eCall f_first_wrong (aCons (eV 0) (aCons (eV 1) (aCons (eV 2) aNil)))))))
def f_wrong_at : Nv → Rs Rv := ary 3 (body 0 (m_wrong_at))
theorem ok_wrong_at {P : Program} {w : World} {K : PySem.W.Frag} {mg : Str → Option Value} {base : Heap} {cl : Str → Option Value} {f : Addr} {fd : FuncData} (F : Fun K "wrong_at" "wrong_at" s_wrong_at f fd) (hm : mg "wrong_at" = some (.ref f)) (T : Txt P w K mg base cl) (C__need_suiting : Cal P w K mg base cl 7 "_need_suiting" ["plan", "asks"] f__need_suiting) (C_need : Cal P w K mg base cl 3 "need" ["fit", "word"] f_need) (C_first_wrong : Cal P w K mg base cl 6 "first_wrong" ["plan", "asks", "grade"] f_first_wrong) :
    Cal P w K mg base cl 8 "wrong_at" ["plan", "asks", "grade"] f_wrong_at :=
  cal_mk (g := m_wrong_at) (m := 0) F hm sc_wrong_at rfl (fun _ _ _ _ _ _ us hl => match us, hl with | [_, _, _], _ => rfl) fun cdv A outer s H E hr => by
    have tk : Takes (cxOf (L2.CX P w) P w K mg base ["plan", "asks", "grade"] "wrong_at" (defScope s_wrong_at) f cdv A outer s H E) (fun cls d _ H => E cls d H) := takes_of rfl rfl rfl rfl
    have po : PassesOwn (model P w) (cxOf (L2.CX P w) P w K mg base ["plan", "asks", "grade"] "wrong_at" (defScope s_wrong_at) f cdv A outer s H E).A (cxOf (L2.CX P w) P w K mg base ["plan", "asks", "grade"] "wrong_at" (defScope s_wrong_at) f cdv A outer s H E).env (cxOf (L2.CX P w) P w K mg base ["plan", "asks", "grade"] "wrong_at" (defScope s_wrong_at) f cdv A outer s H E).xe := passes_of rfl
    let cz : Cz := ⟨K, cl, fun _ => E⟩
    exact ⟨_, (bc (sexp (xcal rfl C__need_suiting hr tk rfl (a1 (xv 0) (a1 (xv 1) a0))))
      (bc (sexp (xcal rfl C_need hr tk rfl (a1 (xcmp (c_in hr) (xv 2) (xg (v := .ref T.a_GRADES) rfl T.g_GRADES rfl T.d_GRADES)) (a1 xs a0))))
      (b1 (sret (xcal rfl C_first_wrong hr tk rfl (a1 (xv 0) (a1 (xv 1) (a1 (xv 2) a0))))))))⟩
theorem sc__law_told : FnScope ["_law_plan_here", "_law_row", "_law_named", "_law_got"] ["_law_plan_here", "_law_row", "_law_named"] (defScope s__law_told) := ⟨rfl, rfl, rfl, by decide +kernel, rfl, by decide +kernel, by decide +kernel⟩
def m__law_told : Nv → RS :=
  (sSeq (sIf (tVal (eV 2)) (sSeq (sSet 3 (eTup (aCons (eCallR f_suits (aCons (eV 1) (aCons (eV 0) aNil))) (aCons (eCallR f_right_all (aCons (eV 1) (aCons (eV 0) aNil))) (aCons (eCallR f_right_commuting (aCons (eV 1) (aCons (eV 0) aNil))) aNil)))))
    (sRet (eBin gAdd (eV 3) (eTup (aCons (eCallR f_right_same (aCons (eV 1) (aCons (eV 0) aNil))) (aCons (eCallR f_grade_of (aCons (eV 1) (aCons (eV 0) aNil))) aNil)))))) sNext)
    (sSeq (sSet 3 (eTup (aCons (eCall f_suits (aCons (eV 0) (aCons (eV 1) aNil))) (aCons (eCall f_right_all (aCons (eV 0) (aCons (eV 1) aNil))) (aCons (eCall f_right_commuting (aCons (eV 0) (aCons (eV 1) aNil))) aNil)))))
    (sRet (eBin gAdd (eV 3) (eTup (aCons (eCall f_right_same (aCons (eV 0) (aCons (eV 1) aNil))) (aCons (eCall f_grade_of (aCons (eV 0) (aCons (eV 1) aNil))) aNil)))))))
def f__law_told : Nv → Rs Rv := ary 3 (body 1 (m__law_told))
theorem ok__law_told {P : Program} {w : World} {K : PySem.W.Frag} {mg : Str → Option Value} {base : Heap} {cl : Str → Option Value} {f : Addr} {fd : FuncData} (F : Fun K "_law_told" "_law_told" s__law_told f fd) (hm : mg "_law_told" = some (.ref f)) (T : Txt P w K mg base cl) (C_suits : Cal P w K mg base cl 8 "suits" ["plan", "asks"] f_suits) (C_right_all : Cal P w K mg base cl 8 "right_all" ["plan", "asks"] f_right_all) (C_right_commuting : Cal P w K mg base cl 8 "right_commuting" ["plan", "asks"] f_right_commuting) (C_right_same : Cal P w K mg base cl 8 "right_same" ["plan", "asks"] f_right_same) (C_grade_of : Cal P w K mg base cl 8 "grade_of" ["plan", "asks"] f_grade_of) (R_suits : CalR P w K mg base cl 8 "suits" ["plan", "asks"] ["asks", "plan"] f_suits) (R_right_all : CalR P w K mg base cl 8 "right_all" ["plan", "asks"] ["asks", "plan"] f_right_all) (R_right_commuting : CalR P w K mg base cl 8 "right_commuting" ["plan", "asks"] ["asks", "plan"] f_right_commuting) (R_right_same : CalR P w K mg base cl 8 "right_same" ["plan", "asks"] ["asks", "plan"] f_right_same) (R_grade_of : CalR P w K mg base cl 8 "grade_of" ["plan", "asks"] ["asks", "plan"] f_grade_of) :
    Cal P w K mg base cl 9 "_law_told" ["_law_plan_here", "_law_row", "_law_named"] f__law_told :=
  cal_mk (g := m__law_told) (m := 1) F hm sc__law_told rfl (fun _ _ _ _ _ _ us hl => match us, hl with | [_, _, _], _ => rfl) fun cdv A outer s H E hr => by
    have tk : Takes (cxOf (L2.CX P w) P w K mg base ["_law_plan_here", "_law_row", "_law_named", "_law_got"] "_law_told" (defScope s__law_told) f cdv A outer s H E) (fun cls d _ H => E cls d H) := takes_of rfl rfl rfl rfl
    have po : PassesOwn (model P w) (cxOf (L2.CX P w) P w K mg base ["_law_plan_here", "_law_row", "_law_named", "_law_got"] "_law_told" (defScope s__law_told) f cdv A outer s H E).A (cxOf (L2.CX P w) P w K mg base ["_law_plan_here", "_law_row", "_law_named", "_law_got"] "_law_told" (defScope s__law_told) f cdv A outer s H E).env (cxOf (L2.CX P w) P w K mg base ["_law_plan_here", "_law_row", "_law_named", "_law_got"] "_law_told" (defScope s__law_told) f cdv A outer s H E).xe := passes_of rfl
    let cz : Cz := ⟨K, cl, fun _ => E⟩
    exact ⟨_, (bc (sif (xt (xv 2)) (bc (sset 3 sc__law_told.nd (xtup (a1 (xcalR rfl R_suits hr tk rfl (k1 (xv 1) (k1 (xv 0) k0))) (a1 (xcalR rfl R_right_all hr tk rfl (k1 (xv 1) (k1 (xv 0) k0))) (a1 (xcalR rfl R_right_commuting hr tk rfl (k1 (xv 1) (k1 (xv 0) k0))) a0)))))
      (b1 (sret (xadd (xv 3) (xtup (a1 (xcalR rfl R_right_same hr tk rfl (k1 (xv 1) (k1 (xv 0) k0))) (a1 (xcalR rfl R_grade_of hr tk rfl (k1 (xv 1) (k1 (xv 0) k0))) a0))))))) b0)
      (bc (sset 3 sc__law_told.nd (xtup (a1 (xcal rfl C_suits hr tk rfl (a1 (xv 0) (a1 (xv 1) a0))) (a1 (xcal rfl C_right_all hr tk rfl (a1 (xv 0) (a1 (xv 1) a0))) (a1 (xcal rfl C_right_commuting hr tk rfl (a1 (xv 0) (a1 (xv 1) a0))) a0)))))
      (b1 (sret (xadd (xv 3) (xtup (a1 (xcal rfl C_right_same hr tk rfl (a1 (xv 0) (a1 (xv 1) a0))) (a1 (xcal rfl C_grade_of hr tk rfl (a1 (xv 0) (a1 (xv 1) a0))) a0))))))))⟩
theorem sc__law_refused : FnScope ["_law_which", "_law_plan_here", "_law_row", "_law_third", "_law_e"] ["_law_which", "_law_plan_here", "_law_row", "_law_third"] (defScope s__law_refused) := ⟨rfl, rfl, rfl, by decide +kernel, rfl, by decide +kernel, by decide +kernel⟩
def m__law_refused : Nv → RS :=
  (sSeq (sTry2 4 "NotUsable" "word" "at" (sSeq (sIf (tVal (eBin (gEq false) (eV 0) (eC (.int 0)))) (sExpr (eCall f_suits (aCons (eV 1) (aCons (eV 2) aNil)))) sNext)
    (sSeq (sIf (tVal (eBin (gEq false) (eV 0) (eC (.int 1)))) (sExpr (eCall f_right_all (aCons (eV 1) (aCons (eV 2) aNil)))) sNext)
    (sSeq (sIf (tVal (eBin (gEq false) (eV 0) (eC (.int 2)))) (sExpr (eCall f_right_commuting (aCons (eV 1) (aCons (eV 2) aNil)))) sNext)
    (sSeq (sIf (tVal (eBin (gEq false) (eV 0) (eC (.int 3)))) (sExpr (eCall f_right_same (aCons (eV 1) (aCons (eV 2) aNil)))) sNext)
    (sSeq (sIf (tVal (eBin (gEq false) (eV 0) (eC (.int 4)))) (sExpr (eCall f_grade_of (aCons (eV 1) (aCons (eV 2) aNil)))) sNext)
    (sSeq (sIf (tVal (eBin (gEq false) (eV 0) (eC (.int 5)))) (sExpr (eCall f_right_idle (aCons (eV 1) (aCons (eV 2) (aCons (eV 3) aNil))))) sNext)
    (sIf (tVal (eBin (gEq false) (eV 0) (eC (.int 6)))) (sExpr (eCall f_wrong_at (aCons (eV 1) (aCons (eV 2) (aCons (eV 3) aNil))))) sNext))))))))
    (sRet (eTup aNil)))
def f__law_refused : Nv → Rs Rv := ary 4 (body 1 (m__law_refused))
theorem ok__law_refused {P : Program} {w : World} {K : PySem.W.Frag} {mg : Str → Option Value} {base : Heap} {cl : Str → Option Value} {f : Addr} {fd : FuncData} (F : Fun K "_law_refused" "_law_refused" s__law_refused f fd) (hm : mg "_law_refused" = some (.ref f)) (T : Txt P w K mg base cl) (C_suits : Cal P w K mg base cl 8 "suits" ["plan", "asks"] f_suits) (C_right_all : Cal P w K mg base cl 8 "right_all" ["plan", "asks"] f_right_all) (C_right_commuting : Cal P w K mg base cl 8 "right_commuting" ["plan", "asks"] f_right_commuting) (C_right_same : Cal P w K mg base cl 8 "right_same" ["plan", "asks"] f_right_same) (C_grade_of : Cal P w K mg base cl 8 "grade_of" ["plan", "asks"] f_grade_of) (C_right_idle : Cal P w K mg base cl 8 "right_idle" ["plan", "asks", "operation"] f_right_idle) (C_wrong_at : Cal P w K mg base cl 8 "wrong_at" ["plan", "asks", "grade"] f_wrong_at) :
    Cal P w K mg base cl 9 "_law_refused" ["_law_which", "_law_plan_here", "_law_row", "_law_third"] f__law_refused :=
  cal_mk (g := m__law_refused) (m := 1) F hm sc__law_refused rfl (fun _ _ _ _ _ _ us hl => match us, hl with | [_, _, _, _], _ => rfl) fun cdv A outer s H E hr => by
    have tk : Takes (cxOf (L2.CX P w) P w K mg base ["_law_which", "_law_plan_here", "_law_row", "_law_third", "_law_e"] "_law_refused" (defScope s__law_refused) f cdv A outer s H E) (fun cls d _ H => E cls d H) := takes_of rfl rfl rfl rfl
    have po : PassesOwn (model P w) (cxOf (L2.CX P w) P w K mg base ["_law_which", "_law_plan_here", "_law_row", "_law_third", "_law_e"] "_law_refused" (defScope s__law_refused) f cdv A outer s H E).A (cxOf (L2.CX P w) P w K mg base ["_law_which", "_law_plan_here", "_law_row", "_law_third", "_law_e"] "_law_refused" (defScope s__law_refused) f cdv A outer s H E).env (cxOf (L2.CX P w) P w K mg base ["_law_which", "_law_plan_here", "_law_row", "_law_third", "_law_e"] "_law_refused" (defScope s__law_refused) f cdv A outer s H E).xe := passes_of rfl
    let cz : Cz := ⟨K, cl, fun _ => E⟩
    exact ⟨_, (bc (stry2 4 sc__law_refused.nd rfl rfl rfl rfl T.x_NotUsable T.e_NotUsable rfl (fun W pn xe tk _ => (bc (sif (xtcmp (c_eq hr) (xv 0) xi) (b1 (sexp (xcalS rfl C_suits hr tk rfl (a1 (xv 1) (a1 (xv 2) a0))))) b0)
      (bc (sif (xtcmp (c_eq hr) (xv 0) xi) (b1 (sexp (xcalS rfl C_right_all hr tk rfl (a1 (xv 1) (a1 (xv 2) a0))))) b0)
      (bc (sif (xtcmp (c_eq hr) (xv 0) xi) (b1 (sexp (xcalS rfl C_right_commuting hr tk rfl (a1 (xv 1) (a1 (xv 2) a0))))) b0)
      (bc (sif (xtcmp (c_eq hr) (xv 0) xi) (b1 (sexp (xcalS rfl C_right_same hr tk rfl (a1 (xv 1) (a1 (xv 2) a0))))) b0)
      (bc (sif (xtcmp (c_eq hr) (xv 0) xi) (b1 (sexp (xcalS rfl C_grade_of hr tk rfl (a1 (xv 1) (a1 (xv 2) a0))))) b0)
      (bc (sif (xtcmp (c_eq hr) (xv 0) xi) (b1 (sexp (xcalS rfl C_right_idle hr tk rfl (a1 (xv 1) (a1 (xv 2) (a1 (xv 3) a0)))))) b0)
      (b1 (sif (xtcmp (c_eq hr) (xv 0) xi) (b1 (sexp (xcalS rfl C_wrong_at hr tk rfl (a1 (xv 1) (a1 (xv 2) (a1 (xv 3) a0)))))) b0))))))))))
      (b1 (sret (xtup a0))))⟩
theorem sc__law_refusals : FnScope ["_law_state", "_law_plan_here", "_law_row", "_law_odd", "_law_worse", "_law_third", "_law_k", "_law_bad", "_law_due", "_law_other"] ["_law_state", "_law_plan_here", "_law_row"] (defScope s__law_refusals) := ⟨rfl, rfl, rfl, by decide +kernel, rfl, by decide +kernel, by decide +kernel⟩
def lp__law_refusals_0 : Nv → RS := (sSeq (sSet 9 (eV 4))
    (sSeq (sIf (tVal (eBin (gEq false) (eCall f__law_draw (aCons (eV 0) (aCons (eC (.int 2)) aNil))) (eC (.int 0)))) (sSet 9 (eV 2)) sNext)
    (sSeq (sIf (tNotF (tVal (eCall f__law_same (aCons (eCall f__law_refused (aCons (eV 6) (aCons (eV 3) (aCons (eV 9) (aCons (eV 5) aNil))))) (aCons (eTup (aCons (eC (.str "plan")) (aCons (eUn (fun | .int i => some (.int (-i)) | _ => none) (eC (.int 1))) aNil))) aNil))))) (sRet (eC (.bool false))) sNext)
    (sIf (tNotF (tVal (eCall f__law_same (aCons (eCall f__law_refused (aCons (eV 6) (aCons (eV 1) (aCons (eV 4) (aCons (eV 5) aNil))))) (aCons (eTup (aCons (eC (.str "asks")) (aCons (eUn (fun | .int i => some (.int (-i)) | _ => none) (eC (.int 1))) aNil))) aNil))))) (sRet (eC (.bool false))) sNext))))
def m__law_refusals : Nv → RS :=
  (sSeq (sSet 3 (eCall f__law_bad_plan (aCons (eV 0) (aCons (eV 1) aNil))))
    (sSeq (sSet 4 (eCall f__law_bad_row (aCons (eV 0) (aCons (eV 2) aNil))))
    (sSeq (sSet 5 (eCall f__law_no_idle (aCons (eV 0) aNil)))
    (sSeq (sFor (iR1 (aCons (eC (.int 7)) aNil)) (gN 6) (lp__law_refusals_0))
    (sSeq (sIf (tNotF (tVal (eCall f__law_same (aCons (eCall f__law_refused (aCons (eC (.int 5)) (aCons (eV 1) (aCons (eV 2) (aCons (eV 5) aNil))))) (aCons (eTup (aCons (eC (.str "operation")) (aCons (eUn (fun | .int i => some (.int (-i)) | _ => none) (eC (.int 1))) aNil))) aNil))))) (sRet (eC (.bool false))) sNext)
    (sSeq (sSet 7 (eBin gIx (eOf (oLst (aCons (eC (.str "ALL")) (aCons (eC (.str "")) (aCons (eC .none) (aCons (eC (.int 0)) (aCons (eC (.bool true)) (aCons (eTup (aCons (eC (.str "all")) aNil)) (aCons (eC (.str "every")) aNil))))))))) (eCall f__law_draw (aCons (eV 0) (aCons (eC (.int 7)) aNil)))))
    (sSeq (sSet 8 (eC (.str "grade")))
    (sSeq (sIf (tNotF (tVal (eCall f__law_suits (aCons (eV 1) (aCons (eV 2) aNil))))) (sSeq (sSet 8 (eC (.str "asks")))
    (sIf (tNotF (tVal (eCall f__law_same (aCons (eCall f__law_refused (aCons (eC (.int 6)) (aCons (eV 1) (aCons (eV 2) (aCons (eC (.str "same")) aNil))))) (aCons (eTup (aCons (eC (.str "asks")) (aCons (eUn (fun | .int i => some (.int (-i)) | _ => none) (eC (.int 1))) aNil))) aNil))))) (sRet (eC (.bool false))) sNext)) sNext)
    (sRet (eCall f__law_same (aCons (eCall f__law_refused (aCons (eC (.int 6)) (aCons (eV 1) (aCons (eV 2) (aCons (eV 7) aNil))))) (aCons (eTup (aCons (eV 8) (aCons (eUn (fun | .int i => some (.int (-i)) | _ => none) (eC (.int 1))) aNil))) aNil))))))))))))
def f__law_refusals : Nv → Rs Rv := ary 3 (body 7 (m__law_refusals))
theorem ok__law_refusals {P : Program} {w : World} {K : PySem.W.Frag} {mg : Str → Option Value} {base : Heap} {cl : Str → Option Value} {f : Addr} {fd : FuncData} (F : Fun K "_law_refusals" "_law_refusals" s__law_refusals f fd) (hm : mg "_law_refusals" = some (.ref f)) (T : Txt P w K mg base cl) (C__law_bad_plan : Cal P w K mg base cl 2 "_law_bad_plan" ["_law_state", "_law_plan_here"] f__law_bad_plan) (C__law_bad_row : Cal P w K mg base cl 2 "_law_bad_row" ["_law_state", "_law_row"] f__law_bad_row) (C__law_no_idle : Cal P w K mg base cl 2 "_law_no_idle" ["_law_state"] f__law_no_idle) (C__law_same : Cal P w K mg base cl 4 "_law_same" ["_law_got", "_law_due"] f__law_same) (C__law_draw : Cal P w K mg base cl 1 "_law_draw" ["_law_state", "_law_many"] f__law_draw) (C__law_suits : Cal P w K mg base cl 1 "_law_suits" ["_law_plan_here", "_law_row"] f__law_suits) (C__law_refused : Cal P w K mg base cl 9 "_law_refused" ["_law_which", "_law_plan_here", "_law_row", "_law_third"] f__law_refused) :
    Cal P w K mg base cl 10 "_law_refusals" ["_law_state", "_law_plan_here", "_law_row"] f__law_refusals :=
  cal_mk (g := m__law_refusals) (m := 7) F hm sc__law_refusals rfl (fun _ _ _ _ _ _ us hl => match us, hl with | [_, _, _], _ => rfl) fun cdv A outer s H E hr => by
    have tk : Takes (cxOf (L2.CX P w) P w K mg base ["_law_state", "_law_plan_here", "_law_row", "_law_odd", "_law_worse", "_law_third", "_law_k", "_law_bad", "_law_due", "_law_other"] "_law_refusals" (defScope s__law_refusals) f cdv A outer s H E) (fun cls d _ H => E cls d H) := takes_of rfl rfl rfl rfl
    have po : PassesOwn (model P w) (cxOf (L2.CX P w) P w K mg base ["_law_state", "_law_plan_here", "_law_row", "_law_odd", "_law_worse", "_law_third", "_law_k", "_law_bad", "_law_due", "_law_other"] "_law_refusals" (defScope s__law_refusals) f cdv A outer s H E).A (cxOf (L2.CX P w) P w K mg base ["_law_state", "_law_plan_here", "_law_row", "_law_odd", "_law_worse", "_law_third", "_law_k", "_law_bad", "_law_due", "_law_other"] "_law_refusals" (defScope s__law_refusals) f cdv A outer s H E).env (cxOf (L2.CX P w) P w K mg base ["_law_state", "_law_plan_here", "_law_row", "_law_odd", "_law_worse", "_law_third", "_law_k", "_law_bad", "_law_due", "_law_other"] "_law_refusals" (defScope s__law_refusals) f cdv A outer s H E).xe := passes_of rfl
    let cz : Cz := ⟨K, cl, fun _ => E⟩
    exact ⟨_, (bc (sset 3 sc__law_refusals.nd (xcal rfl C__law_bad_plan hr tk rfl (a1 (xv 0) (a1 (xv 1) a0))))
      (bc (sset 4 sc__law_refusals.nd (xcal rfl C__law_bad_row hr tk rfl (a1 (xv 0) (a1 (xv 2) a0))))
      (bc (sset 5 sc__law_refusals.nd (xcal rfl C__law_no_idle hr tk rfl (a1 (xv 0) a0)))
      (bc (sfor po rfl (irng1 rfl T.b.range (a1 xi a0)) (gx 6 sc__law_refusals.nd) (bc (sset 9 sc__law_refusals.nd (xv 4))
      (bc (sif (xtcmp (c_eq hr) (xcal rfl C__law_draw hr tk rfl (a1 (xv 0) (a1 xi a0))) xi) (b1 (sset 9 sc__law_refusals.nd (xv 2))) b0)
      (bc (sif (xtnot (xt (xcal rfl C__law_same hr tk rfl (a1 (xcal rfl C__law_refused hr tk rfl (a1 (xv 6) (a1 (xv 3) (a1 (xv 9) (a1 (xv 5) a0))))) (a1 (xtup (a1 xs (a1 (xneg xi) a0))) a0))))) (b1 (sret xb)) b0)
      (b1 (sif (xtnot (xt (xcal rfl C__law_same hr tk rfl (a1 (xcal rfl C__law_refused hr tk rfl (a1 (xv 6) (a1 (xv 1) (a1 (xv 4) (a1 (xv 5) a0))))) (a1 (xtup (a1 xs (a1 (xneg xi) a0))) a0))))) (b1 (sret xb)) b0))))))
      (bc (sif (xtnot (xt (xcal rfl C__law_same hr tk rfl (a1 (xcal rfl C__law_refused hr tk rfl (a1 xi (a1 (xv 1) (a1 (xv 2) (a1 (xv 5) a0))))) (a1 (xtup (a1 xs (a1 (xneg xi) a0))) a0))))) (b1 (sret xb)) b0)
      (bc (sset 7 sc__law_refusals.nd (xix (xof (olst (a1 xs (a1 xs (a1 xn (a1 xi (a1 xb (a1 (xtup (a1 xs a0)) (a1 xs a0))))))))) (xcal rfl C__law_draw hr tk rfl (a1 (xv 0) (a1 xi a0)))))
      (bc (sset 8 sc__law_refusals.nd xs)
      (bc (sif (xtnot (xt (xcal rfl C__law_suits hr tk rfl (a1 (xv 1) (a1 (xv 2) a0))))) (bc (sset 8 sc__law_refusals.nd xs)
      (b1 (sif (xtnot (xt (xcal rfl C__law_same hr tk rfl (a1 (xcal rfl C__law_refused hr tk rfl (a1 xi (a1 (xv 1) (a1 (xv 2) (a1 xs a0))))) (a1 (xtup (a1 xs (a1 (xneg xi) a0))) a0))))) (b1 (sret xb)) b0))) b0)
      (b1 (sret (xcal rfl C__law_same hr tk rfl (a1 (xcal rfl C__law_refused hr tk rfl (a1 xi (a1 (xv 1) (a1 (xv 2) (a1 (xv 7) a0))))) (a1 (xtup (a1 (xv 8) (a1 (xneg xi) a0))) a0)))))))))))))⟩
theorem sc_law : FnScope ["_law_script", "_law_state", "_law_scene_here", "_law_plan_here", "_law_row", "_law_dues_here", "_law_named", "_law_operation", "_law_grade", "_law_other", "_law_wrong"] ["_law_script"] (defScope s_law) := ⟨rfl, rfl, rfl, by decide +kernel, rfl, by decide +kernel, by decide +kernel⟩
def lp_law_0 : Nv → RS := (sIf (tVal (eBin gIx (eV 5) (eC (.int 0)))) (sSeq (sSet 10 (eCall f__law_first_wrong (aCons (eV 3) (aCons (eV 4) (aCons (eV 8) aNil)))))
    (sIf (tNotF (tVal (eCall f__law_same (aCons (eCallR f_wrong_at (aCons (eV 8) (aCons (eV 4) (aCons (eV 3) aNil)))) (aCons (eV 10) aNil))))) (sRet (eC (.bool false))) sNext)) sNext)
def m_law : Nv → RS :=
  (sSeq (sNew 1 (oCall f__law_start (aCons (eV 0) aNil)))
    (sSeq (sSet 2 (eCall f__law_scene (aCons (eV 1) aNil)))
    (sSeq (sSet 3 (eBin gIx (eV 2) (eC (.int 0))))
    (sSeq (sSet 4 (eBin gIx (eV 2) (eC (.int 1))))
    (sSeq (sSet 5 (eCall f__law_dues (aCons (eV 3) (aCons (eV 4) aNil))))
    (sSeq (sSet 6 (eBin (gEq false) (eCall f__law_draw (aCons (eV 1) (aCons (eC (.int 2)) aNil))) (eC (.int 0))))
    (sSeq (sIf (tNotF (tVal (eCall f__law_same (aCons (eCall f__law_told (aCons (eV 3) (aCons (eV 4) (aCons (eV 6) aNil)))) (aCons (eV 5) aNil))))) (sRet (eC (.bool false))) sNext)
    (sSeq (sSet 7 (eCall f__law_idle (aCons (eV 1) aNil)))
    (sSeq (sIf (tNotF (tVal (eCall f__law_same (aCons (eCall f_right_idle (aCons (eV 3) (aCons (eV 4) (aCons (eV 7) aNil)))) (aCons (eBin gIx (eV 5) (eC (.int 3))) aNil))))) (sRet (eC (.bool false))) sNext)
    (sSeq (sFor (iL (eOf (oLst (aCons (eC (.str "all")) (aCons (eC (.str "commuting")) (aCons (eC (.str "same")) aNil)))))) (gN 8) (lp_law_0))
    (sSeq (sIf (tNotF (tVal (eCall f__law_refusals (aCons (eV 1) (aCons (eV 3) (aCons (eV 4) aNil)))))) (sRet (eC (.bool false))) sNext)
    (sSeq (sSet 9 (eCall f__law_idle (aCons (eV 1) aNil)))
    (sSeq (sIf (tNotF (tVal (eCall f__law_same (aCons (eCallR f_right_idle (aCons (eV 9) (aCons (eV 4) (aCons (eV 3) aNil)))) (aCons (eBin gIx (eV 5) (eC (.int 3))) aNil))))) (sRet (eC (.bool false))) sNext)
    (sRet (eCall f__law_same (aCons (eCall f__law_told (aCons (eV 3) (aCons (eV 4) (aCons (eNot (eV 6)) aNil)))) (aCons (eV 5) aNil)))))))))))))))))
def f_law : Nv → Rs Rv := ary 1 (body 10 (m_law))
theorem ok_law {P : Program} {w : World} {K : PySem.W.Frag} {mg : Str → Option Value} {base : Heap} {cl : Str → Option Value} {f : Addr} {fd : FuncData} (F : Fun K "law" "law" s_law f fd) (hm : mg "law" = some (.ref f)) (T : Txt P w K mg base cl) (C__law_start : Cal P w K mg base cl 1 "_law_start" ["_law_script"] f__law_start) (C__law_scene : CalG P w K mg base cl 4 "_law_scene" ["_law_state"] f__law_scene) (C__law_dues : Cal P w K mg base cl 3 "_law_dues" ["_law_plan_here", "_law_row"] f__law_dues) (C__law_idle : Cal P w K mg base cl 2 "_law_idle" ["_law_state"] f__law_idle) (C__law_same : Cal P w K mg base cl 4 "_law_same" ["_law_got", "_law_due"] f__law_same) (C__law_draw : Cal P w K mg base cl 1 "_law_draw" ["_law_state", "_law_many"] f__law_draw) (C__law_refusals : Cal P w K mg base cl 10 "_law_refusals" ["_law_state", "_law_plan_here", "_law_row"] f__law_refusals) (C__law_told : Cal P w K mg base cl 9 "_law_told" ["_law_plan_here", "_law_row", "_law_named"] f__law_told) (C_right_idle : Cal P w K mg base cl 8 "right_idle" ["plan", "asks", "operation"] f_right_idle) (C__law_first_wrong : Cal P w K mg base cl 2 "_law_first_wrong" ["_law_plan_here", "_law_row", "_law_grade"] f__law_first_wrong) (R_right_idle : CalR P w K mg base cl 8 "right_idle" ["plan", "asks", "operation"] ["operation", "asks", "plan"] f_right_idle) (R_wrong_at : CalR P w K mg base cl 8 "wrong_at" ["plan", "asks", "grade"] ["grade", "asks", "plan"] f_wrong_at) :
    CalG P w K mg base cl 11 "law" ["_law_script"] f_law :=
  calG_mk (g := m_law) (m := 10) F hm sc_law rfl (fun _ _ _ _ _ _ us hl => match us, hl with | [_], _ => rfl) fun cdv A outer s H E gd hr => by
    have tk : Takes (cxOf (L2.CX P w) P w K mg base ["_law_script", "_law_state", "_law_scene_here", "_law_plan_here", "_law_row", "_law_dues_here", "_law_named", "_law_operation", "_law_grade", "_law_other", "_law_wrong"] "law" (defScope s_law) f cdv A outer s H E) (fun cls d _ H => E cls d H) := takes_of rfl rfl rfl rfl
    have po : PassesOwn (model P w) (cxOf (L2.CX P w) P w K mg base ["_law_script", "_law_state", "_law_scene_here", "_law_plan_here", "_law_row", "_law_dues_here", "_law_named", "_law_operation", "_law_grade", "_law_other", "_law_wrong"] "law" (defScope s_law) f cdv A outer s H E).A (cxOf (L2.CX P w) P w K mg base ["_law_script", "_law_state", "_law_scene_here", "_law_plan_here", "_law_row", "_law_dues_here", "_law_named", "_law_operation", "_law_grade", "_law_other", "_law_wrong"] "law" (defScope s_law) f cdv A outer s H E).env (cxOf (L2.CX P w) P w K mg base ["_law_script", "_law_state", "_law_scene_here", "_law_plan_here", "_law_row", "_law_dues_here", "_law_named", "_law_operation", "_law_grade", "_law_other", "_law_wrong"] "law" (defScope s_law) f cdv A outer s H E).xe := passes_of rfl
    let cz : Cz := ⟨K, cl, fun _ => E⟩
    exact ⟨_, (bc (snew 1 sc_law.nd (ocal rfl C__law_start hr tk rfl (a1 (xv 0) a0)))
      (bc (sset 2 sc_law.nd (xcalG rfl C__law_scene gd hr tk rfl (a1 (xv 1) a0)))
      (bc (sset 3 sc_law.nd (xix (xv 2) xi))
      (bc (sset 4 sc_law.nd (xix (xv 2) xi))
      (bc (sset 5 sc_law.nd (xcal rfl C__law_dues hr tk rfl (a1 (xv 3) (a1 (xv 4) a0))))
      (bc (sset 6 sc_law.nd (xcmp (c_eq hr) (xcal rfl C__law_draw hr tk rfl (a1 (xv 1) (a1 xi a0))) xi))
      (bc (sif (xtnot (xt (xcal rfl C__law_same hr tk rfl (a1 (xcal rfl C__law_told hr tk rfl (a1 (xv 3) (a1 (xv 4) (a1 (xv 6) a0)))) (a1 (xv 5) a0))))) (b1 (sret xb)) b0)
      (bc (sset 7 sc_law.nd (xcal rfl C__law_idle hr tk rfl (a1 (xv 1) a0)))
      (bc (sif (xtnot (xt (xcal rfl C__law_same hr tk rfl (a1 (xcal rfl C_right_idle hr tk rfl (a1 (xv 3) (a1 (xv 4) (a1 (xv 7) a0)))) (a1 (xix (xv 5) xi) a0))))) (b1 (sret xb)) b0)
      (bc (sfor po rfl (ilist (xof (olst (a1 xs (a1 xs (a1 xs a0)))))) (gx 8 sc_law.nd) (b1 (sif (xt (xix (xv 5) xi)) (bc (sset 10 sc_law.nd (xcal rfl C__law_first_wrong hr tk rfl (a1 (xv 3) (a1 (xv 4) (a1 (xv 8) a0)))))
      (b1 (sif (xtnot (xt (xcal rfl C__law_same hr tk rfl (a1 (xcalR rfl R_wrong_at hr tk rfl (k1 (xv 8) (k1 (xv 4) (k1 (xv 3) k0)))) (a1 (xv 10) a0))))) (b1 (sret xb)) b0))) b0)))
      (bc (sif (xtnot (xt (xcal rfl C__law_refusals hr tk rfl (a1 (xv 1) (a1 (xv 3) (a1 (xv 4) a0)))))) (b1 (sret xb)) b0)
      (bc (sset 9 sc_law.nd (xcal rfl C__law_idle hr tk rfl (a1 (xv 1) a0)))
      (bc (sif (xtnot (xt (xcal rfl C__law_same hr tk rfl (a1 (xcalR rfl R_right_idle hr tk rfl (k1 (xv 9) (k1 (xv 4) (k1 (xv 3) k0)))) (a1 (xix (xv 5) xi) a0))))) (b1 (sret xb)) b0)
      (b1 (sret (xcal rfl C__law_same hr tk rfl (a1 (xcal rfl C__law_told hr tk rfl (a1 (xv 3) (a1 (xv 4) (a1 (xnot (xv 6)) a0)))) (a1 (xv 5) a0))))))))))))))))))⟩
end K6
set_option Elab.async false
set_option linter.all false
set_option maxRecDepth 100000
set_option maxHeartbeats 0
namespace K6
open PySem PySem.Spec PyProof.Rows L2 Dl
theorem tabW {fa : List He.Fa} {fn : List He.DefD} {ts : List He.Tab} {w : World} {K : PySem.W.Frag} (c : He.SaysT fa fn ts w K) (i : Nat) {t : He.Tab} (h : ts[i]? = some t) : He.dicW K (t.1 K) = some (He.keysIn w.params t.2) := by
  have e : ts.map (fun t => He.dicW K (t.1 K)) = ts.map fun t => some (He.keysIn w.params t.2) := congrArg (fun z : He.AlT => z.2) c
  have e2 := congrArg (fun l => l[i]?) e
  simpa [List.getElem?_map, h] using e2
theorem jn_of {P : Program} {w : World} {K : PySem.W.Frag} {mg : Str → Option Value} {base : Heap} {cl : Str → Option Value} {aJ f1 f2 f3 : Addr} {fd1 fd2 fd3 : FuncData} (t : ∃ es n, KDict K w aJ es n) (hv : He.valsB K aJ jnT = true)
    (F1 : Fun K "_join_spans" "_join_spans" s__join_spans f1 fd1) (F2 : Fun K "_join_counts" "_join_counts" s__join_counts f2 fd2) (F3 : Fun K "_join_or" "_join_or" s__join_or f3 fd3)
    (C1 : Cal P w K mg base cl 1 "_join_spans" ["_", "one", "other"] f__join_spans) (C2 : Cal P w K mg base cl 1 "_join_counts" ["_", "one", "other"] f__join_counts) (C3 : Cal P w K mg base cl 1 "_join_or" ["_", "one", "other"] f__join_or)
    (m1 : mg "_join_spans" = some (.ref (He.ga K "_join_spans"))) (m2 : mg "_join_counts" = some (.ref (He.ga K "_join_counts"))) (m3 : mg "_join_or" = some (.ref (He.ga K "_join_or"))) (z : Str) (g : Nv → Rs Rv) (h : j_joined z = some g) :
    ∃ a fd ps, KDct K w aJ z (.ref a) ∧ ps.length = 3 ∧ FnOk P w K mg base (L2.CX P w) 1 a fd ps (spM K cl 3 g) ∧ PySem.W.keepIn K (.ref a) = true ∧ Binds K fd ps [] := by
  obtain ⟨es, n, D⟩ := t
  have one : ∀ (x : Str) (ff : Nv → Rs Rv), (z, He.Dv.glo x) ∈ jnT → mg x = some (.ref (He.ga K x)) → Cal P w K mg base cl 1 x ["_", "one", "other"] ff → ∃ a fd ps, KDct K w aJ z (.ref a) ∧ ps.length = 3 ∧ FnOk P w K mg base (L2.CX P w) 1 a fd ps (spM K cl 3 ff) ∧ PySem.W.keepIn K (.ref a) = true ∧ Binds K fd ps [] := fun x ff hm gm C => by
    obtain ⟨a, fd, G1, G2, G3, G4⟩ := C.ex
    rw [gm] at G2
    cases G2
    exact ⟨_, fd, _, kdct_of D hv hm, rfl, G1, G3, G4⟩
  unfold j_joined at h
  split at h
  · rename_i e
    cases h
    exact one "_join_spans" _ (by rw [e]; exact .head _) m1 C1
  · split at h
    · rename_i e
      cases h
      exact one "_join_counts" _ (by rw [e]; exact .tail _ (.head _)) m2 C2
    · split at h
      · rename_i e
        cases h
        exact one "_join_or" _ (by rw [e]; exact .tail _ (.tail _ (.head _))) m3 C3
      · cases h
theorem sc_init : FnScope ["self", "word", "at"] ["self", "word", "at"] (defScope s_init) := ⟨rfl, rfl, rfl, by decide +kernel, rfl, by decide +kernel, by decide +kernel⟩
section
variable {P : Program} {w : World} {K : PySem.W.Frag} {h : Heap} {mg : Str → Option Value}
def cl (K : PySem.W.Frag) (x : Str) : Option Value := if x = "NotUsable" then some (.ref (He.ga K "NotUsable")) else none
theorem facts (X : K.In h) (G : h.Ns mainGlobals mg) (c : He.SaysX fa fn ts [] ex w h K) (base : Heap) (hKb : K.In base) (hNb : base.Ns mainGlobals mg) : CalG P w K mg base (cl K) 11 "law" ["_law_script"] f_law := by
  have exk := c.more
  unfold ex at exk
  simp only [Bool.and_eq_true] at exk
  obtain ⟨⟨⟨e1, e2⟩, e3⟩, e4⟩ := exk
  have t1 := (c.t.tab 0 rfl)
  have t2 := (c.t.tab 1 rfl)
  have w1 : He.dicW K (He.ga K "NUMBERS_BEHIND") = some (He.keysIn w.params (nbT.map (·.1))) := tabW c.t 0 rfl
  have m_is_integer : mg "is_integer" = some (.ref (He.ga K "is_integer")) := He.glo_ok X G (c.t.d.fact 0 (f := .glo "is_integer") rfl)
  have m_is_number : mg "is_number" = some (.ref (He.ga K "is_number")) := He.glo_ok X G (c.t.d.fact 1 (f := .glo "is_number") rfl)
  have m_is_positive : mg "is_positive" = some (.ref (He.ga K "is_positive")) := He.glo_ok X G (c.t.d.fact 2 (f := .glo "is_positive") rfl)
  have m_is_group : mg "is_group" = some (.ref (He.ga K "is_group")) := He.glo_ok X G (c.t.d.fact 3 (f := .glo "is_group") rfl)
  have m_is_stretch : mg "is_stretch" = some (.ref (He.ga K "is_stretch")) := He.glo_ok X G (c.t.d.fact 4 (f := .glo "is_stretch") rfl)
  have m_asks_fault : mg "asks_fault" = some (.ref (He.ga K "asks_fault")) := He.glo_ok X G (c.t.d.fact 5 (f := .glo "asks_fault") rfl)
  have m_is_asks : mg "is_asks" = some (.ref (He.ga K "is_asks")) := He.glo_ok X G (c.t.d.fact 6 (f := .glo "is_asks") rfl)
  have m_need : mg "need" = some (.ref (He.ga K "need")) := He.glo_ok X G (c.t.d.fact 7 (f := .glo "need") rfl)
  have m_span_feed : mg "span_feed" = some (.ref (He.ga K "span_feed")) := He.glo_ok X G (c.t.d.fact 8 (f := .glo "span_feed") rfl)
  have m_count_feed : mg "count_feed" = some (.ref (He.ga K "count_feed")) := He.glo_ok X G (c.t.d.fact 9 (f := .glo "count_feed") rfl)
  have m_bit_feed : mg "bit_feed" = some (.ref (He.ga K "bit_feed")) := He.glo_ok X G (c.t.d.fact 10 (f := .glo "bit_feed") rfl)
  have m_is_operation : mg "is_operation" = some (.ref (He.ga K "is_operation")) := He.glo_ok X G (c.t.d.fact 11 (f := .glo "is_operation") rfl)
  have m__join_sum : mg "_join_sum" = some (.ref (He.ga K "_join_sum")) := He.glo_ok X G (c.t.d.fact 12 (f := .glo "_join_sum") rfl)
  have m__join_product : mg "_join_product" = some (.ref (He.ga K "_join_product")) := He.glo_ok X G (c.t.d.fact 13 (f := .glo "_join_product") rfl)
  have m__join_most : mg "_join_most" = some (.ref (He.ga K "_join_most")) := He.glo_ok X G (c.t.d.fact 14 (f := .glo "_join_most") rfl)
  have m__join_least : mg "_join_least" = some (.ref (He.ga K "_join_least")) := He.glo_ok X G (c.t.d.fact 15 (f := .glo "_join_least") rfl)
  have m__join_first : mg "_join_first" = some (.ref (He.ga K "_join_first")) := He.glo_ok X G (c.t.d.fact 16 (f := .glo "_join_first") rfl)
  have m__join_last : mg "_join_last" = some (.ref (He.ga K "_join_last")) := He.glo_ok X G (c.t.d.fact 17 (f := .glo "_join_last") rfl)
  have m__join_or : mg "_join_or" = some (.ref (He.ga K "_join_or")) := He.glo_ok X G (c.t.d.fact 18 (f := .glo "_join_or") rfl)
  have m__join_maps : mg "_join_maps" = some (.ref (He.ga K "_join_maps")) := He.glo_ok X G (c.t.d.fact 19 (f := .glo "_join_maps") rfl)
  have m__cell : mg "_cell" = some (.ref (He.ga K "_cell")) := He.glo_ok X G (c.t.d.fact 20 (f := .glo "_cell") rfl)
  have m__join_brackets : mg "_join_brackets" = some (.ref (He.ga K "_join_brackets")) := He.glo_ok X G (c.t.d.fact 21 (f := .glo "_join_brackets") rfl)
  have m__join_spans : mg "_join_spans" = some (.ref (He.ga K "_join_spans")) := He.glo_ok X G (c.t.d.fact 22 (f := .glo "_join_spans") rfl)
  have m__join_counts : mg "_join_counts" = some (.ref (He.ga K "_join_counts")) := He.glo_ok X G (c.t.d.fact 23 (f := .glo "_join_counts") rfl)
  have m_joined : mg "joined" = some (.ref (He.ga K "joined")) := He.glo_ok X G (c.t.d.fact 24 (f := .glo "joined") rfl)
  have m_idle_pair : mg "idle_pair" = some (.ref (He.ga K "idle_pair")) := He.glo_ok X G (c.t.d.fact 25 (f := .glo "idle_pair") rfl)
  have m__idle_maps : mg "_idle_maps" = some (.ref (He.ga K "_idle_maps")) := He.glo_ok X G (c.t.d.fact 26 (f := .glo "_idle_maps") rfl)
  have m__idle_grids : mg "_idle_grids" = some (.ref (He.ga K "_idle_grids")) := He.glo_ok X G (c.t.d.fact 27 (f := .glo "_idle_grids") rfl)
  have m_folded : mg "folded" = some (.ref (He.ga K "folded")) := He.glo_ok X G (c.t.d.fact 28 (f := .glo "folded") rfl)
  have m_is_plan : mg "is_plan" = some (.ref (He.ga K "is_plan")) := He.glo_ok X G (c.t.d.fact 29 (f := .glo "is_plan") rfl)
  have m_plan_fault : mg "plan_fault" = some (.ref (He.ga K "plan_fault")) := He.glo_ok X G (c.t.d.fact 30 (f := .glo "plan_fault") rfl)
  have m__is_join : mg "_is_join" = some (.ref (He.ga K "_is_join")) := He.glo_ok X G (c.t.d.fact 31 (f := .glo "_is_join") rfl)
  have m__is_name : mg "_is_name" = some (.ref (He.ga K "_is_name")) := He.glo_ok X G (c.t.d.fact 32 (f := .glo "_is_name") rfl)
  have m_values_of_names : mg "values_of_names" = some (.ref (He.ga K "values_of_names")) := He.glo_ok X G (c.t.d.fact 33 (f := .glo "values_of_names") rfl)
  have m_suits : mg "suits" = some (.ref (He.ga K "suits")) := He.glo_ok X G (c.t.d.fact 34 (f := .glo "suits") rfl)
  have m_right_all : mg "right_all" = some (.ref (He.ga K "right_all")) := He.glo_ok X G (c.t.d.fact 35 (f := .glo "right_all") rfl)
  have m_right_commuting : mg "right_commuting" = some (.ref (He.ga K "right_commuting")) := He.glo_ok X G (c.t.d.fact 36 (f := .glo "right_commuting") rfl)
  have m_right_same : mg "right_same" = some (.ref (He.ga K "right_same")) := He.glo_ok X G (c.t.d.fact 37 (f := .glo "right_same") rfl)
  have m_grade_of : mg "grade_of" = some (.ref (He.ga K "grade_of")) := He.glo_ok X G (c.t.d.fact 38 (f := .glo "grade_of") rfl)
  have m_right_idle : mg "right_idle" = some (.ref (He.ga K "right_idle")) := He.glo_ok X G (c.t.d.fact 39 (f := .glo "right_idle") rfl)
  have m_suits_asks : mg "suits_asks" = some (.ref (He.ga K "suits_asks")) := He.glo_ok X G (c.t.d.fact 40 (f := .glo "suits_asks") rfl)
  have m_proof_of : mg "proof_of" = some (.ref (He.ga K "proof_of")) := He.glo_ok X G (c.t.d.fact 41 (f := .glo "proof_of") rfl)
  have m_first_wrong : mg "first_wrong" = some (.ref (He.ga K "first_wrong")) := He.glo_ok X G (c.t.d.fact 42 (f := .glo "first_wrong") rfl)
  have m__need_both : mg "_need_both" = some (.ref (He.ga K "_need_both")) := He.glo_ok X G (c.t.d.fact 43 (f := .glo "_need_both") rfl)
  have m__is_right : mg "_is_right" = some (.ref (He.ga K "_is_right")) := He.glo_ok X G (c.t.d.fact 44 (f := .glo "_is_right") rfl)
  have m_wrong_at : mg "wrong_at" = some (.ref (He.ga K "wrong_at")) := He.glo_ok X G (c.t.d.fact 45 (f := .glo "wrong_at") rfl)
  have m__need_suiting : mg "_need_suiting" = some (.ref (He.ga K "_need_suiting")) := He.glo_ok X G (c.t.d.fact 46 (f := .glo "_need_suiting") rfl)
  have m__law_start : mg "_law_start" = some (.ref (He.ga K "_law_start")) := He.glo_ok X G (c.t.d.fact 47 (f := .glo "_law_start") rfl)
  have m__law_draw : mg "_law_draw" = some (.ref (He.ga K "_law_draw")) := He.glo_ok X G (c.t.d.fact 48 (f := .glo "_law_draw") rfl)
  have m__law_same : mg "_law_same" = some (.ref (He.ga K "_law_same")) := He.glo_ok X G (c.t.d.fact 49 (f := .glo "_law_same") rfl)
  have m__law_asks : mg "_law_asks" = some (.ref (He.ga K "_law_asks")) := He.glo_ok X G (c.t.d.fact 50 (f := .glo "_law_asks") rfl)
  have m__law_flawed : mg "_law_flawed" = some (.ref (He.ga K "_law_flawed")) := He.glo_ok X G (c.t.d.fact 51 (f := .glo "_law_flawed") rfl)
  have m__law_plan : mg "_law_plan" = some (.ref (He.ga K "_law_plan")) := He.glo_ok X G (c.t.d.fact 52 (f := .glo "_law_plan") rfl)
  have m__law_scene : mg "_law_scene" = some (.ref (He.ga K "_law_scene")) := He.glo_ok X G (c.t.d.fact 53 (f := .glo "_law_scene") rfl)
  have m__law_words : mg "_law_words" = some (.ref (He.ga K "_law_words")) := He.glo_ok X G (c.t.d.fact 54 (f := .glo "_law_words") rfl)
  have m__law_suits : mg "_law_suits" = some (.ref (He.ga K "_law_suits")) := He.glo_ok X G (c.t.d.fact 55 (f := .glo "_law_suits") rfl)
  have m__law_first_wrong : mg "_law_first_wrong" = some (.ref (He.ga K "_law_first_wrong")) := He.glo_ok X G (c.t.d.fact 56 (f := .glo "_law_first_wrong") rfl)
  have m__law_dues : mg "_law_dues" = some (.ref (He.ga K "_law_dues")) := He.glo_ok X G (c.t.d.fact 57 (f := .glo "_law_dues") rfl)
  have m__law_told : mg "_law_told" = some (.ref (He.ga K "_law_told")) := He.glo_ok X G (c.t.d.fact 58 (f := .glo "_law_told") rfl)
  have m__law_idle : mg "_law_idle" = some (.ref (He.ga K "_law_idle")) := He.glo_ok X G (c.t.d.fact 59 (f := .glo "_law_idle") rfl)
  have m__law_no_idle : mg "_law_no_idle" = some (.ref (He.ga K "_law_no_idle")) := He.glo_ok X G (c.t.d.fact 60 (f := .glo "_law_no_idle") rfl)
  have m__law_bad_plan : mg "_law_bad_plan" = some (.ref (He.ga K "_law_bad_plan")) := He.glo_ok X G (c.t.d.fact 61 (f := .glo "_law_bad_plan") rfl)
  have m__law_bad_row : mg "_law_bad_row" = some (.ref (He.ga K "_law_bad_row")) := He.glo_ok X G (c.t.d.fact 62 (f := .glo "_law_bad_row") rfl)
  have m__law_refused : mg "_law_refused" = some (.ref (He.ga K "_law_refused")) := He.glo_ok X G (c.t.d.fact 63 (f := .glo "_law_refused") rfl)
  have m__law_refusals : mg "_law_refusals" = some (.ref (He.ga K "_law_refusals")) := He.glo_ok X G (c.t.d.fact 64 (f := .glo "_law_refusals") rfl)
  have m_law : mg "law" = some (.ref (He.ga K "law")) := He.glo_ok X G (c.t.d.fact 65 (f := .glo "law") rfl)
  have m_NotUsable : mg "NotUsable" = some (.ref (He.ga K "NotUsable")) := He.glo_ok X G (c.t.d.fact 66 (f := .glo "NotUsable") rfl)
  have m_GRADES : mg "GRADES" = some (.ref (He.ga K "GRADES")) := He.glo_ok X G (c.t.d.fact 67 (f := .glo "GRADES") rfl)
  have m_NUMBERS_BEHIND : mg "NUMBERS_BEHIND" = some (.ref (He.ga K "NUMBERS_BEHIND")) := He.glo_ok X G (c.t.d.fact 68 (f := .glo "NUMBERS_BEHIND") rfl)
  have m_JOINING : mg "JOINING" = some (.ref (He.ga K "JOINING")) := He.glo_ok X G (c.t.d.fact 69 (f := .glo "JOINING") rfl)
  have bx : Tx mg := ⟨He.free_ok X G (c.t.d.fact 70 (f := .free "isinstance") rfl), He.free_ok X G (c.t.d.fact 71 (f := .free "int") rfl), He.free_ok X G (c.t.d.fact 72 (f := .free "bool") rfl), He.free_ok X G (c.t.d.fact 73 (f := .free "str") rfl), He.free_ok X G (c.t.d.fact 74 (f := .free "tuple") rfl), He.free_ok X G (c.t.d.fact 75 (f := .free "list") rfl), He.free_ok X G (c.t.d.fact 76 (f := .free "len") rfl), He.free_ok X G (c.t.d.fact 77 (f := .free "range") rfl), He.free_ok X G (c.t.d.fact 78 (f := .free "enumerate") rfl), He.free_ok X G (c.t.d.fact 79 (f := .free "zip") rfl), He.free_ok X G (c.t.d.fact 80 (f := .free "all") rfl), He.free_ok X G (c.t.d.fact 81 (f := .free "any") rfl), He.free_ok X G (c.t.d.fact 82 (f := .free "sum") rfl), He.free_ok X G (c.t.d.fact 83 (f := .free "max") rfl), He.free_ok X G (c.t.d.fact 84 (f := .free "min") rfl), He.free_ok X G (c.t.d.fact 85 (f := .free "sorted") rfl), He.free_ok X G (c.t.d.fact 86 (f := .free "set") rfl)⟩
  obtain ⟨fd_init, H_init⟩ := c.t.d.def_ 0 (d := d_init) rfl
  obtain ⟨fd_is_integer, H_is_integer⟩ := c.t.d.def_ 1 (d := d_is_integer) rfl
  have F_is_integer : Fun K "is_integer" "is_integer" s_is_integer (He.ga K "is_integer") fd_is_integer := fun_of H_is_integer
  obtain ⟨fd_is_number, H_is_number⟩ := c.t.d.def_ 2 (d := d_is_number) rfl
  have F_is_number : Fun K "is_number" "is_number" s_is_number (He.ga K "is_number") fd_is_number := fun_of H_is_number
  obtain ⟨fd_is_positive, H_is_positive⟩ := c.t.d.def_ 3 (d := d_is_positive) rfl
  have F_is_positive : Fun K "is_positive" "is_positive" s_is_positive (He.ga K "is_positive") fd_is_positive := fun_of H_is_positive
  obtain ⟨fd_is_group, H_is_group⟩ := c.t.d.def_ 4 (d := d_is_group) rfl
  have F_is_group : Fun K "is_group" "is_group" s_is_group (He.ga K "is_group") fd_is_group := fun_of H_is_group
  obtain ⟨fd_is_stretch, H_is_stretch⟩ := c.t.d.def_ 5 (d := d_is_stretch) rfl
  have F_is_stretch : Fun K "is_stretch" "is_stretch" s_is_stretch (He.ga K "is_stretch") fd_is_stretch := fun_of H_is_stretch
  obtain ⟨fd_asks_fault, H_asks_fault⟩ := c.t.d.def_ 6 (d := d_asks_fault) rfl
  have F_asks_fault : Fun K "asks_fault" "asks_fault" s_asks_fault (He.ga K "asks_fault") fd_asks_fault := fun_of H_asks_fault
  obtain ⟨fd_is_asks, H_is_asks⟩ := c.t.d.def_ 7 (d := d_is_asks) rfl
  have F_is_asks : Fun K "is_asks" "is_asks" s_is_asks (He.ga K "is_asks") fd_is_asks := fun_of H_is_asks
  obtain ⟨fd_need, H_need⟩ := c.t.d.def_ 8 (d := d_need) rfl
  have F_need : Fun K "need" "need" s_need (He.ga K "need") fd_need := fun_of H_need
  obtain ⟨fd_span_feed, H_span_feed⟩ := c.t.d.def_ 9 (d := d_span_feed) rfl
  have F_span_feed : Fun K "span_feed" "span_feed" s_span_feed (He.ga K "span_feed") fd_span_feed := fun_of H_span_feed
  obtain ⟨fd_count_feed, H_count_feed⟩ := c.t.d.def_ 10 (d := d_count_feed) rfl
  have F_count_feed : Fun K "count_feed" "count_feed" s_count_feed (He.ga K "count_feed") fd_count_feed := fun_of H_count_feed
  obtain ⟨fd_bit_feed, H_bit_feed⟩ := c.t.d.def_ 11 (d := d_bit_feed) rfl
  have F_bit_feed : Fun K "bit_feed" "bit_feed" s_bit_feed (He.ga K "bit_feed") fd_bit_feed := fun_of H_bit_feed
  obtain ⟨fd_is_operation, H_is_operation⟩ := c.t.d.def_ 12 (d := d_is_operation) rfl
  have F_is_operation : Fun K "is_operation" "is_operation" s_is_operation (He.ga K "is_operation") fd_is_operation := fun_of H_is_operation
  obtain ⟨fd__join_sum, H__join_sum⟩ := c.t.d.def_ 13 (d := d__join_sum) rfl
  have F__join_sum : Fun K "_join_sum" "_join_sum" s__join_sum (He.ga K "_join_sum") fd__join_sum := fun_of H__join_sum
  obtain ⟨fd__join_product, H__join_product⟩ := c.t.d.def_ 14 (d := d__join_product) rfl
  have F__join_product : Fun K "_join_product" "_join_product" s__join_product (He.ga K "_join_product") fd__join_product := fun_of H__join_product
  obtain ⟨fd__join_most, H__join_most⟩ := c.t.d.def_ 15 (d := d__join_most) rfl
  have F__join_most : Fun K "_join_most" "_join_most" s__join_most (He.ga K "_join_most") fd__join_most := fun_of H__join_most
  obtain ⟨fd__join_least, H__join_least⟩ := c.t.d.def_ 16 (d := d__join_least) rfl
  have F__join_least : Fun K "_join_least" "_join_least" s__join_least (He.ga K "_join_least") fd__join_least := fun_of H__join_least
  obtain ⟨fd__join_first, H__join_first⟩ := c.t.d.def_ 17 (d := d__join_first) rfl
  have F__join_first : Fun K "_join_first" "_join_first" s__join_first (He.ga K "_join_first") fd__join_first := fun_of H__join_first
  obtain ⟨fd__join_last, H__join_last⟩ := c.t.d.def_ 18 (d := d__join_last) rfl
  have F__join_last : Fun K "_join_last" "_join_last" s__join_last (He.ga K "_join_last") fd__join_last := fun_of H__join_last
  obtain ⟨fd__join_or, H__join_or⟩ := c.t.d.def_ 19 (d := d__join_or) rfl
  have F__join_or : Fun K "_join_or" "_join_or" s__join_or (He.ga K "_join_or") fd__join_or := fun_of H__join_or
  obtain ⟨fd__join_maps, H__join_maps⟩ := c.t.d.def_ 20 (d := d__join_maps) rfl
  have F__join_maps : Fun K "_join_maps" "_join_maps" s__join_maps (He.ga K "_join_maps") fd__join_maps := fun_of H__join_maps
  obtain ⟨fd__cell, H__cell⟩ := c.t.d.def_ 21 (d := d__cell) rfl
  have F__cell : Fun K "_cell" "_cell" s__cell (He.ga K "_cell") fd__cell := fun_of H__cell
  obtain ⟨fd__join_brackets, H__join_brackets⟩ := c.t.d.def_ 22 (d := d__join_brackets) rfl
  have F__join_brackets : Fun K "_join_brackets" "_join_brackets" s__join_brackets (He.ga K "_join_brackets") fd__join_brackets := fun_of H__join_brackets
  obtain ⟨fd__join_spans, H__join_spans⟩ := c.t.d.def_ 23 (d := d__join_spans) rfl
  have F__join_spans : Fun K "_join_spans" "_join_spans" s__join_spans (He.ga K "_join_spans") fd__join_spans := fun_of H__join_spans
  obtain ⟨fd__join_counts, H__join_counts⟩ := c.t.d.def_ 24 (d := d__join_counts) rfl
  have F__join_counts : Fun K "_join_counts" "_join_counts" s__join_counts (He.ga K "_join_counts") fd__join_counts := fun_of H__join_counts
  obtain ⟨fd_joined, H_joined⟩ := c.t.d.def_ 25 (d := d_joined) rfl
  have F_joined : Fun K "joined" "joined" s_joined (He.ga K "joined") fd_joined := fun_of H_joined
  obtain ⟨fd_idle_pair, H_idle_pair⟩ := c.t.d.def_ 26 (d := d_idle_pair) rfl
  have F_idle_pair : Fun K "idle_pair" "idle_pair" s_idle_pair (He.ga K "idle_pair") fd_idle_pair := fun_of H_idle_pair
  obtain ⟨fd__idle_maps, H__idle_maps⟩ := c.t.d.def_ 27 (d := d__idle_maps) rfl
  have F__idle_maps : Fun K "_idle_maps" "_idle_maps" s__idle_maps (He.ga K "_idle_maps") fd__idle_maps := fun_of H__idle_maps
  obtain ⟨fd__idle_grids, H__idle_grids⟩ := c.t.d.def_ 28 (d := d__idle_grids) rfl
  have F__idle_grids : Fun K "_idle_grids" "_idle_grids" s__idle_grids (He.ga K "_idle_grids") fd__idle_grids := fun_of H__idle_grids
  obtain ⟨fd_folded, H_folded⟩ := c.t.d.def_ 29 (d := d_folded) rfl
  have F_folded : Fun K "folded" "folded" s_folded (He.ga K "folded") fd_folded := fun_of H_folded
  obtain ⟨fd_is_plan, H_is_plan⟩ := c.t.d.def_ 30 (d := d_is_plan) rfl
  have F_is_plan : Fun K "is_plan" "is_plan" s_is_plan (He.ga K "is_plan") fd_is_plan := fun_of H_is_plan
  obtain ⟨fd_plan_fault, H_plan_fault⟩ := c.t.d.def_ 31 (d := d_plan_fault) rfl
  have F_plan_fault : Fun K "plan_fault" "plan_fault" s_plan_fault (He.ga K "plan_fault") fd_plan_fault := fun_of H_plan_fault
  obtain ⟨fd__is_join, H__is_join⟩ := c.t.d.def_ 32 (d := d__is_join) rfl
  have F__is_join : Fun K "_is_join" "_is_join" s__is_join (He.ga K "_is_join") fd__is_join := fun_of H__is_join
  obtain ⟨fd__is_name, H__is_name⟩ := c.t.d.def_ 33 (d := d__is_name) rfl
  have F__is_name : Fun K "_is_name" "_is_name" s__is_name (He.ga K "_is_name") fd__is_name := fun_of H__is_name
  obtain ⟨fd_values_of_names, H_values_of_names⟩ := c.t.d.def_ 34 (d := d_values_of_names) rfl
  have F_values_of_names : Fun K "values_of_names" "values_of_names" s_values_of_names (He.ga K "values_of_names") fd_values_of_names := fun_of H_values_of_names
  obtain ⟨fd_suits, H_suits⟩ := c.t.d.def_ 35 (d := d_suits) rfl
  have F_suits : Fun K "suits" "suits" s_suits (He.ga K "suits") fd_suits := fun_of H_suits
  obtain ⟨fd_right_all, H_right_all⟩ := c.t.d.def_ 36 (d := d_right_all) rfl
  have F_right_all : Fun K "right_all" "right_all" s_right_all (He.ga K "right_all") fd_right_all := fun_of H_right_all
  obtain ⟨fd_right_commuting, H_right_commuting⟩ := c.t.d.def_ 37 (d := d_right_commuting) rfl
  have F_right_commuting : Fun K "right_commuting" "right_commuting" s_right_commuting (He.ga K "right_commuting") fd_right_commuting := fun_of H_right_commuting
  obtain ⟨fd_right_same, H_right_same⟩ := c.t.d.def_ 38 (d := d_right_same) rfl
  have F_right_same : Fun K "right_same" "right_same" s_right_same (He.ga K "right_same") fd_right_same := fun_of H_right_same
  obtain ⟨fd_grade_of, H_grade_of⟩ := c.t.d.def_ 39 (d := d_grade_of) rfl
  have F_grade_of : Fun K "grade_of" "grade_of" s_grade_of (He.ga K "grade_of") fd_grade_of := fun_of H_grade_of
  obtain ⟨fd_right_idle, H_right_idle⟩ := c.t.d.def_ 40 (d := d_right_idle) rfl
  have F_right_idle : Fun K "right_idle" "right_idle" s_right_idle (He.ga K "right_idle") fd_right_idle := fun_of H_right_idle
  obtain ⟨fd_suits_asks, H_suits_asks⟩ := c.t.d.def_ 41 (d := d_suits_asks) rfl
  have F_suits_asks : Fun K "suits_asks" "suits_asks" s_suits_asks (He.ga K "suits_asks") fd_suits_asks := fun_of H_suits_asks
  obtain ⟨fd_proof_of, H_proof_of⟩ := c.t.d.def_ 42 (d := d_proof_of) rfl
  have F_proof_of : Fun K "proof_of" "proof_of" s_proof_of (He.ga K "proof_of") fd_proof_of := fun_of H_proof_of
  obtain ⟨fd_first_wrong, H_first_wrong⟩ := c.t.d.def_ 43 (d := d_first_wrong) rfl
  have F_first_wrong : Fun K "first_wrong" "first_wrong" s_first_wrong (He.ga K "first_wrong") fd_first_wrong := fun_of H_first_wrong
  obtain ⟨fd__need_both, H__need_both⟩ := c.t.d.def_ 44 (d := d__need_both) rfl
  have F__need_both : Fun K "_need_both" "_need_both" s__need_both (He.ga K "_need_both") fd__need_both := fun_of H__need_both
  obtain ⟨fd__is_right, H__is_right⟩ := c.t.d.def_ 45 (d := d__is_right) rfl
  have F__is_right : Fun K "_is_right" "_is_right" s__is_right (He.ga K "_is_right") fd__is_right := fun_of H__is_right
  obtain ⟨fd_wrong_at, H_wrong_at⟩ := c.t.d.def_ 46 (d := d_wrong_at) rfl
  have F_wrong_at : Fun K "wrong_at" "wrong_at" s_wrong_at (He.ga K "wrong_at") fd_wrong_at := fun_of H_wrong_at
  obtain ⟨fd__need_suiting, H__need_suiting⟩ := c.t.d.def_ 47 (d := d__need_suiting) rfl
  have F__need_suiting : Fun K "_need_suiting" "_need_suiting" s__need_suiting (He.ga K "_need_suiting") fd__need_suiting := fun_of H__need_suiting
  obtain ⟨fd__law_start, H__law_start⟩ := c.t.d.def_ 48 (d := d__law_start) rfl
  have F__law_start : Fun K "_law_start" "_law_start" s__law_start (He.ga K "_law_start") fd__law_start := fun_of H__law_start
  obtain ⟨fd__law_draw, H__law_draw⟩ := c.t.d.def_ 49 (d := d__law_draw) rfl
  have F__law_draw : Fun K "_law_draw" "_law_draw" s__law_draw (He.ga K "_law_draw") fd__law_draw := fun_of H__law_draw
  obtain ⟨fd__law_same, H__law_same⟩ := c.t.d.def_ 50 (d := d__law_same) rfl
  have F__law_same : Fun K "_law_same" "_law_same" s__law_same (He.ga K "_law_same") fd__law_same := fun_of H__law_same
  obtain ⟨fd__law_asks, H__law_asks⟩ := c.t.d.def_ 51 (d := d__law_asks) rfl
  have F__law_asks : Fun K "_law_asks" "_law_asks" s__law_asks (He.ga K "_law_asks") fd__law_asks := fun_of H__law_asks
  obtain ⟨fd__law_flawed, H__law_flawed⟩ := c.t.d.def_ 52 (d := d__law_flawed) rfl
  have F__law_flawed : Fun K "_law_flawed" "_law_flawed" s__law_flawed (He.ga K "_law_flawed") fd__law_flawed := fun_of H__law_flawed
  obtain ⟨fd__law_plan, H__law_plan⟩ := c.t.d.def_ 53 (d := d__law_plan) rfl
  have F__law_plan : Fun K "_law_plan" "_law_plan" s__law_plan (He.ga K "_law_plan") fd__law_plan := fun_of H__law_plan
  obtain ⟨fd__law_scene, H__law_scene⟩ := c.t.d.def_ 54 (d := d__law_scene) rfl
  have F__law_scene : Fun K "_law_scene" "_law_scene" s__law_scene (He.ga K "_law_scene") fd__law_scene := fun_of H__law_scene
  obtain ⟨fd__law_words, H__law_words⟩ := c.t.d.def_ 55 (d := d__law_words) rfl
  have F__law_words : Fun K "_law_words" "_law_words" s__law_words (He.ga K "_law_words") fd__law_words := fun_of H__law_words
  obtain ⟨fd__law_suits, H__law_suits⟩ := c.t.d.def_ 56 (d := d__law_suits) rfl
  have F__law_suits : Fun K "_law_suits" "_law_suits" s__law_suits (He.ga K "_law_suits") fd__law_suits := fun_of H__law_suits
  obtain ⟨fd__law_first_wrong, H__law_first_wrong⟩ := c.t.d.def_ 57 (d := d__law_first_wrong) rfl
  have F__law_first_wrong : Fun K "_law_first_wrong" "_law_first_wrong" s__law_first_wrong (He.ga K "_law_first_wrong") fd__law_first_wrong := fun_of H__law_first_wrong
  obtain ⟨fd__law_dues, H__law_dues⟩ := c.t.d.def_ 58 (d := d__law_dues) rfl
  have F__law_dues : Fun K "_law_dues" "_law_dues" s__law_dues (He.ga K "_law_dues") fd__law_dues := fun_of H__law_dues
  obtain ⟨fd__law_told, H__law_told⟩ := c.t.d.def_ 59 (d := d__law_told) rfl
  have F__law_told : Fun K "_law_told" "_law_told" s__law_told (He.ga K "_law_told") fd__law_told := fun_of H__law_told
  obtain ⟨fd__law_idle, H__law_idle⟩ := c.t.d.def_ 60 (d := d__law_idle) rfl
  have F__law_idle : Fun K "_law_idle" "_law_idle" s__law_idle (He.ga K "_law_idle") fd__law_idle := fun_of H__law_idle
  obtain ⟨fd__law_no_idle, H__law_no_idle⟩ := c.t.d.def_ 61 (d := d__law_no_idle) rfl
  have F__law_no_idle : Fun K "_law_no_idle" "_law_no_idle" s__law_no_idle (He.ga K "_law_no_idle") fd__law_no_idle := fun_of H__law_no_idle
  obtain ⟨fd__law_bad_plan, H__law_bad_plan⟩ := c.t.d.def_ 62 (d := d__law_bad_plan) rfl
  have F__law_bad_plan : Fun K "_law_bad_plan" "_law_bad_plan" s__law_bad_plan (He.ga K "_law_bad_plan") fd__law_bad_plan := fun_of H__law_bad_plan
  obtain ⟨fd__law_bad_row, H__law_bad_row⟩ := c.t.d.def_ 63 (d := d__law_bad_row) rfl
  have F__law_bad_row : Fun K "_law_bad_row" "_law_bad_row" s__law_bad_row (He.ga K "_law_bad_row") fd__law_bad_row := fun_of H__law_bad_row
  obtain ⟨fd__law_refused, H__law_refused⟩ := c.t.d.def_ 64 (d := d__law_refused) rfl
  have F__law_refused : Fun K "_law_refused" "_law_refused" s__law_refused (He.ga K "_law_refused") fd__law_refused := fun_of H__law_refused
  obtain ⟨fd__law_refusals, H__law_refusals⟩ := c.t.d.def_ 65 (d := d__law_refusals) rfl
  have F__law_refusals : Fun K "_law_refusals" "_law_refusals" s__law_refusals (He.ga K "_law_refusals") fd__law_refusals := fun_of H__law_refusals
  obtain ⟨fd_law, H_law⟩ := c.t.d.def_ 66 (d := d_law) rfl
  have F_law : Fun K "law" "law" s_law (He.ga K "law") fd_law := fun_of H_law
  have F_init : Fun K "__init__" "NotUsable.__init__" s_init (He.ma K (He.ga K "NotUsable") "__init__") fd_init := fun_of H_init
  have I1 := ok_init2 (P := P) (w := w) (mg := mg) (base := base) (ff := "word") (g := "at") (s := "self") (a := "word") (b := "at") F_init sc_init rfl (by decide +kernel) (by decide +kernel)
  have I2 : Binds K fd_init ["self", "word", "at"] [] := F_init.binds fun _ _ _ _ _ _ us hl => match us, hl with | [_, _, _], _ => rfl
  have T : Txt P w K mg base (cl K) := ⟨bx, He.ga K "GRADES", m_GRADES, fun H A => tupS_of (zs := grZ) e3 H A, He.ga K "NUMBERS_BEHIND", m_NUMBERS_BEHIND, dtab_of (ts := nbT) w1 e1, exT_of e4 m_NotUsable I1 I2, if_pos rfl⟩
  have C_is_integer := ok_is_integer F_is_integer m_is_integer T 
  have C_is_group := ok_is_group F_is_group m_is_group T 
  have C__join_sum := ok__join_sum F__join_sum m__join_sum T 
  have C__join_product := ok__join_product F__join_product m__join_product T 
  have C__join_most := ok__join_most F__join_most m__join_most T 
  have C__join_least := ok__join_least F__join_least m__join_least T 
  have C__join_first := ok__join_first F__join_first m__join_first T 
  have C__join_last := ok__join_last F__join_last m__join_last T 
  have C__join_or := ok__join_or F__join_or m__join_or T 
  have C__join_maps := ok__join_maps F__join_maps m__join_maps T 
  have C__cell := ok__cell F__cell m__cell T 
  have C__join_brackets := ok__join_brackets F__join_brackets m__join_brackets T 
  have C__join_spans := ok__join_spans F__join_spans m__join_spans T 
  have C__join_counts := ok__join_counts F__join_counts m__join_counts T 
  have J : JnT P w K mg base (cl K) := ⟨He.ga K "JOINING", m_JOINING, jn_of t2 e2 (F__join_spans) (F__join_counts) (F__join_or) C__join_spans C__join_counts C__join_or m__join_spans m__join_counts m__join_or⟩
  have C_joined := ok_joined F_joined m_joined J
  have C__idle_maps := ok__idle_maps F__idle_maps m__idle_maps T 
  have C__idle_grids := ok__idle_grids F__idle_grids m__idle_grids T 
  have C_suits_asks := ok_suits_asks F_suits_asks m_suits_asks T 
  have C__law_start := ok__law_start F__law_start m__law_start T 
  have C__law_draw := ok__law_draw F__law_draw m__law_draw T 
  have C__law_words := ok__law_words F__law_words m__law_words T 
  have C__law_suits := ok__law_suits F__law_suits m__law_suits T 
  have C_is_number := ok_is_number F_is_number m_is_number T C_is_integer
  have C_is_positive := ok_is_positive F_is_positive m_is_positive T C_is_integer
  have C__law_asks := ok__law_asks F__law_asks m__law_asks T C__law_draw
  have C__law_flawed := ok__law_flawed F__law_flawed m__law_flawed T C__law_draw
  have C__law_first_wrong := ok__law_first_wrong F__law_first_wrong m__law_first_wrong T C__law_words
  have C__law_idle := ok__law_idle F__law_idle m__law_idle T C__law_draw
  have C__law_no_idle := ok__law_no_idle F__law_no_idle m__law_no_idle T C__law_draw
  have C__law_bad_plan := ok__law_bad_plan F__law_bad_plan m__law_bad_plan T C__law_draw
  have C__law_bad_row := ok__law_bad_row F__law_bad_row m__law_bad_row T C__law_draw
  have C_is_stretch := ok_is_stretch F_is_stretch m_is_stretch T C_is_group C_is_number
  have C_need := ok_need F_need m_need T 
  have C_is_operation := ok_is_operation F_is_operation m_is_operation T C_is_positive
  have C_folded := ok_folded F_folded m_folded T C_joined
  have C__is_name := ok__is_name F__is_name m__is_name T C_is_number
  have C_values_of_names := ok_values_of_names F_values_of_names m_values_of_names T C_joined
  have C__law_plan := ok__law_plan F__law_plan m__law_plan T C__law_draw C__law_flawed
  have C__law_dues := ok__law_dues F__law_dues m__law_dues T C__law_suits C__law_first_wrong
  have C_asks_fault := ok_asks_fault F_asks_fault m_asks_fault T C_is_stretch
  have C_span_feed := ok_span_feed F_span_feed m_span_feed T C_need C_is_positive
  have C_count_feed := ok_count_feed F_count_feed m_count_feed T C_need C_is_positive
  have C_bit_feed := ok_bit_feed F_bit_feed m_bit_feed T C_need C_is_positive
  have C_idle_pair := ok_idle_pair F_idle_pair m_idle_pair T C_need C_is_operation C__idle_maps C__idle_grids
  have C__is_join := ok__is_join F__is_join m__is_join T C_is_group C__is_name
  have C__law_same := ok__law_same F__law_same m__law_same T
  have C__law_scene := ok__law_scene F__law_scene m__law_scene T C__law_draw C__law_asks C__law_plan
  have C_is_asks := ok_is_asks F_is_asks m_is_asks T C_asks_fault
  have C_plan_fault := ok_plan_fault F_plan_fault m_plan_fault T C_is_group C_is_positive C__is_join C__is_name
  have C_proof_of := ok_proof_of F_proof_of m_proof_of T C_bit_feed C_span_feed C_count_feed
  have C_is_plan := ok_is_plan F_is_plan m_is_plan T C_plan_fault
  have C_first_wrong := ok_first_wrong F_first_wrong m_first_wrong T C_proof_of C_values_of_names C_folded
  have C__need_both := ok__need_both F__need_both m__need_both T C_need C_is_plan C_is_asks
  have C__is_right := ok__is_right F__is_right m__is_right T C_suits_asks C_first_wrong
  have C__need_suiting := ok__need_suiting F__need_suiting m__need_suiting T C_need C_is_plan C_is_asks C_suits_asks
  have C_suits := ok_suits F_suits m_suits T C__need_both C_suits_asks
  have R_suits := Cal.kw (ks := ["asks", "plan"]) C_suits F_suits m_suits (by decide) (fun _ _ _ _ _ _ ws hl => match ws, hl with | [_, _], _ => rfl)
  have C_right_all := ok_right_all F_right_all m_right_all T C__need_both C__is_right
  have R_right_all := Cal.kw (ks := ["asks", "plan"]) C_right_all F_right_all m_right_all (by decide) (fun _ _ _ _ _ _ ws hl => match ws, hl with | [_, _], _ => rfl)
  have C_right_commuting := ok_right_commuting F_right_commuting m_right_commuting T C__need_both C__is_right
  have R_right_commuting := Cal.kw (ks := ["asks", "plan"]) C_right_commuting F_right_commuting m_right_commuting (by decide) (fun _ _ _ _ _ _ ws hl => match ws, hl with | [_, _], _ => rfl)
  have C_right_same := ok_right_same F_right_same m_right_same T C__need_both C__is_right
  have R_right_same := Cal.kw (ks := ["asks", "plan"]) C_right_same F_right_same m_right_same (by decide) (fun _ _ _ _ _ _ ws hl => match ws, hl with | [_, _], _ => rfl)
  have C_grade_of := ok_grade_of F_grade_of m_grade_of T C__need_both C__is_right
  have R_grade_of := Cal.kw (ks := ["asks", "plan"]) C_grade_of F_grade_of m_grade_of (by decide) (fun _ _ _ _ _ _ ws hl => match ws, hl with | [_, _], _ => rfl)
  have C_right_idle := ok_right_idle F_right_idle m_right_idle T C__need_both C_need C__is_right C_is_operation C_idle_pair
  have R_right_idle := Cal.kw (ks := ["operation", "asks", "plan"]) C_right_idle F_right_idle m_right_idle (by decide) (fun _ _ _ _ _ _ ws hl => match ws, hl with | [_, _, _], _ => rfl)
  have C_wrong_at := ok_wrong_at F_wrong_at m_wrong_at T C__need_suiting C_need C_first_wrong
  have R_wrong_at := Cal.kw (ks := ["grade", "asks", "plan"]) C_wrong_at F_wrong_at m_wrong_at (by decide) (fun _ _ _ _ _ _ ws hl => match ws, hl with | [_, _, _], _ => rfl)
  have C__law_told := ok__law_told F__law_told m__law_told T C_suits C_right_all C_right_commuting C_right_same C_grade_of R_suits R_right_all R_right_commuting R_right_same R_grade_of
  have C__law_refused := ok__law_refused F__law_refused m__law_refused T C_suits C_right_all C_right_commuting C_right_same C_grade_of C_right_idle C_wrong_at
  have C__law_refusals := ok__law_refusals F__law_refusals m__law_refusals T C__law_bad_plan C__law_bad_row C__law_no_idle C__law_same C__law_draw C__law_suits C__law_refused
  have C_law := ok_law F_law m_law T C__law_start C__law_scene C__law_dues C__law_idle C__law_same C__law_draw C__law_refusals C__law_told C_right_idle C__law_first_wrong R_right_idle R_wrong_at
  exact C_law
end
end K6
set_option Elab.async false
set_option linter.all false
set_option maxRecDepth 100000
set_option maxHeartbeats 0
namespace K6
open PySem PySem.Spec PyProof.Rows L2 Dl
end K6
set_option Elab.async false
set_option linter.all false
set_option maxRecDepth 100000
set_option maxHeartbeats 0
namespace K6
open PySem PySem.Spec PyProof.Rows L2 Dl
def Math : Prop := ∀ ns : List Int, ns.length ≤ 63 → (∀ i ∈ ns, Builtin.Int.intBits i ≤ 1048576) → ∃ n, f_law [.im (.list (ns.map .int))] = some (.ok (.d (.bool true), n))
theorem lay {K : PySem.W.Frag} {H : Hp} {A : AS} {a : Addr} {ns : List Int} (h : SqL K H a (ns.map V.int)) (hA : ¬ A a) : Dv K H A (.ref a) (.list (ns.map .int)) := by
  have t : ∀ l : List Int, DvA K H A (l.map V.int) (l.map .int) := fun l => by
    induction l with
    | nil => exact .nil
    | cons n r ih => exact .cons (.int n) ih
  rcases h with h | h
  · exact .lst (.inl ⟨h, hA⟩) (t ns)
  · exact .lst (.inr h) (t ns)
theorem told {c : Cz} {S : AS} {σ : Sg} {as : Nv} {H : Hp} {Q : VK} {d : PD} {n : Nv} {r : Rs Rv} (h : ∀ v H', Dv c.K H' (AV S σ n) v d → Q v H') (e : r = some (.ok (.d d, n))) : OkF c S r σ as H Q := by
  subst e
  exact fun v H' st R' w => h v H' (w.weak fun a z => z.elim .inl .inr)
theorem says0 {F : Nv → Rs Rv} (M : ∀ ns : List Int, ns.length ≤ 63 → (∀ i ∈ ns, Builtin.Int.intBits i ≤ 1048576) → ∃ n, F [.im (.list (ns.map .int))] = some (.ok (.d (.bool true), n))) {K : PySem.W.Frag} {c : Str → Option Value} (H : Hp) (a : Addr) (ns : List Int) (hl : ns.length ≤ 63) (hB : ∀ i ∈ ns, Builtin.Int.intBits i ≤ 1048576) (hO : Only H) (hS : SqL K H a (ns.map V.int)) : spM K c 1 F [.ref a] H (fun v _ => v = .bl true) fun _ _ _ => False := by
  refine ⟨rfl, fun _ => False, [.im (.list (ns.map .int))], ⟨rfl, fun i d e => ?_, fun i pm ds e => ?_, fun i j pm qm ds es p e => ?_, fun a z => z.elim⟩, fun b ⟨i, pm, ds, e, _⟩ => ?_, fun i ds e => ?_, ?_⟩
  · match i, e with
    | 0, e =>
      cases e
      refine ⟨.ref a, rfl, lay hS fun z => ?_⟩
      rcases z with z | ⟨i, pm, ds, e, _⟩
      · exact z
      · match i, e with
        | 0, e => cases e
        | i + 1, e => cases e
    | i + 1, e => cases e
  · match i, e with
    | 0, e => cases e
    | i + 1, e => cases e
  · match i, e with
    | 0, e => cases e
    | i + 1, e => cases e
  · match i, e with
    | 0, e => cases e
    | i + 1, e => cases e
  · match i, e with
    | 0, e => cases e
    | i + 1, e => cases e
  · obtain ⟨n, e⟩ := M ns hl hB
    exact told (fun v H' w => by cases w; rfl) e
theorem says (M : Math) {K : PySem.W.Frag} {c : Str → Option Value} (H : Hp) (a : Addr) (ns : List Int) (hl : ns.length ≤ 63) (hB : ∀ i ∈ ns, Builtin.Int.intBits i ≤ 1048576) (hO : Only H) (hS : SqL K H a (ns.map V.int)) : spM K c 1 f_law [.ref a] H (fun v _ => v = .bl true) fun _ _ _ => False := says0 (F := f_law) M H a ns hl hB hO hS
end K6
section
open PySem PySem.W PySem.Calls PyProof.Rows
theorem k06 (M : K6.Math) : PySem.Challenge.rw_underthree_k06_whole_three_ways_of_right.Holds := by
  w_on; o_law
  refine HandSHeadRun.head_any (r := OpenLaw.row PySem.Challenge.rw_underthree_k06_whole_three_ways_of_right) (q := K6.vw) (H := K6.hk) (ob := K6.ob) (M := 6000) (loose := K6.loose) (d := HandSHeadRun.topDef (OpenLaw.row PySem.Challenge.rw_underthree_k06_whole_three_ways_of_right).prog 83) (kwd := []) K6.ob_eq
    (by kernel_rfl) (fun s => by kernel_rfl) K6.run (by kernel_rfl) (by kernel_rfl) (by kernel_rfl) (by rfl) (by first | assumption | decide +kernel) (by decide +kernel) ⟨rfl, rfl, rfl, rfl, rfl, by decide +kernel⟩ ?hw ?hc
  case hw => w_witness2
  case hc =>
    refine Dl.walk_ofG (l := PySem.Challenge.rw_underthree_k06_whole_three_ways_of_right) (n := 63) (k := 11) (x := "_law_script") rfl (by decide) (by kernel_rfl) ⟨rfl, by decide, by decide⟩ ?F (fun w H t e s' ⟨_, _, _, _, _, _, _, _, _, _, _, _, z⟩ => z)
    intro w mg fa h Y G hmg0
    obtain ⟨K, KX, c⟩ := Y
    have hmg : mg ("law" : PySem.Str) = some (.ref fa) := by
      have e : (HandSHeadRun.topDef (OpenLaw.row PySem.Challenge.rw_underthree_k06_whole_three_ways_of_right).prog 83).name = ("law" : PySem.Str) := by kernel_rfl
      rw [← e]
      exact hmg0
    refine ⟨K, _, KX, K6.says M (c := K6.cl K), fun base hK hN => ?_⟩
    obtain ⟨a, fd, F, hm, _, bd⟩ := (K6.facts (P := PySem.Challenge.rw_underthree_k06_whole_three_ways_of_right.prog) (w := w) KX G c base hK hN).ex
    rw [hmg] at hm
    cases hm
    exact ⟨fd, F, bd⟩
end
set_option Elab.async false
set_option linter.all false
set_option maxRecDepth 100000
namespace Dl
open PySem
section
variable {s : Sl} {n n1 n2 n' m m' as' : Nv} {i : Nat} {d x y z : PD} {pm : Bool} {ct : Ct} {a b : Ar} {p q : Bool} {fa fb : Nv → Rs Ar} {ft fu : Nv → Rs Bool} {fr : Nv → Rs (List Ar)} {as : List Ar} {ds es : List PD} {fo : Nv → Rs (List PD)} {fi : Nv → Rs (List PD)} {f g : Nv → RS} {r : RS} {v : Rv} {e : Er × Nv} {tg : PD → Nv → Option Nv}
def evK (i : Nat) (n : Nv) (o : Option Sl) : Rs Ar := match o with
  | some (.im d) => Dl.ret (.d d) n
  | some (.ow _ _) => Dl.ret (.o i) n
  | _ => none
@[simp] theorem u_v : eV i (s :: n) = evK i (s :: n) (s :: n)[i]? := (rfl)
@[simp] theorem u_vi : evK i n (some (.im d)) = Dl.ret (.d d) n := (rfl)
@[simp] theorem u_vo : evK i n (some (.ow pm ct)) = Dl.ret (.o i) n := (rfl)
@[simp] theorem u_c : eC x n = Dl.ret (.d x) n := (rfl)
@[simp] theorem u_bin {G : PD → PD → Option PD} : eBin G fa fb (s :: n) = bnd (fa (s :: n)) fun a n1 => bnd (fb n1) fun b n2 => lft (ArD n2 a) fun x => lft (ArD n2 b) fun y => lft (G x y) fun d => Dl.ret (.d d) n2 := (rfl)
@[simp] theorem u_un {G : PD → Option PD} : eUn G fa (s :: n) = bnd (fa (s :: n)) fun a n1 => lft (ArD n1 a) fun x => lft (G x) fun d => Dl.ret (.d d) n1 := (rfl)
@[simp] theorem u_and : eAnd fa fb (s :: n) = bnd (fa (s :: n)) fun a n1 => lft (arB n1 a) fun b => if b = true then fb n1 else Dl.ret (.d (.bool false)) n1 := (rfl)
@[simp] theorem u_or : eOr fa fb (s :: n) = bnd (fa (s :: n)) fun a n1 => lft (arB n1 a) fun b => if b = true then Dl.ret (.d (.bool true)) n1 else fb n1 := (rfl)
@[simp] theorem u_not : eNot fa (s :: n) = bnd (fa (s :: n)) fun a n1 => lft (arB n1 a) fun b => Dl.ret (.d (.bool (!b))) n1 := (rfl)
@[simp] theorem u_if : eIf ft fa fb (s :: n) = bnd (ft (s :: n)) fun b n1 => if b = true then fa n1 else fb n1 := (rfl)
@[simp] theorem u_isN {neg : Bool} : eIsN neg fa (s :: n) = bnd (fa (s :: n)) fun a n1 => lft (ArI [a]) fun ds => Dl.ret (.d (.bool (xor neg (ds.any gIsN)))) n1 := (rfl)
@[simp] theorem u_isi {T : String} : eIsi T fa (s :: n) = bnd (fa (s :: n)) fun a n1 => lft (ArD n1 a) fun d => Dl.ret (.d (.bool (isiD T d))) n1 := (rfl)
@[simp] theorem u_nil : aNil n = Dl.ret [] n := (rfl)
@[simp] theorem u_cons : aCons fa fr (s :: n) = bnd (fa (s :: n)) fun a n1 => bnd (fr n1) fun as n2 => Dl.ret (a :: as) n2 := (rfl)
@[simp] theorem u_cb {G : List PD → Option PD} : eCb G fr (s :: n) = bnd (fr (s :: n)) fun as n1 => lft (ArDs n1 as) fun ds => lft (G ds) fun d => Dl.ret (.d d) n1 := (rfl)
@[simp] theorem u_ocb {G : List PD → Option (List PD)} : oCb G fr (s :: n) = bnd (fr (s :: n)) fun as n1 => lft (ArDs n1 as) fun ds => lft (G ds) fun es => Dl.ret es n1 := (rfl)
@[simp] theorem u_of : eOf fo (s :: n) = bnd (fo (s :: n)) fun ds n1 => Dl.ret (.d (.list ds)) n1 := (rfl)
@[simp] theorem u_tup : eTup fr (s :: n) = bnd (fr (s :: n)) fun as n1 => lft (ArI as) fun ds => if lineB ds.length = true then Dl.ret (.d (.tuple ds)) n1 else none := (rfl)
@[simp] theorem u_lst : oLst fr (s :: n) = bnd (fr (s :: n)) fun as n1 => lft (ArI as) fun ds => if lineB ds.length = true then Dl.ret ds n1 else none := (rfl)
@[simp] theorem u_call {F : Nv → Rs Rv} : eCall F fr (s :: n) = bnd (fr (s :: n)) fun as n1 => if Dl.dist as = true then lft (slots n1 as) fun m => cal (F m) n1 (eRv as n1) else none := (rfl)
@[simp] theorem u_callR {F : Nv → Rs Rv} : eCallR F fr (s :: n) = bnd (fr (s :: n)) fun as n1 => if Dl.dist as.reverse = true then lft (slots n1 as.reverse) fun m => cal (F m) n1 (eRv as.reverse n1) else none := (rfl)
@[simp] theorem u_ocall {F : Nv → Rs Rv} : oCall F fr (s :: n) = bnd (fr (s :: n)) fun as n1 => if Dl.dist as = true then lft (slots n1 as) fun m => cal (F m) n1 (oRv as n1) else none := (rfl)
@[simp] theorem u_rvd : eRv as n (.d x) m = Dl.ret (.d x) (back as m n) := (rfl)
@[simp] theorem u_rvl : eRv as n (.l ds) m = Dl.ret (.d (.list ds)) (back as m n) := (rfl)
@[simp] theorem u_orl : oRv as n (.l ds) m = Dl.ret ds (back as m n) := (rfl)
@[simp] theorem u_ArDd : ArD n (.d x) = some x := (rfl)
@[simp] theorem u_ArDs0 : ArDs n [] = some [] := (rfl)
@[simp] theorem u_ArDs1 : ArDs n (a :: as) = (ArD n a).bind fun x => (ArDs n as).map fun xs => x :: xs := by
  unfold ArDs
  rw [List.mapM_cons]
  cases ArD n a <;> simp [Option.map_eq_bind, pure]
  rfl
def ardK (o : Option Sl) : Option PD := match o with
  | some (.ow _ (.l ds)) => some (.list ds)
  | _ => none
@[simp] theorem u_ArDo : ArD n (.o i) = ardK n[i]? := by unfold ArD ardK; rfl
@[simp] theorem u_ardK : ardK (some (.ow pm (.l ds))) = some (.list ds) := (rfl)
@[simp] theorem u_arB : arB n (.d (.bool p)) = some p := (rfl)
@[simp] theorem u_slots0 : slots n [] = some [] := (rfl)
@[simp] theorem u_slots1 : slots n (.d x :: as) = (slots n as).map (.im x :: ·) := (rfl)
def sltK (n : Nv) (as : List Ar) (o : Option Sl) : Option Nv := match o with
  | some (.ow _ ds) => (slots n as).map (.ow true ds :: ·)
  | _ => none
@[simp] theorem u_slots2 : slots n (.o i :: as) = sltK n as n[i]? := by unfold sltK; rw [slots]; first | done | rfl
@[simp] theorem u_sltK : sltK n as (some (.ow pm ct)) = (slots n as).map (.ow true ct :: ·) := (rfl)
@[simp] theorem u_val : tVal fa (s :: n) = bnd (fa (s :: n)) fun a n1 => lft (arB n1 a) fun b => Dl.ret b n1 := (rfl)
@[simp] theorem u_tnot : tNotF ft (s :: n) = bnd (ft (s :: n)) fun b n1 => Dl.ret (!b) n1 := (rfl)
@[simp] theorem u_tand : tAndF ft fu (s :: n) = bnd (ft (s :: n)) fun b n1 => if b = true then fu n1 else Dl.ret false n1 := (rfl)
@[simp] theorem u_tor : tOrF ft fu (s :: n) = bnd (ft (s :: n)) fun b n1 => if b = true then Dl.ret true n1 else fu n1 := (rfl)
def sq (r : RS) (g : Nv → RS) : RS := match r with
  | some (.ok (.nx, n')) => g n'
  | r => r
@[simp] theorem u_seq : sSeq f g (s :: n) = sq (f (s :: n)) g := (rfl)
@[simp] theorem u_sq : sq (some (.ok (.nx, n))) g = g n := (rfl)
@[simp] theorem u_sqr : sq (some (.ok (.rt v, n))) g = some (.ok (.rt v, n)) := (rfl)
@[simp] theorem u_sqe : sq (some (.error e)) g = some (.error e) := (rfl)
@[simp] theorem u_next : sNext n = some (.ok (.nx, n)) := (rfl)
@[simp] theorem u_sif : sIf ft f g (s :: n) = sbn (ft (s :: n)) fun b n1 => if b = true then f n1 else g n1 := (rfl)
def retK (a : Ar) (n1 : Nv) : RS := match a with
  | .d x => some (.ok (.rt (.d x), n1))
  | .o i => match n1[i]? with
    | some (.ow false (.l ds)) => some (.ok (.rt (.l ds), n1))
    | _ => none
@[simp] theorem u_ret : sRet fa (s :: n) = sbn (fa (s :: n)) retK := (rfl)
@[simp] theorem u_retd : retK (.d x) n = some (.ok (.rt (.d x), n)) := (rfl)
def retK2 (n : Nv) (o : Option Sl) : RS := match o with
  | some (.ow false (.l ds)) => some (.ok (.rt (.l ds), n))
  | _ => none
@[simp] theorem u_reto : retK (.o i) n = retK2 n n[i]? := by unfold retK retK2; rfl
@[simp] theorem u_ret2 : retK2 n (some (.ow false (.l ds))) = some (.ok (.rt (.l ds), n)) := (rfl)
def setK (i : Nat) (a : Ar) (n1 : Nv) : RS := match a with
  | .d x => if free? n1 i = true then nxt (n1.set i (.im x)) else none
  | .o _ => none
@[simp] theorem u_set : sSet i fa (s :: n) = sbn (fa (s :: n)) (setK i) := (rfl)
@[simp] theorem u_setd : setK i (.d x) n = if free? n i = true then some (.ok (.nx, n.set i (.im x))) else none := (rfl)
@[simp] theorem u_new : sNew i fo (s :: n) = sbn (fo (s :: n)) fun ds n1 => if free? n1 i = true then some (.ok (.nx, n1.set i (.ow false (.l ds)))) else none := (rfl)
@[simp] theorem u_expr : sExpr fa (s :: n) = sbn (fa (s :: n)) fun _ n1 => some (.ok (.nx, n1)) := (rfl)
def freK (o : Option Sl) : Bool := match o with
  | some (.ow true _) => false
  | _ => true
@[simp] theorem u_free : free? n i = freK n[i]? := (rfl)
@[simp] theorem u_fre1 : freK (some (.im x)) = true := (rfl)
@[simp] theorem u_fre2 : freK (some .un) = true := (rfl)
@[simp] theorem u_fre3 : freK (some (.ow false ct)) = true := (rfl)
def appK (i : Nat) (as : List Ar) (n1 : Nv) : RS := match as, n1[i]? with
  | [.d x], some (.ow pm (.l ds)) => if ltLine ds.length = true then nxt (n1.set i (.ow pm (.l (ds ++ [x])))) else none
  | _, _ => none
def appK2 (i : Nat) (x : PD) (n : Nv) (o : Option Sl) : RS := match o with
  | some (.ow pm (.l ds)) => if ltLine ds.length = true then some (.ok (.nx, n.set i (.ow pm (.l (ds ++ [x]))))) else none
  | _ => none
def appK0 (i : Nat) (fr : Nv → Rs (List Ar)) (n : Nv) (o : Option Sl) : RS := match o with
  | some (.ow _ (.l _)) => sbn (fr n) (appK i)
  | _ => none
@[simp] theorem u_app : sApp i fr (s :: n) = appK0 i fr (s :: n) (s :: n)[i]? := by unfold sApp appK0; rfl
@[simp] theorem u_app0 : appK0 i fr n (some (.ow pm (.l ds))) = sbn (fr n) (appK i) := (rfl)
@[simp] theorem u_app1 : appK i [.d x] n = appK2 i x n n[i]? := by
  unfold appK appK2
  cases n[i]? with
  | none => rfl
  | some s =>
    cases s with
    | ow pm c => cases c <;> rfl
    | _ => rfl
@[simp] theorem u_app2 : appK2 i x n (some (.ow pm (.l ds))) = if ltLine ds.length = true then some (.ok (.nx, n.set i (.ow pm (.l (ds ++ [x]))))) else none := (rfl)
@[simp] theorem u_for : sFor fi tg f (s :: n) = sbn (fi (s :: n)) fun ds n1 => loopF tg f ds n1 := (rfl)
def asgK (tg : PD → Nv → Option Nv) (a : Ar) (n1 : Nv) : RS := match a with
  | .d x => match tg x n1 with
    | some n2 => nxt n2
    | none => none
  | .o _ => none
@[simp] theorem u_asg : sAsg fa tg (s :: n) = sbn (fa (s :: n)) (asgK tg) := (rfl)
def asgK2 (o : Option Nv) : RS := match o with
  | some n => some (.ok (.nx, n))
  | none => none
@[simp] theorem u_asgd : asgK tg (.d x) n = asgK2 (tg x n) := by
  show (match tg x n with | some n2 => nxt n2 | none => none) = asgK2 (tg x n)
  cases tg x n <;> rfl
@[simp] theorem u_asg2 : asgK2 (some n) = some (.ok (.nx, n)) := (rfl)
@[simp] theorem u_body {k : Nat} : body k f as' = Dl.fin as' (f (as' ++ List.replicate k .un)) := (rfl)
@[simp] theorem u_finr : Dl.fin as' (some (.ok (.rt v, n))) = Dl.ret v (mrg as' n) := (rfl)
@[simp] theorem u_finn : Dl.fin as' (some (.ok (.nx, n))) = Dl.ret (.d .none) (mrg as' n) := (rfl)
@[simp] theorem u_fine : Dl.fin as' (some (.error e)) = some (.error e) := (rfl)
@[simp] theorem u_ary {k : Nat} {F : Nv → Rs Rv} : ary k F (s :: n) = if (s :: n).length = k then F (s :: n) else none := (rfl)
def itmK (i : Nat) (fk : Nv → Rs Ar) (a : Ar) (n1 : Nv) : RS := match a, n1[i]? with
  | .d x, some (.ow _ (.l _)) => sbn (fk n1) fun b n2 => eItmK i x b n2
  | _, _ => none
@[simp] theorem u_itm : sItm i fa fb (s :: n) = sbn (fa (s :: n)) (itmK i fb) := (rfl)
def itmK2 (i : Nat) (fk : Nv → Rs Ar) (x : PD) (n1 : Nv) (o : Option Sl) : RS := match o with
  | some (.ow _ (.l _)) => sbn (fk n1) fun b n2 => eItmK i x b n2
  | _ => none
@[simp] theorem u_itmd : itmK i fb (.d x) n = itmK2 i fb x n n[i]? := by
  unfold itmK itmK2
  cases n[i]? with
  | none => rfl
  | some s =>
    cases s with
    | ow pm c => cases c <;> rfl
    | _ => rfl
@[simp] theorem u_itm2 : itmK2 i fb x n (some (.ow pm (.l ds))) = sbn (fb n) fun b n2 => eItmK i x b n2 := (rfl)
def itj (i : Nat) (x : PD) (n : Nv) (pm : Bool) (ds : List PD) (o : Option Nat) : RS := match o with
  | some j => some (.ok (.nx, n.set i (.ow pm (.l (ds.set j x)))))
  | none => none
@[simp] theorem u_itj {j : Nat} : itj i x n pm ds (some j) = some (.ok (.nx, n.set i (.ow pm (.l (ds.set j x))))) := (rfl)
def eit2 (i : Nat) (x : PD) (k : Int) (n : Nv) (o : Option Sl) : RS := match o with
  | some (.ow pm (.l ds)) => itj i x n pm ds (L2.ixN ds.length k)
  | _ => none
@[simp] theorem u_itme {k : Int} : eItmK i x (.d (.int k)) n = eit2 i x k n n[i]? := by
  unfold eItmK eit2
  cases n[i]? with
  | none => rfl
  | some s =>
    cases s with
    | ow pm c =>
      cases c with
      | l ds =>
        show (match L2.ixN ds.length k with | some j => nxt _ | none => none) = itj i x n pm ds (L2.ixN ds.length k)
        cases L2.ixN ds.length k <;> rfl
      | m _ => rfl
    | _ => rfl
@[simp] theorem u_eit2 {k : Int} : eit2 i x k n (some (.ow pm (.l ds))) = itj i x n pm ds (L2.ixN ds.length k) := (rfl)
@[simp] theorem g_addI {i j : Int} : gAdd (.int i) (.int j) = some (.int (i + j)) := (rfl)
@[simp] theorem g_subI {i j : Int} : Dl.gSub (.int i) (.int j) = some (.int (i - j)) := (rfl)
@[simp] theorem g_ltI {i j : Int} : gLt (.int i) (.int j) = some (.bool (decide (i < j))) := (rfl)
@[simp] theorem g_leI {i j : Int} : gLe (.int i) (.int j) = some (.bool (decide (i ≤ j))) := (rfl)
@[simp] theorem g_gtI {i j : Int} : gGt (.int i) (.int j) = some (.bool (decide (j < i))) := (rfl)
@[simp] theorem g_geI {i j : Int} : gGe (.int i) (.int j) = some (.bool (decide (j ≤ i))) := (rfl)
@[simp] theorem g_int {i : Int} : gInt [.int i] = some (.int i) := (rfl)
@[simp] theorem g_lenL : gLen [.list ds] = some (.int ds.length) := (rfl)
@[simp] theorem g_lenT : gLen [.tuple ds] = some (.int ds.length) := (rfl)
@[simp] theorem g_ixL {k : Int} : gIx (.list ds) (.int k) = L2.atI ds k := (rfl)
@[simp] theorem g_ixT {k : Int} : gIx (.tuple ds) (.int k) = L2.atI ds k := (rfl)
@[simp] theorem at_0 {α : Type} {l : List α} : L2.atI l 0 = l[0]? := by
  unfold L2.atI L2.ixN
  cases l <;> simp
@[simp] theorem at_1 {α : Type} {l : List α} : L2.atI l 1 = l[1]? := by
  unfold L2.atI L2.ixN
  cases l with
  | nil => simp
  | cons x r =>
    cases r with
    | nil => simp
    | cons y r =>
      have h : (1 : Int) < (r.length : Int) + 1 + 1 := by omega
      simp [h]
@[simp] theorem at_k {α : Type} {l : List α} {k : Nat} : L2.atI l (k : Int) = l[k]? := by
  unfold L2.atI L2.ixN
  by_cases h : k < l.length
  · simp [h]
  · simp [h]
@[simp] theorem ixN_0 {k : Nat} : L2.ixN (k + 1) 0 = some 0 := by simp [L2.ixN]
@[simp] theorem ixN_1 {k : Nat} : L2.ixN (k + 2) 1 = some 1 := by
  unfold L2.ixN
  rw [if_pos (by decide), if_pos (by omega)]
  rfl
theorem g_mod {i j : Int} (h : 0 < j) : gMod (.int i) (.int j) = some (.int (i % j)) := by
  show (if pos2 i j = true then _ else _) = _
  exact if_pos (decide_eq_true h)
theorem g_div {i j : Int} (h : 0 < j) (h2 : j < 1000000000000) : gDiv (.int i) (.int j) = some (.int (i / j)) := by
  show (if div2 i j = true then _ else _) = _
  refine if_pos (Bool.and_eq_true_iff.mpr ⟨decide_eq_true h, decide_eq_true ?_⟩)
  have h3 : j.natAbs < 2 ^ 40 := by omega
  have := (Nat.log2_lt (by omega)).mpr h3
  omega
theorem g_mul {i j : Int} (h : -(2 ^ 64) < j) (h2 : j < 2 ^ 64) : gMul (.int i) (.int j) = some (.int (i * j)) := by
  show (if mul2 i j = true then _ else _) = _
  exact if_pos (Bool.or_eq_true_iff.mpr (.inl (decide_eq_true (.inr ⟨h, h2⟩))))
@[simp] theorem g_eqI {i j : Int} : gEq false (.int i) (.int j) = some (.bool (decide (i = j))) := by
  have h1 : SeqAt.shaped (.int i) = true := rfl
  have h2 : SeqAt.shaped (.int j) = true := rfl
  unfold gEq
  rw [h1, h2]
  simp [PyData.eqv]
  try rfl
theorem line_ok {k : Nat} (h : k ≤ 10000) : lineB k = true := decide_eq_true (Nat.le_trans h (by decide))
theorem ltl_ok {k : Nat} (h : k ≤ 10000) : ltLine k = true := decide_eq_true (Nat.lt_of_le_of_lt h (by decide))
theorem in62_ok {k : Int} (h : -1000000 ≤ k) (h2 : k ≤ 1000000) : in62 k = true := by
  unfold in62
  rw [Bool.and_eq_true, decide_eq_true_eq, decide_eq_true_eq]
  exact ⟨Int.le_trans (by decide) h, Int.lt_of_le_of_lt h2 (by decide)⟩
def rng1 (as : List Ar) (n1 : Nv) : Rs (List PD) := match as with
  | [.d (.int j)] => if in62 j = true then Dl.ret (rngD 0 j.toNat) n1 else none
  | _ => none
@[simp] theorem u_iR1 : iR1 fr (s :: n) = bnd (fr (s :: n)) rng1 := (rfl)
theorem u_rng1 {k : Nat} (h : k ≤ 1000000) : rng1 [.d (.int k)] n = Dl.ret (rngD 0 k) n := by
  unfold rng1
  dsimp only
  rw [if_pos (in62_ok (by omega) (by omega)), Int.toNat_natCast]
def tupK (a : Ar) (n1 : Nv) : Rs (List PD) := match a with
  | .d (.tuple ds) => Dl.ret ds n1
  | _ => none
@[simp] theorem u_iT : iT fa (s :: n) = bnd (fa (s :: n)) tupK := (rfl)
@[simp] theorem u_tupK : tupK (.d (.tuple ds)) n = Dl.ret ds n := (rfl)
def lstK (a : Ar) (n1 : Nv) : Rs (List PD) := match a with
  | .d (.list ds) => Dl.ret ds n1
  | _ => none
@[simp] theorem u_iL : iL fa (s :: n) = bnd (fa (s :: n)) lstK := (rfl)
@[simp] theorem u_lstK : lstK (.d (.list ds)) n = Dl.ret ds n := (rfl)
@[simp] theorem u_gN : gN i x (s :: n) = if free? (s :: n) i = true then some ((s :: n).set i (.im x)) else none := (rfl)
end
end Dl
set_option Elab.async false
set_option linter.all false
set_option maxRecDepth 100000
namespace Dl
open PySem
section
variable {s : Sl} {n n1 n2 n' m : Nv} {i j : Nat} {d x y z : PD} {pm : Bool} {ct : Ct} {a b : Ar} {p q : Bool} {fa fb : Nv → Rs Ar} {ft fu : Nv → Rs Bool} {fr : Nv → Rs (List Ar)} {as : List Ar} {ds es : List PD} {fo : Nv → Rs (List PD)} {fi : Nv → Rs (List PD)} {f g : Nv → RS} {r : RS} {v : Rv} {e : Er × Nv} {tg : PD → Nv → Option Nv} {vs : List Nat} {kds : List (L2.Key × PD)} {k : L2.Key}
def cmpK (vs : List Nat) (tg : PD → Nv → Option Nv) (ft : Nv → Rs Bool) (fe : Nv → Rs Ar) (ds : List PD) (n1 : Nv) : Rs (List PD) :=
  if clr n1 vs = true then if decide (ds.length < sizeLine) = true then bnd (compF vs tg ft fe ds n1) fun xs n2 => if kndB n1 n2 = true then Dl.ret xs n2 else none else none else none
@[simp] theorem u_comp : oComp vs fi tg ft fa (s :: n) = bnd (fi (s :: n)) (cmpK vs tg ft fa) := (rfl)
theorem noE_ret {α : Type} {a : α} {n : Nv} : noE (Dl.ret a n) = Dl.ret a n := (rfl)
theorem knd_refl : ∀ n : Nv, kndB n n = true
  | [] => rfl
  | .ow p _ :: r => by simp [kndB, knd_refl r]
  | .im _ :: r => by simp [kndB, knd_refl r]
  | .un :: r => by simp [kndB, knd_refl r]
theorem set_un {n : Nv} {i : Nat} (h : n[i]? = some .un) : n.set i .un = n := by
  apply List.ext_getElem?
  intro j
  rw [List.getElem?_set]
  split
  · rename_i e; subst e
    split
    · rw [h]
    · rename_i q
      rw [List.getElem?_eq_none (by omega)] at h
      cases h
  · rfl
theorem free_set {n : Nv} {i : Nat} {d : PD} {k : Nat} (h : freK n[k]? = true) : freK (n.set i (.im d))[k]? = true := by
  rw [List.getElem?_set]
  split
  · split <;> rfl
  · exact h
theorem comp_im {fe : Nv → Rs Ar} {G : PD → PD} {i : Nat} {n : Nv} {ds : List PD} (hn : n[i]? = some .un) (hl : ds.length ≤ 10000) (h : ∀ d ∈ ds, fe (n.set i (.im d)) = Dl.ret (.d (G d)) (n.set i (.im d))) :
    cmpK [i] (gN i) fYes fe ds n = Dl.ret (ds.map G) n := by
  have hc : clr n [i] = true := by simp [clr, hn]
  have key : ∀ l : List PD, (∀ d ∈ l, d ∈ ds) → compF [i] (gN i) fYes fe l n = Dl.ret (l.map G) n := fun l => by
    induction l with
    | nil => intro _; rfl
    | cons d r ih =>
      intro hm
      unfold compF
      have e1 : gN i d n = some (n.set i (.im d)) := by
        unfold gN
        rw [u_free, hn]
        rfl
      rw [e1]
      simp only [lft_some, fYes, noE_ret, bnd_ret, if_true]
      rw [h d (hm d (List.mem_cons_self ..))]
      simp only [noE_ret, bnd_ret]
      show (if [i].all (free? (n.set i (.im d))) = true then bnd (compF [i] (gN i) fYes fe r (wipeN (n.set i (.im d)) [i])) _ else none) = _
      have e2 : [i].all (free? (n.set i (.im d))) = true := by
        simp only [List.all_cons, List.all_nil, Bool.and_true, u_free]
        exact free_set (by rw [hn]; rfl)
      have e3 : wipeN (n.set i (.im d)) [i] = n := by
        show (n.set i (.im d)).set i .un = n
        rw [List.set_set, set_un hn]
      rw [if_pos e2, e3, ih fun d hd => hm d (List.mem_cons_of_mem _ hd)]
      rfl
  unfold cmpK
  rw [if_pos hc, if_pos (show decide (ds.length < sizeLine) = true from ltl_ok hl), key ds fun _ h => h]
  show (if kndB n n = true then _ else _) = _
  rw [if_pos (knd_refl n)]
theorem comp_zip {fe : Nv → Rs Ar} {G : PD → PD → PD} {i j : Nat} {n : Nv} {ps : List (PD × PD)} (hij : i ≠ j) (hn : n[i]? = some .un) (hn2 : n[j]? = some .un) (hl : ps.length ≤ 10000)
    (h : ∀ d e, (d, e) ∈ ps → fe ((n.set i (.im d)).set j (.im e)) = Dl.ret (.d (G d e)) ((n.set i (.im d)).set j (.im e))) :
    cmpK [i, j] (gT 2 (gsC (gN i) (gsC (gN j) gsN))) fYes fe (ps.map fun p => .tuple [p.1, p.2]) n = Dl.ret (ps.map fun p => G p.1 p.2) n := by
  have hc : clr n [i, j] = true := by simp [clr, hn, hn2]
  have key : ∀ l : List (PD × PD), (∀ d ∈ l, d ∈ ps) → compF [i, j] (gT 2 (gsC (gN i) (gsC (gN j) gsN))) fYes fe (l.map fun p => .tuple [p.1, p.2]) n = Dl.ret (l.map fun p => G p.1 p.2) n := fun l => by
    induction l with
    | nil => intro _; rfl
    | cons d r ih =>
      intro hm
      obtain ⟨d, e⟩ := d
      rw [List.map_cons]
      unfold compF
      have f1 : free? n i = true := by rw [u_free, hn]; rfl
      have f2 : free? (n.set i (.im d)) j = true := by rw [u_free]; exact free_set (by rw [hn2]; rfl)
      have e1 : gT 2 (gsC (gN i) (gsC (gN j) gsN)) (.tuple [d, e]) n = some ((n.set i (.im d)).set j (.im e)) := by
        simp [gT, gsC, gN, gsN, f1, f2, hn, hn2]
        have f2' := f2
        rw [u_free] at f2'
        simp [f2', u_fre2]
      rw [e1]
      simp only [lft_some, fYes, noE_ret, bnd_ret, if_true]
      rw [h d e (hm _ (List.mem_cons_self ..))]
      simp only [noE_ret, bnd_ret]
      show (if [i, j].all (free? ((n.set i (.im d)).set j (.im e))) = true then bnd (compF [i, j] (gT 2 (gsC (gN i) (gsC (gN j) gsN))) fYes fe _ (wipeN ((n.set i (.im d)).set j (.im e)) [i, j])) _ else none) = _
      have e2 : [i, j].all (free? ((n.set i (.im d)).set j (.im e))) = true := by
        simp only [List.all_cons, List.all_nil, Bool.and_true, u_free, Bool.and_eq_true]
        exact ⟨free_set (free_set (by rw [hn]; rfl)), free_set (free_set (by rw [hn2]; rfl))⟩
      have e3 : wipeN ((n.set i (.im d)).set j (.im e)) [i, j] = n := by
        show (((n.set i (.im d)).set j (.im e)).set j .un).set i .un = n
        rw [List.set_set, List.set_comm _ _ (by omega), List.set_set, set_un hn, set_un hn2]
      rw [if_pos e2, e3, ih fun d hd => hm d (List.mem_cons_of_mem _ hd)]
      rfl
  unfold cmpK
  rw [if_pos hc, if_pos (show decide ((ps.map fun p => PyData.tuple [p.1, p.2]).length < sizeLine) = true from ltl_ok (by simpa using hl)), key ps fun _ h => h]
  show (if kndB n n = true then _ else _) = _
  rw [if_pos (knd_refl n)]
theorem zipD_eq {ds es : List PD} : zipD ds es = (ds.zip es).map fun p => .tuple [p.1, p.2] := by
  unfold zipD
  rw [← List.map_uncurry_zip_eq_zipWith]
  rfl
@[simp] def noO : List Ar → Bool
  | [] => true
  | .d _ :: r => noO r
  | .o _ :: _ => false
theorem look_d : ∀ {as : List Ar} {m : Nv} {i : Nat}, noO as = true → look as m i = none
  | [], m, i, _ => by cases m <;> rfl
  | .o _ :: r, m, i, h => by cases h
  | .d x :: r, [], i, _ => rfl
  | .d x :: r, s :: m, i, h => by
    show look r m i = none
    exact look_d h
def bkK (o : Option Ct) (s : Sl) : Sl := match s with
  | .ow pm ds => .ow pm (o.getD ds)
  | s => s
@[simp] theorem u_bkim {o : Option Ct} : bkK o (.im d) = .im d := (rfl)
@[simp] theorem u_bkun {o : Option Ct} : bkK o .un = .un := (rfl)
@[simp] theorem u_bkow {o : Option Ct} : bkK o (.ow pm ct) = .ow pm (o.getD ct) := (rfl)
theorem u_back {m : Nv} : back as m n = n.mapIdx fun i s => bkK (look as m i) s := (rfl)
theorem back_d {m : Nv} (h : noO as = true) : back as m n = n := by
  rw [u_back]
  apply List.ext_getElem?
  intro j
  rw [List.getElem?_mapIdx]
  cases n[j]? with
  | none => rfl
  | some s =>
    rw [Option.map_some, look_d h]
    cases s <;> rfl
section
variable {x1 x2 x3 x4 x5 x6 : PD} {m : Nv}
@[simp] theorem back_0 : back [] m n = n := back_d rfl
@[simp] theorem back_1 : back [.d x1] m n = n := back_d rfl
@[simp] theorem back_2 : back [.d x1, .d x2] m n = n := back_d rfl
@[simp] theorem back_3 : back [.d x1, .d x2, .d x3] m n = n := back_d rfl
@[simp] theorem back_4 : back [.d x1, .d x2, .d x3, .d x4] m n = n := back_d rfl
@[simp] theorem back_5 : back [.d x1, .d x2, .d x3, .d x4, .d x5] m n = n := back_d rfl
theorem back_o {r : List Ar} {m : Nv} {es : Ct} (h : noO r = true) : back (.o 0 :: r) (.ow p es :: m) (.ow pm ct :: n) = .ow pm es :: n := by
  rw [u_back, List.mapIdx_cons]
  have e : (List.mapIdx (fun i s => bkK (look (.o 0 :: r) (.ow p es :: m) (i + 1)) s) n) = n := by
    apply List.ext_getElem?
    intro j
    rw [List.getElem?_mapIdx]
    cases n[j]? with
    | none => rfl
    | some s =>
      have e2 : look (.o 0 :: r) (.ow p es :: m) (j + 1) = none := by
        show (if 0 = j + 1 then some es else look r m (j + 1)) = none
        rw [if_neg (by omega), look_d h]
      rw [Option.map_some, e2]
      cases s <;> rfl
  rw [e]
  rfl
@[simp] theorem back_o0 {es : Ct} : back [.o 0] (.ow p es :: m) (.ow pm ct :: n) = .ow pm es :: n := back_o rfl
@[simp] theorem back_o1 {es : Ct} : back [.o 0, .d x1] (.ow p es :: m) (.ow pm ct :: n) = .ow pm es :: n := back_o rfl
@[simp] theorem back_o2 {es : Ct} : back [.o 0, .d x1, .d x2] (.ow p es :: m) (.ow pm ct :: n) = .ow pm es :: n := back_o rfl
end
def enK (as : List Ar) (n1 : Nv) : Rs (List PD) := match as with
  | [.d (.tuple ds)] => Dl.ret (enumD ds) n1
  | _ => none
@[simp] theorem u_iEn : iEn fr (s :: n) = bnd (fr (s :: n)) enK := (rfl)
@[simp] theorem u_enK : enK [.d (.tuple ds)] n = Dl.ret (enumD ds) n := (rfl)
def zpK (as : List Ar) (n1 : Nv) : Rs (List PD) := match as with
  | [.d (.tuple ds), .d (.tuple es)] => Dl.ret (zipD ds es) n1
  | _ => none
@[simp] theorem u_iZp : iZp fr (s :: n) = bnd (fr (s :: n)) zpK := (rfl)
@[simp] theorem u_zpK : zpK [.d (.tuple ds), .d (.tuple es)] n = Dl.ret (zipD ds es) n := (rfl)
def rg2 (a b : Ar) (n2 : Nv) : Rs (List PD) := match a, b with
  | .d (.int i), .d (.int j) => if rgOk i j = true then Dl.ret (rngD i (j - i).toNat) n2 else none
  | _, _ => none
@[simp] theorem u_oRg2 : oRg2 fa fb (s :: n) = bnd (fa (s :: n)) fun a n1 => bnd (fb n1) fun b n2 => rg2 a b n2 := (rfl)
theorem rgOk_ok {i j : Int} (h1 : -1000 ≤ i) (h2 : i ≤ 1000) (h3 : -1000 ≤ j) (h4 : j ≤ 1000) : rgOk i j = true := by
  unfold rgOk
  simp only [Bool.and_eq_true, decide_eq_true_eq]
  refine ⟨⟨⟨⟨?_, ?_⟩, ?_⟩, ?_⟩, ?_⟩ <;> omega
theorem u_rg2 {i j : Int} (h1 : -1000 ≤ i) (h2 : i ≤ 1000) (h3 : -1000 ≤ j) (h4 : j ≤ 1000) : rg2 (.d (.int i)) (.d (.int j)) n = Dl.ret (rngD i (j - i).toNat) n := by
  show (if rgOk i j = true then _ else _) = _
  rw [if_pos (rgOk_ok h1 h2 h3 h4)]
theorem rngD_nat {a k : Nat} : rngD (a : Int) k = (List.range' a k).map fun i : Nat => .int (i : Int) := by
  unfold rngD
  rw [List.range'_eq_map_range, List.map_map]
  apply List.map_congr_left
  intro i _
  simp
@[simp] theorem u_gT {G : List PD → Nv → Option Nv} {k : Nat} : gT k G (.tuple ds) n = if ds.length = k then G ds n else none := (rfl)
def gsK (G : List PD → Nv → Option Nv) (r : List PD) (o : Option Nv) : Option Nv := match o with
  | some n1 => G r n1
  | none => none
@[simp] theorem u_gsC {F : PD → Nv → Option Nv} {G : List PD → Nv → Option Nv} {r : List PD} : gsC F G (d :: r) n = gsK G r (F d n) := by
  unfold gsK
  rw [gsC]
  first | done | (cases F d n <;> rfl)
@[simp] theorem u_gsK {G : List PD → Nv → Option Nv} {r : List PD} : gsK G r (some n) = G r n := (rfl)
@[simp] theorem u_gsN : gsN [] n = some n := (rfl)
@[simp] theorem g_tupL : gTupOf [.list ds] = some (.tuple ds) := (rfl)
@[simp] theorem g_tupT : gTupOf [.tuple ds] = some (.tuple ds) := (rfl)
@[simp] theorem g_lstL : gLstOf [.list ds] = some ds := (rfl)
@[simp] theorem g_lstT : gLstOf [.tuple ds] = some ds := (rfl)
@[simp] theorem g_max {i j : Int} : gMax2 [.int i, .int j] = some (.int (if j > i then j else i)) := (rfl)
@[simp] theorem g_min {i j : Int} : gMin2 [.int i, .int j] = some (.int (if j < i then j else i)) := (rfl)
@[simp] theorem bls_map {α : Type} {h : α → Bool} : ∀ l : List α, blsOf (l.map fun x => .bool (h x)) = some (l.map h)
  | [] => rfl
  | x :: r => by simp [blsOf, bls_map r]
@[simp] theorem ints_map {α : Type} {h : α → Int} : ∀ l : List α, intsOf (l.map fun x => .int (h x)) = some (l.map h)
  | [] => rfl
  | x :: r => by simp [intsOf, ints_map r]
theorem g_all {α : Type} {h : α → Bool} {l : List α} : gAll [.list (l.map fun x => .bool (h x))] = some (.bool (l.all h)) := by
  simp [gAll, bls_map, List.all_map]
theorem g_addT (h : ds.length + es.length ≤ 10000) : gAdd (.tuple ds) (.tuple es) = some (.tuple (ds ++ es)) := by
  show (if lineB (ds.length + es.length) = true then _ else _) = _
  rw [if_pos (line_ok h)]
theorem g_addL (h : ds.length + es.length ≤ 10000) : gAdd (.list ds) (.list es) = some (.list (ds ++ es)) := by
  show (if lineB (ds.length + es.length) = true then _ else _) = _
  rw [if_pos (line_ok h)]
theorem g_mulT {k : Int} (h1 : k ≤ 1000) (h2 : -1000 ≤ k) (h3 : ds.length ≤ 1000) : gMul (.tuple ds) (.int k) = some (.tuple (repD k.toNat ds)) := by
  show (if (decide (k ≤ 1000) && decide (-1000 ≤ k) && decide (ds.length ≤ 1000)) = true then _ else _) = _
  rw [if_pos (by simp [h1, h2, h3])]
theorem g_pow {i j : Int} (h1 : 0 ≤ j) (h2 : j ≤ 1000000) (h3 : i.natAbs < 2 ^ 64) : gPow (.int i) (.int j) = some (.int (i ^ j.toNat)) := by
  show (if pow2 i j = true then _ else _) = _
  rw [if_pos (by simp only [pow2, Bool.and_eq_true, decide_eq_true_eq]; exact ⟨⟨h1, h2⟩, h3⟩)]
theorem g_shl {i j : Int} (h1 : 0 ≤ j) (h2 : j ≤ 1000000) (h3 : i.natAbs < 2 ^ 64) : gShl (.int i) (.int j) = some (.int (i * 2 ^ j.toNat)) := by
  show (if pow2 i j = true then _ else _) = _
  rw [if_pos (by simp only [pow2, Bool.and_eq_true, decide_eq_true_eq]; exact ⟨⟨h1, h2⟩, h3⟩)]
@[simp] theorem u_pN : pN n = Dl.ret none n := (rfl)
def psK (a : Ar) (n1 : Nv) : Rs (Option Int) := match a with
  | .d (.int i) => Dl.ret (some i) n1
  | _ => none
@[simp] theorem u_pS : pS fa (s :: n) = bnd (fa (s :: n)) psK := (rfl)
@[simp] theorem u_psK {i : Int} : psK (.d (.int i)) n = Dl.ret (some i) n := (rfl)
@[simp] theorem u_sl {fl fh : Nv → Rs (Option Int)} : eSl fa fl fh (s :: n) = bnd (fa (s :: n)) fun a n1 => bnd (fl n1) fun lo n2 => bnd (fh n2) fun hi n3 => lft (ArD n3 a) fun x => lft (gSl lo hi x) fun d => Dl.ret (.d d) n3 := (rfl)
@[simp] theorem g_slL {lo hi : Option Int} : gSl lo hi (.list ds) = some (.list (cutD ds lo hi)) := (rfl)
@[simp] theorem g_slT {lo hi : Option Int} : gSl lo hi (.tuple ds) = some (.tuple (cutD ds lo hi)) := (rfl)
@[simp] theorem u_dnew : sDnew i (s :: n) = if free? (s :: n) i = true then some (.ok (.nx, (s :: n).set i (.ow false (.m [])))) else none := (rfl)
def dpK (i : Nat) (fk : Nv → Rs Ar) (a : Ar) (n1 : Nv) : RS := match a, n1[i]? with
  | .d x, some (.ow _ (.m _)) => sbn (fk n1) fun b n2 => eDput i x b n2
  | _, _ => none
@[simp] theorem u_dput : sDput i fa fb (s :: n) = sbn (fa (s :: n)) (dpK i fb) := (rfl)
theorem u_dpK (h : n[i]? = some (.ow pm (.m kds))) : dpK i fb (.d x) n = sbn (fb n) fun b n2 => eDput i x b n2 := by
  unfold dpK
  rw [h]
theorem u_dpK2 (h : n[i]? = some (.ow pm (.m kds))) (hk : keyD y = some k) (hl : kds.length ≤ 10000) : eDput i x (.d y) n = some (.ok (.nx, n.set i (.ow pm (.m (putD kds k x))))) := by
  unfold eDput
  rw [h]
  dsimp only
  rw [hk]
  dsimp only
  rw [if_pos (ltl_ok hl)]
  rfl
theorem u_dget (h : n[i]? = some (.ow pm (.m kds))) (hf : fa n = Dl.ret (Ar.d y) n) (hk : keyD y = some k) (hv : valD kds k = some d) : eDget i fa n = Dl.ret (Ar.d d) n := by
  unfold eDget
  rw [h]
  dsimp only
  rw [hf]
  show (match valO i (.d y) n with | some (some d) => Dl.ret (Ar.d d) n | _ => none) = _
  unfold valO
  rw [h]
  dsimp only
  rw [hk]
  dsimp only
  rw [hv]
theorem u_din {neg : Bool} (h : n[i]? = some (.ow pm (.m kds))) (hf : fa n = Dl.ret (Ar.d y) n) (hk : keyD y = some k) : eDin neg i fa n = Dl.ret (Ar.d (.bool (xor neg (valD kds k).isSome))) n := by
  unfold eDin
  rw [hf]
  show (match valO i (.d y) n with | some r => Dl.ret (Ar.d (.bool (xor neg r.isSome))) n | none => none) = _
  unfold valO
  rw [h]
  dsimp only
  rw [hk]
def dpK2 (i : Nat) (fk : Nv → Rs Ar) (x : PD) (n1 : Nv) (o : Option Sl) : RS := match o with
  | some (.ow _ (.m _)) => sbn (fk n1) fun b n2 => eDput i x b n2
  | _ => none
@[simp] theorem u_dpKd : dpK i fb (.d x) n = dpK2 i fb x n n[i]? := by
  unfold dpK dpK2
  cases n[i]? with
  | none => rfl
  | some s =>
    cases s with
    | ow pm c => cases c <;> rfl
    | _ => rfl
@[simp] theorem u_dpKm : dpK2 i fb x n (some (.ow pm (.m kds))) = sbn (fb n) fun b n2 => eDput i x b n2 := (rfl)
def edp2 (i : Nat) (x y : PD) (n : Nv) (o : Option Sl) : RS := match o with
  | some (.ow pm (.m kds)) => match keyD y with
    | some k => if ltLine kds.length = true then nxt (n.set i (.ow pm (.m (putD kds k x)))) else none
    | none => none
  | _ => none
@[simp] theorem u_edp : eDput i x (.d y) n = edp2 i x y n n[i]? := by
  unfold eDput edp2
  cases n[i]? with
  | none => rfl
  | some s =>
    cases s with
    | ow pm c => cases c <;> rfl
    | _ => rfl
@[simp] theorem u_edpm {z : Str} : edp2 i x (.str z) n (some (.ow pm (.m kds))) = if ltLine kds.length = true then some (.ok (.nx, n.set i (.ow pm (.m (putD kds (.inr z) x))))) else none := (rfl)
def vo (y : PD) (o : Option Sl) : Option (Option PD) := match o with
  | some (.ow _ (.m kds)) => match keyD y with
    | some k => some (valD kds k)
    | none => none
  | _ => none
@[simp] theorem u_valO : valO i (.d y) n = vo y n[i]? := by
  unfold valO vo
  cases n[i]? with
  | none => rfl
  | some s =>
    cases s with
    | ow pm c => cases c <;> rfl
    | _ => rfl
@[simp] theorem u_vom {z : Str} : vo (.str z) (some (.ow pm (.m kds))) = some (valD kds (.inr z)) := (rfl)
def edK (o : Option (Option PD)) (n1 : Nv) : Rs Ar := match o with
  | some (some d) => Dl.ret (.d d) n1
  | _ => none
@[simp] theorem u_edK : edK (some (some d)) n = Dl.ret (.d d) n := (rfl)
def edg (i : Nat) (fk : Nv → Rs Ar) (n : Nv) (o : Option Sl) : Rs Ar := match o with
  | some (.ow _ (.m _)) => bnd (fk n) fun b n1 => edK (valO i b n1) n1
  | _ => none
@[simp] theorem u_dgt : eDget i fa (s :: n) = edg i fa (s :: n) (s :: n)[i]? := by
  unfold eDget edg
  cases (s :: n)[i]? with
  | none => rfl
  | some s =>
    cases s with
    | ow pm c => cases c <;> rfl
    | _ => rfl
@[simp] theorem u_edgm : edg i fa n (some (.ow pm (.m kds))) = bnd (fa n) fun b n1 => edK (valO i b n1) n1 := (rfl)
def diK (neg : Bool) (o : Option (Option PD)) (n1 : Nv) : Rs Ar := match o with
  | some r => Dl.ret (.d (.bool (xor neg r.isSome))) n1
  | none => none
@[simp] theorem u_dinK {neg : Bool} : eDin neg i fa (s :: n) = bnd (fa (s :: n)) fun b n1 => diK neg (valO i b n1) n1 := (rfl)
@[simp] theorem u_diK {neg : Bool} {r : Option PD} : diK neg (some r) n = Dl.ret (.d (.bool (xor neg r.isSome))) n := (rfl)
theorem val_put {k k' : L2.Key} {x d : PD} : ∀ {kds : List (L2.Key × PD)}, valD (putD kds k x) k' = some d → (k' = k ∧ d = x) ∨ valD kds k' = some d := fun {kds} h => by
  unfold putD at h
  split at h
  · by_cases e : k' = k
    · subst e
      left
      refine ⟨rfl, ?_⟩
      unfold valD at h
      induction kds with
      | nil => simp at h
      | cons c r ih =>
        rw [List.map_cons, List.find?_cons] at h
        by_cases q : c.1 = k'
        · simp [q] at h
          exact h.symm
        · simp only [q, if_false, decide_false] at h
          rename_i q2
          exact ih (by simpa [q] using q2) h
    · right
      unfold valD at h ⊢
      rename_i q0
      clear q0
      induction kds with
      | nil => simp at h
      | cons c r ih =>
        rw [List.map_cons, List.find?_cons] at h
        rw [List.find?_cons]
        by_cases q : c.1 = k
        · have q2 : ¬ c.1 = k' := fun z => e (z ▸ q)
          have q3 : ¬ k = k' := fun z => e z.symm
          simp only [q, if_true, q3, decide_false] at h
          simp only [q2, decide_false]
          exact ih h
        · simp only [q, if_false] at h
          by_cases q2 : c.1 = k'
          · simp [q2] at h ⊢
            exact h
          · simp only [q2, decide_false] at h ⊢
            exact ih h
  · unfold valD at h ⊢
    rw [List.find?_append] at h
    cases e : List.find? (fun kv => decide (kv.1 = k')) kds with
    | some c =>
      rw [e] at h
      right
      simpa using h
    | none =>
      rw [e] at h
      simp at h
      left
      exact ⟨h.1.symm, h.2.symm⟩
theorem val_put_same {k : L2.Key} {x : PD} {kds : List (L2.Key × PD)} : valD (putD kds k x) k = some x := by
  unfold putD
  split
  · rename_i h
    unfold valD
    induction kds with
    | nil => simp at h
    | cons c r ih =>
      rw [List.map_cons, List.find?_cons]
      by_cases q : c.1 = k
      · simp [q]
      · simp only [q, if_false, decide_false]
        exact ih (by simpa [q] using h)
  · rename_i h
    unfold valD
    rw [List.find?_append]
    have : List.find? (fun kv : L2.Key × PD => decide (kv.1 = k)) kds = none := by
      rw [List.find?_eq_none]
      intro c hc z
      exact h (List.any_eq_true.mpr ⟨c, hc, z⟩)
    rw [this]
    simp
theorem put_len {k : L2.Key} {x : PD} {kds : List (L2.Key × PD)} : (putD kds k x).length ≤ kds.length + 1 := by
  unfold putD
  split <;> simp
def rsK (nm f g : Str) (as : List Ar) (n1 : Nv) : RS := match as with
  | [.d x, .d y] => some (.error (⟨nm, [(g, y), (f, x)]⟩, n1))
  | _ => none
@[simp] theorem u_raise {nm f g : Str} : sRaise nm f g fr (s :: n) = sbn (fr (s :: n)) (rsK nm f g) := (rfl)
@[simp] theorem u_rsK {nm f g : Str} : rsK nm f g [.d x, .d y] n = some (.error (⟨nm, [(g, y), (f, x)]⟩, n)) := (rfl)
end
end Dl
set_option Elab.async false
set_option linter.all false
set_option maxRecDepth 100000
namespace K6
open PySem Dl
abbrev okd (d : PD) (n : Nv) : Rs Rv := Dl.ret (Rv.d d) n
def isInt : PD → Bool | .int _ => true | _ => false
def isNum : PD → Bool | .int i => decide (0 ≤ i) | _ => false
def isPos : PD → Bool | .int i => decide (1 ≤ i) | _ => false
def isGrp (k : Nat) : PD → Bool | .tuple ds => decide (ds.length = k) | _ => false
def isNam (b : Int) : PD → Bool | .int i => decide (0 ≤ i) && decide (i < b) | _ => false
theorem v_is_integer (d : PD) : f_is_integer [.im d] = okd (.bool (isInt d)) [.im d] := by cases d <;> rfl
theorem v_is_number (d : PD) : f_is_number [.im d] = okd (.bool (isNum d)) [.im d] := by cases d <;> rfl
theorem v_is_positive (d : PD) : f_is_positive [.im d] = okd (.bool (isPos d)) [.im d] := by cases d <;> rfl
theorem v_is_name (d : PD) (b : Int) : f__is_name [.im d, .im (.int b)] = okd (.bool (isNam b d)) [.im d, .im (.int b)] := by
  cases d with
  | int i => by_cases h : 0 ≤ i <;> simp [f__is_name, m__is_name, v_is_number, isNum, isNam, h, Dl.dist, back, mrg]
  | _ => rfl
theorem v_draw (a b m : Int) (ha : 0 ≤ a) (hb : 0 ≤ b) (hm : 1 ≤ m) (hm2 : m ≤ 1000) (hb2 : b < 2147483587) : ∃ r a' b' : Int, f__law_draw [.ow true (.l [.int a, .int b]), .im (.int m)] = okd (.int r) [.ow true (.l [.int a', .int b']), .im (.int m)] ∧ 0 ≤ r ∧ r < m ∧ 0 ≤ a' ∧ 0 ≤ b' ∧ b' < 2147483587 := by
  have hm0 : 0 < m := by omega
  have hm1 : m < 1000000000000 := by omega
  by_cases h : 0 < a
  · refine ⟨a % m, a / m, b, ?_, Int.emod_nonneg _ (by omega), Int.emod_lt_of_pos _ hm0, Int.ediv_nonneg ha (by omega), hb, hb2⟩
    simp [f__law_draw, m__law_draw, h, mrg, g_mod hm0, g_div hm0 hm1]
  · refine ⟨(b * 40692 + 7919) % 2147483587 / 2039 % m, a, (b * 40692 + 7919) % 2147483587, ?_, Int.emod_nonneg _ (by omega), Int.emod_lt_of_pos _ hm0, ha, Int.emod_nonneg _ (by omega), Int.emod_lt_of_pos _ (by omega)⟩
    simp [f__law_draw, m__law_draw, h, mrg, g_mod, g_div, g_mul, hm0, hm1]
end K6
set_option Elab.async false
set_option linter.all false
set_option maxRecDepth 100000
namespace K6
open PySem Dl
theorem loop_idx {tg : PD → Nv → Option Nv} {b : Nv → RS} (ds : List PD) (I : Nat → Nv → Prop) (h : ∀ k d n, ds[k]? = some d → I k n → ∃ n1 n2, tg d n = some n1 ∧ b n1 = some (.ok (.nx, n2)) ∧ I (k + 1) n2) (n : Nv) (h0 : I 0 n) :
    ∃ n', loopF tg b ds n = some (.ok (.nx, n')) ∧ I ds.length n' := by
  have gen : ∀ (m k : Nat) (n : Nv), k + m = ds.length → I k n → ∃ n', loopF tg b (ds.drop k) n = some (.ok (.nx, n')) ∧ I ds.length n' := fun m => by
    induction m with
    | zero =>
      intro k n e i
      have : ds.drop k = [] := List.drop_eq_nil_of_le (by omega)
      rw [this]
      exact ⟨n, rfl, by rwa [show k = ds.length by omega] at i⟩
    | succ m ih =>
      intro k n e i
      have hk : k < ds.length := by omega
      obtain ⟨n1, n2, h1, h2, h3⟩ := h k ds[k] n (List.getElem?_eq_getElem hk) i
      rw [List.drop_eq_getElem_cons hk]
      obtain ⟨n', e1, e2⟩ := ih (k + 1) n2 (by omega) h3
      refine ⟨n', ?_, e2⟩
      unfold loopF
      rw [h1]
      dsimp only
      rw [h2]
      exact e1
  exact gen ds.length 0 n (by omega) h0
theorem loop_ret {tg : PD → Nv → Option Nv} {b : Nv → RS} (ds : List PD) (I : Nat → Nv → Prop) (R : Nat → Rv → Nv → Prop)
    (h : ∀ k d n, ds[k]? = some d → I k n → ∃ n1 n2, tg d n = some n1 ∧ ((b n1 = some (.ok (.nx, n2)) ∧ I (k + 1) n2) ∨ ∃ x, b n1 = some (.ok (.rt x, n2)) ∧ R k x n2)) (n : Nv) (h0 : I 0 n) :
    (∃ n', loopF tg b ds n = some (.ok (.nx, n')) ∧ I ds.length n') ∨ ∃ k x n', k < ds.length ∧ loopF tg b ds n = some (.ok (.rt x, n')) ∧ R k x n' := by
  have gen : ∀ (m k : Nat) (n : Nv), k + m = ds.length → I k n → (∃ n', loopF tg b (ds.drop k) n = some (.ok (.nx, n')) ∧ I ds.length n') ∨ ∃ j x n', j < ds.length ∧ loopF tg b (ds.drop k) n = some (.ok (.rt x, n')) ∧ R j x n' := fun m => by
    induction m with
    | zero =>
      intro k n e i
      have : ds.drop k = [] := List.drop_eq_nil_of_le (by omega)
      rw [this]
      exact .inl ⟨n, rfl, by rwa [show k = ds.length by omega] at i⟩
    | succ m ih =>
      intro k n e i
      have hk : k < ds.length := by omega
      obtain ⟨n1, n2, h1, h2⟩ := h k ds[k] n (List.getElem?_eq_getElem hk) i
      rw [List.drop_eq_getElem_cons hk]
      unfold loopF
      rw [h1]
      dsimp only
      rcases h2 with ⟨h2, h3⟩ | ⟨x, h2, h3⟩
      · rw [h2]
        exact ih (k + 1) n2 (by omega) h3
      · rw [h2]
        exact .inr ⟨k, x, n2, hk, rfl, h3⟩
  exact gen ds.length 0 n (by omega) h0
theorem rng_get {lo : Int} {m k : Nat} {d : PD} (h : (rngD lo m)[k]? = some d) : k < m ∧ d = .int (lo + k) := by
  unfold rngD at h
  rw [List.getElem?_map] at h
  obtain ⟨i, h1, rfl⟩ := Option.map_eq_some_iff.mp h
  obtain ⟨h2, rfl⟩ := List.getElem?_eq_some_iff.mp h1
  exact ⟨by simpa using h2, by simp⟩
theorem rng_len {lo : Int} {m : Nat} : (rngD lo m).length = m := by simp [rngD]
theorem g_pow18 : gPow (.int 10) (.int 18) = some (.int 1000000000000000000) := by
  show (if pow2 10 18 = true then some (PyData.int (10 ^ 18)) else none) = _
  rw [if_pos (by decide +kernel)]
  rfl
theorem v_start (ns : List Int) (hl : ns.length ≤ 63) : ∃ a b : Int, f__law_start [.im (.list (ns.map .int))] = Dl.ret (.l [.int a, .int b]) [.im (.list (ns.map .int))] ∧ 0 ≤ a ∧ 0 ≤ b ∧ b < 2147483587 := by
  have hr := u_rng1 (k := ns.length) (n := [.im (.list (ns.map .int)), .ow false (.l [.int 0, .int 977]), .un, .un]) (by omega)
  unfold f__law_start m__law_start
  simp [hr, line_ok]
  have key := loop_idx (tg := gN 2) (b := lp__law_start_0) (rngD 0 ns.length)
    (fun _ n => ∃ (a b : Int) (x y : Sl), (x = .un ∨ ∃ i, x = .im i) ∧ (y = .un ∨ ∃ i, y = .im i) ∧ n = [.im (.list (ns.map .int)), .ow false (.l [.int a, .int b]), x, y] ∧ 0 ≤ a ∧ 0 ≤ b ∧ b < 2147483587) (fun k d n hd ⟨a, b, x, y, hx, hy, hn, ha, hb, hb2⟩ => by
      obtain ⟨hk, rfl⟩ := rng_get hd
      subst hn
      have g : (gN 2 (.int (0 + (k : Int))) [.im (.list (ns.map .int)), .ow false (.l [.int a, .int b]), x, y]) = some [.im (.list (ns.map .int)), .ow false (.l [.int a, .int b]), .im (.int k), y] := by
        rcases hx with rfl | ⟨i, rfl⟩ <;> simp
      have fy : freK (some y) = true := by rcases hy with rfl | ⟨i, rfl⟩ <;> rfl
      refine ⟨_, if a = 0 ∧ 1000000000000000000 ≤ ns[k] then [.im (.list (ns.map .int)), .ow false (.l [.int ns[k], .int b]), .im (.int k), .im (.int ns[k])]
          else [.im (.list (ns.map .int)), .ow false (.l [.int a, .int ((b * 40014 + ns[k] * 52774 + k * 131 + 5) % 2147483587)]), .im (.int k), .im (.int ns[k])], g, ?_⟩
      by_cases q : a = 0
      · subst q
        by_cases q : 1000000000000000000 ≤ ns[k]
        · rw [if_pos ⟨rfl, q⟩]
          refine ⟨?_, ns[k], b, _, _, .inr ⟨_, rfl⟩, .inr ⟨_, rfl⟩, rfl, by omega, hb, hb2⟩
          simp [lp__law_start_0, hk, fy, g_pow18, q]
        · rw [if_neg fun z => q z.2]
          refine ⟨?_, 0, _, _, _, .inr ⟨_, rfl⟩, .inr ⟨_, rfl⟩, rfl, by omega, Int.emod_nonneg _ (by omega), Int.emod_lt_of_pos _ (by omega)⟩
          simp [lp__law_start_0, hk, fy, g_pow18, q, g_mul, g_mod]
      · rw [if_neg fun z => q z.1]
        refine ⟨?_, a, _, _, _, .inr ⟨_, rfl⟩, .inr ⟨_, rfl⟩, rfl, ha, Int.emod_nonneg _ (by omega), Int.emod_lt_of_pos _ (by omega)⟩
        simp [lp__law_start_0, hk, fy, g_pow18, q, g_mul, g_mod]) _ ⟨0, 977, .un, .un, .inl rfl, .inl rfl, rfl, by omega, by omega, by omega⟩
  obtain ⟨n', e, a, b, x, y, _, _, hn, ha, hb, hb2⟩ := key
  subst hn
  refine ⟨a, b, ?_, ha, hb, hb2⟩
  rw [e]
  simp [mrg]
end K6
set_option Elab.async false
set_option linter.all false
set_option maxRecDepth 100000
namespace K6
def wg (W : List (List Nat)) (i : Nat) : List Nat := W.getD i []
def wstep (W : List (List Nat)) (p : Nat × Nat) : List (List Nat) := W ++ [wg W p.1 ++ wg W p.2]
def sgl (n : Nat) : List (List Nat) := (List.range n).map fun e => [e]
def wordsOf (n : Nat) (js : List (Nat × Nat)) : List (List Nat) := js.foldl wstep (sgl n)
theorem wordsOf_snoc {n : Nat} {js : List (Nat × Nat)} {p : Nat × Nat} : wordsOf n (js ++ [p]) = wordsOf n js ++ [wg (wordsOf n js) p.1 ++ wg (wordsOf n js) p.2] := by
  simp [wordsOf, List.foldl_append, wstep]
theorem sgl_len {n : Nat} : (sgl n).length = n := by simp [sgl]
theorem fold_len : ∀ (js : List (Nat × Nat)) (W : List (List Nat)), (js.foldl wstep W).length = W.length + js.length
  | [], W => rfl
  | p :: r, W => by simp [fold_len r, wstep]; omega
theorem words_len {n : Nat} {js : List (Nat × Nat)} : (wordsOf n js).length = n + js.length := by simp [wordsOf, fold_len, sgl_len]
def GoodJ : Nat → List (Nat × Nat) → Prop
  | _, [] => True
  | k, p :: r => p.1 < k ∧ p.2 < k ∧ GoodJ (k + 1) r
theorem goodJ_snoc : ∀ {js : List (Nat × Nat)} {k : Nat} {p : Nat × Nat}, GoodJ k js → p.1 < k + js.length → p.2 < k + js.length → GoodJ k (js ++ [p])
  | [], k, p, _, h1, h2 => ⟨by simpa using h1, by simpa using h2, trivial⟩
  | q :: r, k, p, ⟨a, b, c⟩, h1, h2 => ⟨a, b, goodJ_snoc c (by simp at h1; omega) (by simp at h2; omega)⟩
theorem goodJ_get : ∀ {js : List (Nat × Nat)} {k i : Nat} {p : Nat × Nat}, GoodJ k js → js[i]? = some p → p.1 < k + i ∧ p.2 < k + i
  | [], k, i, p, _, h => by simp at h
  | q :: r, k, 0, p, ⟨a, b, c⟩, h => by simp at h; subst h; exact ⟨a, b⟩
  | q :: r, k, i + 1, p, ⟨a, b, c⟩, h => by
    have := goodJ_get (i := i) c (by simpa using h)
    omega
def WOk (n m : Nat) (W : List (List Nat)) : Prop := ∀ w ∈ W, w ≠ [] ∧ w.length ≤ m ∧ ∀ e ∈ w, e < n
theorem wok_sgl {n m : Nat} (h : 1 ≤ m) : WOk n m (sgl n) := fun w hw => by
  obtain ⟨e, he, rfl⟩ := List.mem_map.mp hw
  exact ⟨by simp, by simpa using h, fun x hx => by simp at hx; subst hx; exact List.mem_range.mp he⟩
theorem getD_mem {W : List (List Nat)} {i : Nat} (h : i < W.length) : wg W i ∈ W := by
  unfold wg
  rw [List.getD_eq_getElem?_getD, List.getElem?_eq_getElem h]
  exact List.getElem_mem h
theorem wok_snoc {n m : Nat} {W : List (List Nat)} {w : List Nat} (h : WOk n m W) (h1 : w ≠ []) (h2 : w.length ≤ m) (h3 : ∀ e ∈ w, e < n) : WOk n m (W ++ [w]) := fun v hv => by
  rcases List.mem_append.mp hv with hv | hv
  · exact h v hv
  · simp at hv; subst hv; exact ⟨h1, h2, h3⟩
theorem wok_get {n m : Nat} {W : List (List Nat)} (h : WOk n m W) {i : Nat} (hi : i < W.length) : wg W i ≠ [] ∧ (wg W i).length ≤ m ∧ ∀ e ∈ wg W i, e < n := h _ (getD_mem hi)
def isRun (w : List Nat) : Bool := w == List.range' (w.headD 0) w.length
def spanO (w : List Nat) : Option (Nat × Nat) := if isRun w then some (w.headD 0, w.headD 0 + w.length) else none
theorem headD_app {u v : List Nat} (h : u ≠ []) : (u ++ v).headD 0 = u.headD 0 := by cases u <;> simp_all
theorem head_range {a k : Nat} (h : 0 < k) : (List.range' a k).headD 0 = a := by
  obtain ⟨k, rfl⟩ : ∃ m, k = m + 1 := ⟨k - 1, by omega⟩
  simp [List.range'_succ]
theorem run_iff {w : List Nat} : isRun w = true ↔ w = List.range' (w.headD 0) w.length := by simp [isRun]
theorem span_range {a k : Nat} (h : 0 < k) : spanO (List.range' a k) = some (a, a + k) := by
  have : isRun (List.range' a k) = true := by rw [run_iff, head_range h]; simp
  unfold spanO
  rw [if_pos this, head_range h]
  simp
theorem span_app {u v : List Nat} (hu : u ≠ []) (hv : v ≠ []) : spanO (u ++ v) = match spanO u, spanO v with
    | some (a, b), some (c, d) => if b = c then some (a, d) else none
    | _, _ => none := by
  have lu : 0 < u.length := List.length_pos_iff.mpr hu
  have lv : 0 < v.length := List.length_pos_iff.mpr hv
  have key : isRun (u ++ v) = true ↔ isRun u = true ∧ isRun v = true ∧ u.headD 0 + u.length = v.headD 0 := by
    rw [run_iff, headD_app hu, List.length_append, ← List.range'_append_1]
    constructor
    · intro h
      have := List.append_inj h (by simp)
      have hh : v.headD 0 = u.headD 0 + u.length := by rw [this.2]; exact head_range lv
      exact ⟨run_iff.mpr this.1, run_iff.mpr (by rw [hh]; exact this.2), hh.symm⟩
    · rintro ⟨h1, h2, h3⟩
      rw [h3]
      rw [← run_iff.mp h1, ← run_iff.mp h2]
  unfold spanO
  by_cases h1 : isRun u = true <;> by_cases h2 : isRun v = true
  · by_cases h3 : u.headD 0 + u.length = v.headD 0
    · rw [if_pos (key.mpr ⟨h1, h2, h3⟩), if_pos h1, if_pos h2]
      simp only [h3, if_true]
      rw [headD_app hu, List.length_append, ← h3]
      simp; omega
    · rw [if_neg (fun z => h3 (key.mp z).2.2), if_pos h1, if_pos h2]
      simp only [h3, if_false]
  · rw [if_neg (fun z => h2 (key.mp z).2.1), if_pos h1, if_neg h2]
  · rw [if_neg (fun z => h1 (key.mp z).1), if_neg h1]
  · rw [if_neg (fun z => h1 (key.mp z).1), if_neg h1]
theorem span_eq {w : List Nat} {a b : Nat} (hw : w ≠ []) (h : a < b) : spanO w = some (a, b) ↔ w = List.range' a (b - a) := by
  constructor
  · intro e
    unfold spanO at e
    split at e
    · rename_i q
      simp only [Option.some.injEq, Prod.mk.injEq] at e
      have := run_iff.mp q
      rw [e.1] at this
      rw [show b - a = w.length by omega]
      exact this
    · cases e
  · rintro rfl
    rw [span_range (by omega)]
    simp; omega
def bitsN : List Nat → Nat
  | [] => 0
  | e :: r => 2 ^ e ||| bitsN r
theorem bits_test {k : Nat} : ∀ w : List Nat, (bitsN w).testBit k = decide (k ∈ w)
  | [] => by simp [bitsN]
  | e :: r => by
    rw [bitsN, Nat.testBit_or, bits_test r, Nat.testBit_two_pow]
    by_cases h : k = e
    · simp [h]
    · have : e ≠ k := fun z => h z.symm
      simp [h, this]
theorem bits_app {u v : List Nat} : bitsN (u ++ v) = bitsN u ||| bitsN v := by
  apply Nat.eq_of_testBit_eq
  intro i
  rw [Nat.testBit_or, bits_test, bits_test, bits_test]
  simp
theorem bits_eq {u v : List Nat} : bitsN u = bitsN v ↔ ∀ k, k ∈ u ↔ k ∈ v := by
  constructor
  · intro h k
    have := congrArg (·.testBit k) h
    simp only [bits_test] at this
    simpa using this
  · intro h
    apply Nat.eq_of_testBit_eq
    intro i
    rw [bits_test, bits_test]
    simp [h i]
def cntN (n : Nat) (w : List Nat) : List Nat := (List.range n).map fun e => w.count e
theorem cnt_app {n : Nat} {u v : List Nat} : cntN n (u ++ v) = List.zipWith (· + ·) (cntN n u) (cntN n v) := by
  simp [cntN, List.zipWith_map_left, List.zipWith_map_right, List.zipWith_self, List.count_append]
theorem cnt_eq {n : Nat} {u v : List Nat} (hu : ∀ e ∈ u, e < n) (hv : ∀ e ∈ v, e < n) : cntN n u = cntN n v ↔ u.Perm v := by
  constructor
  · intro h
    rw [List.perm_iff_count]
    intro e
    by_cases q : e < n
    · have := congrArg (·[e]?) h
      simpa [cntN, q] using this
    · rw [List.count_eq_zero.mpr (fun z => q (hu e z)), List.count_eq_zero.mpr (fun z => q (hv e z))]
  · intro h
    unfold cntN
    apply List.map_congr_left
    intro e _
    exact h.count_eq e
end K6
set_option Elab.async false
set_option linter.all false
set_option maxRecDepth 100000
namespace K6
open PySem Dl
abbrev nm (i : Nat) : PD := .int (i : Int)
def pr (p : Nat × Nat) : PD := .tuple [.int (p.1 : Int), .int (p.2 : Int)]
def iz (w : List Nat) : List Int := w.map fun e : Nat => (e : Int)
abbrev ils (l : List Int) : List PD := l.map .int
def wd (w : List Nat) : PD := .list (ils (iz w))
def planD (n : Nat) (js : List (Nat × Nat)) (as : List Nat) : PD := .tuple [.int (n : Int), .tuple (js.map pr), .tuple (ils (iz as))]
def rowD (r : List (Nat × Nat)) : PD := .tuple (r.map pr)
def Fr (s : Sl) : Prop := match s with
  | .ow _ _ => False
  | _ => True
theorem fr_un : Fr .un := trivial
theorem fr_im {d : PD} : Fr (.im d) := trivial
@[simp] theorem fr_k {s : Sl} (h : Fr s) : freK (some s) = true := by cases s <;> first | rfl | exact h.elim
@[simp] theorem fr_bk {s : Sl} {o : Option Ct} (h : Fr s) : bkK o s = s := by cases s <;> first | rfl | exact h.elim
theorem v_is_group (d : PD) (k : Nat) : f_is_group [.im d, .im (.int (k : Int))] = okd (.bool (isGrp k d)) [.im d, .im (.int (k : Int))] := by
  cases d with
  | tuple ds =>
    have : decide ((ds.length : Int) = (k : Int)) = decide (ds.length = k) := by
      by_cases h : ds.length = k
      · subst h; simp
      · have : ¬ (ds.length : Int) = (k : Int) := by omega
        simp [h, this]
    simp [f_is_group, m_is_group, isGrp, isiD, tyD, mrg, this]
  | _ => rfl
def isStr : PD → Bool
  | .tuple [.int a, .int b] => decide (0 ≤ a) && decide (0 ≤ b) && decide (a < b)
  | _ => false
theorem v_group2 (d : PD) : f_is_group [.im d, .im (.int 2)] = okd (.bool (isGrp 2 d)) [.im d, .im (.int 2)] := v_is_group d 2
theorem v_group3 (d : PD) : f_is_group [.im d, .im (.int 3)] = okd (.bool (isGrp 3 d)) [.im d, .im (.int 3)] := v_is_group d 3
theorem v_is_stretch (d : PD) : f_is_stretch [.im d] = okd (.bool (isStr d)) [.im d] := by
  unfold f_is_stretch m_is_stretch
  match d with
  | .tuple [x, y] =>
    cases x with
    | int a =>
      cases y with
      | int b => by_cases h : 0 ≤ a <;> by_cases h2 : 0 ≤ b <;> simp [v_group2, isGrp, Dl.dist, hasO, mrg, v_is_number, isNum, isStr, h, h2]
      | _ => by_cases h : 0 ≤ a <;> simp [v_group2, isGrp, Dl.dist, hasO, mrg, v_is_number, isNum, isStr, h]
    | _ => simp [v_group2, isGrp, Dl.dist, hasO, mrg, v_is_number, isNum, isStr]
  | .tuple [] => simp [v_group2, isGrp, Dl.dist, hasO, mrg, isStr]
  | .tuple [x] => simp [v_group2, isGrp, Dl.dist, hasO, mrg, isStr]
  | .tuple (x :: y :: z :: r) => simp [v_group2, isGrp, Dl.dist, hasO, mrg, isStr]
  | .none => simp [v_group2, isGrp, Dl.dist, hasO, mrg, isStr]
  | .bool _ => simp [v_group2, isGrp, Dl.dist, hasO, mrg, isStr]
  | .int _ => simp [v_group2, isGrp, Dl.dist, hasO, mrg, isStr]
  | .str _ => simp [v_group2, isGrp, Dl.dist, hasO, mrg, isStr]
  | .list _ => simp [v_group2, isGrp, Dl.dist, hasO, mrg, isStr]
  | .dict _ => simp [v_group2, isGrp, Dl.dist, hasO, mrg, isStr]
theorem v_need_t (z : Str) : f_need [.im (.bool true), .im (.str z)] = okd .none [.im (.bool true), .im (.str z)] := by
  simp [f_need, m_need, mrg]
def nuE (z : Str) : Er := ⟨"NotUsable", [("at", .int (-1)), ("word", .str z)]⟩
theorem v_need_f (z : Str) : f_need [.im (.bool false), .im (.str z)] = some (.error (nuE z, [.im (.bool false), .im (.str z)])) := by
  simp [f_need, m_need, nuE]
def ltD : PD → PD → Bool
  | .tuple a, .tuple b => match intsOf a, intsOf b with
    | some ns, some ms => HT.lexLt ns ms
    | _, _ => false
  | _, _ => false
def RowOk (ds : List PD) : Prop := (∀ (k : Nat) d, ds[k]? = some d → isStr d = true) ∧ ∀ (k : Nat) d e, ds[k]? = some d → ds[k + 1]? = some e → ltD d e = true
theorem str_form {d : PD} (h : isStr d = true) : ∃ a b : Int, d = .tuple [.int a, .int b] := by
  unfold isStr at h
  split at h
  · exact ⟨_, _, rfl⟩
  · cases h
theorem lt_str {d e : PD} (h : isStr d = true) (h2 : isStr e = true) : gLtT d e = some (.bool (ltD d e)) := by
  obtain ⟨a, b, rfl⟩ := str_form h
  obtain ⟨a, b, rfl⟩ := str_form h2
  rfl
theorem enum_get {ds : List PD} {k : Nat} {d : PD} (h : (enumD ds)[k]? = some d) : ∃ e, ds[k]? = some e ∧ d = .tuple [.int (k : Int), e] := by
  unfold enumD at h
  rw [List.getElem?_mapIdx] at h
  obtain ⟨e, h1, h2⟩ := Option.map_eq_some_iff.mp h
  exact ⟨e, h1, h2.symm⟩
theorem enum_len {ds : List PD} : (enumD ds).length = ds.length := by simp [enumD]
theorem at_pred {α : Type} {l : List α} {k : Nat} : L2.atI l (((k + 1 : Nat) : Int) - 1) = l[k]? := by
  rw [show (((k + 1 : Nat) : Int) - 1) = (k : Int) by omega]
  exact at_k
theorem v_asks_fault (ds : List PD) : (f_asks_fault [.im (.tuple ds)] = okd .none [.im (.tuple ds)] ∧ RowOk ds) ∨ ∃ x, f_asks_fault [.im (.tuple ds)] = okd (.tuple x) [.im (.tuple ds)] ∧ ¬ RowOk ds := by
  unfold f_asks_fault m_asks_fault
  simp [isiD, tyD]
  have key := loop_ret (tg := gT 2 (gsC (gN 1) (gsC (gN 2) gsN))) (b := lp_asks_fault_0) (enumD ds)
    (fun k n => ∃ x y : Sl, Fr x ∧ Fr y ∧ n = [.im (.tuple ds), x, y] ∧ (∀ (j : Nat) d, j < k → ds[j]? = some d → isStr d = true) ∧ ∀ (j : Nat) d e, j + 1 < k → ds[j]? = some d → ds[j + 1]? = some e → ltD d e = true)
    (fun k x n => ∃ (l : List PD) (a b : Sl), x = .d (.tuple l) ∧ n = [.im (.tuple ds), a, b] ∧ ¬ RowOk ds)
    (fun k d n hd ⟨x, y, hx, hy, hn, g1, g2⟩ => by
      obtain ⟨e, he, rfl⟩ := enum_get hd
      subst hn
      refine ⟨[.im (.tuple ds), .im (.int k), .im e], [.im (.tuple ds), .im (.int k), .im e], ?_, ?_⟩
      · simp [hx, hy]
      · by_cases h : isStr e = true
        · cases k with
          | zero =>
            refine .inl ⟨by simp [lp_asks_fault_0, v_is_stretch, h, Dl.dist, hasO], .im (.int 0), .im e, fr_im, fr_im, rfl, fun j d hj hd => ?_, fun j d e hj => by omega⟩
            have : j = 0 := by omega
            subst this
            rw [he] at hd
            cases hd
            exact h
          | succ k =>
            have hk : k < ds.length := by
              have := (List.getElem?_eq_some_iff.mp he).1
              omega
            have hp : ds[k]? = some ds[k] := List.getElem?_eq_getElem hk
            have hs := g1 k ds[k] (by omega) hp
            have l1 := lt_str hs h
            by_cases h2 : ltD ds[k] e = true
            · refine .inl ⟨?_, .im (.int ((k + 1 : Nat) : Int)), .im e, fr_im, fr_im, rfl, fun j d hj hd => ?_, fun j d e' hj hd1 he' => ?_⟩
              · have z : (0 : Int) < ((k + 1 : Nat) : Int) := by omega
                simp only [lp_asks_fault_0, u_seq, u_sif, u_tnot, u_val, u_call, u_cons, u_v, u_nil]
                simp [v_is_stretch, h, Dl.dist, hasO, at_pred, hp, l1, h2, -Int.natCast_add]
              · by_cases q : j = k + 1
                · subst q; rw [he] at hd; cases hd; exact h
                · exact g1 j d (by omega) hd
              · by_cases q : j = k
                · subst q; rw [hp] at hd1; cases hd1; rw [he] at he'; cases he'; exact h2
                · exact g2 j d e' (by omega) hd1 he'
            · refine .inr ⟨.d (.tuple [.str "order", .int ((k + 1 : Nat) : Int)]), ?_, _, _, _, rfl, rfl, fun z => h2 (z.2 k _ _ hp he)⟩
              have h2' : ltD ds[k] e = false := by simpa using h2
              simp only [lp_asks_fault_0, u_seq, u_sif, u_tnot, u_val, u_call, u_cons, u_v, u_nil]
              simp [v_is_stretch, h, Dl.dist, hasO, at_pred, hp, l1, h2', line_ok, ArI, -Int.natCast_add]
        · refine .inr ⟨.d (.tuple [.str "ask", .int (k : Int)]), ?_, _, _, _, rfl, rfl, fun z => h (z.1 k _ he)⟩
          simp [lp_asks_fault_0, v_is_stretch, h, Dl.dist, hasO, line_ok, ArI]) _ ⟨.un, .un, fr_un, fr_un, rfl, fun j d hj => by omega, fun j d e hj => by omega⟩
  rcases key with ⟨n', e, x, y, hx, hy, hn, g1, g2⟩ | ⟨k, x, n', hk, e, l, a, b, hx, hn, g⟩
  · subst hn
    refine .inl ⟨?_, fun k d hd => ?_, fun k d e hd he => ?_⟩
    · rw [e]
      simp [mrg]
    · exact g1 k d (by rw [enum_len]; exact (List.getElem?_eq_some_iff.mp hd).1) hd
    · exact g2 k d e (by rw [enum_len]; exact (List.getElem?_eq_some_iff.mp he).1) hd he
  · subst hn hx
    refine .inr ⟨⟨l, ?_⟩, g⟩
    rw [e]
    simp [mrg]
theorem v_is_asks_t {ds : List PD} (h : RowOk ds) : f_is_asks [.im (.tuple ds)] = okd (.bool true) [.im (.tuple ds)] := by
  rcases v_asks_fault ds with ⟨e, _⟩ | ⟨x, e, g⟩
  · simp [f_is_asks, m_is_asks, e, Dl.dist, hasO, mrg, ArI, gIsN]
  · exact absurd h g
theorem v_is_asks_f {ds : List PD} (h : ¬ RowOk ds) : f_is_asks [.im (.tuple ds)] = okd (.bool false) [.im (.tuple ds)] := by
  rcases v_asks_fault ds with ⟨e, g⟩ | ⟨x, e, g⟩
  · exact absurd g h
  · simp [f_is_asks, m_is_asks, e, Dl.dist, hasO, mrg, ArI, gIsN]
def isTup : PD → Bool | .tuple _ => true | _ => false
theorem v_is_asks_n {d : PD} (h : isTup d = false) : f_is_asks [.im d] = okd (.bool false) [.im d] := by
  have e : f_asks_fault [.im d] = okd (.tuple [.str "shape", .int (-1)]) [.im d] := by
    cases d <;> first | (simp [isTup] at h; done) | simp [f_asks_fault, m_asks_fault, isiD, tyD, ArI, line_ok, mrg]
  simp [f_is_asks, m_is_asks, e, Dl.dist, hasO, mrg, ArI, gIsN]
def isJn (b : Int) : PD → Bool
  | .tuple [x, y] => isNam b x && isNam b y
  | _ => false
theorem v_is_join (d : PD) (b : Int) : f__is_join [.im d, .im (.int b)] = okd (.bool (isJn b d)) [.im d, .im (.int b)] := by
  unfold f__is_join m__is_join
  match d with
  | .tuple [x, y] =>
    have c := comp_im (fe := eCall f__is_name (aCons (eV 2) (aCons (eV 1) aNil))) (G := fun d => .bool (isNam b d)) (i := 2) (n := [.im (.tuple [x, y]), .im (.int b), .un]) (ds := [x, y]) rfl (by simp)
      (fun d hd => by simp [v_is_name, Dl.dist, hasO])
    have a := g_all (h := isNam b) (l := [x, y])
    simp only [List.map_cons, List.map_nil] at a c
    simp [v_group2, isGrp, Dl.dist, hasO, mrg, isJn, c, a]
  | .tuple [] => simp [v_group2, isGrp, Dl.dist, hasO, mrg, isJn]
  | .tuple [x] => simp [v_group2, isGrp, Dl.dist, hasO, mrg, isJn]
  | .tuple (x :: y :: z :: r) => simp [v_group2, isGrp, Dl.dist, hasO, mrg, isJn]
  | .none => simp [v_group2, isGrp, Dl.dist, hasO, mrg, isJn]
  | .bool _ => simp [v_group2, isGrp, Dl.dist, hasO, mrg, isJn]
  | .int _ => simp [v_group2, isGrp, Dl.dist, hasO, mrg, isJn]
  | .str _ => simp [v_group2, isGrp, Dl.dist, hasO, mrg, isJn]
  | .list _ => simp [v_group2, isGrp, Dl.dist, hasO, mrg, isJn]
  | .dict _ => simp [v_group2, isGrp, Dl.dist, hasO, mrg, isJn]
def PlanOk (n : Int) (js as : List PD) : Prop := (∀ (k : Nat) d, js[k]? = some d → isJn (n + k) d = true) ∧ ∀ (k : Nat) d, as[k]? = some d → isNam (n + js.length) d = true
theorem v_plan_fault {n : Int} (hn : 1 ≤ n) (js as : List PD) : (f_plan_fault [.im (.tuple [.int n, .tuple js, .tuple as])] = okd .none [.im (.tuple [.int n, .tuple js, .tuple as])] ∧ PlanOk n js as) ∨
    ((∃ x, f_plan_fault [.im (.tuple [.int n, .tuple js, .tuple as])] = okd (.tuple x) [.im (.tuple [.int n, .tuple js, .tuple as])]) ∧ ¬ PlanOk n js as) := by
  unfold f_plan_fault m_plan_fault
  simp [isiD, tyD, v_group3, isGrp, v_is_positive, isPos, hn, Dl.dist, hasO]
  generalize hpl : PyData.tuple [.int n, .tuple js, .tuple as] = pl
  have key := loop_ret (tg := gT 2 (gsC (gN 4) (gsC (gN 5) gsN))) (b := lp_plan_fault_0) (enumD js)
    (fun k s => ∃ x y : Sl, Fr x ∧ Fr y ∧ s = [.im pl, .im (.int n), .im (.tuple js), .im (.tuple as), x, y, .un] ∧ ∀ (j : Nat) d, j < k → js[j]? = some d → isJn (n + j) d = true)
    (fun k x s => ∃ (l : List PD) (a b c : Sl), x = .d (.tuple l) ∧ s = [.im pl, a, b, c] ++ s.drop 4 ∧ ¬ PlanOk n js as)
    (fun k d s hd ⟨x, y, hx, hy, hn, g1⟩ => by
      obtain ⟨e, he, rfl⟩ := enum_get hd
      subst hn
      refine ⟨[.im pl, .im (.int n), .im (.tuple js), .im (.tuple as), .im (.int k), .im e, .un], [.im pl, .im (.int n), .im (.tuple js), .im (.tuple as), .im (.int k), .im e, .un], ?_, ?_⟩
      · simp [hx, hy]
      · by_cases h : isJn (n + k) e = true
        · refine .inl ⟨by simp [lp_plan_fault_0, v_is_join, h, Dl.dist, hasO], _, _, fr_im, fr_im, rfl, fun j d hj hd1 => ?_⟩
          by_cases q : j = k
          · subst q; rw [he] at hd1; cases hd1; exact h
          · exact g1 j d (by omega) hd1
        · refine .inr ⟨.d (.tuple [.str "join", .int (k : Int)]), ?_, _, _, _, _, rfl, rfl, fun z => h (z.1 k _ he)⟩
          simp [lp_plan_fault_0, v_is_join, h, Dl.dist, hasO, line_ok, ArI]) _ ⟨.un, .un, fr_un, fr_un, rfl, fun j d hj => by omega⟩
  rcases key with ⟨n', e, x, y, hx, hy, hn, g1⟩ | ⟨k, x, n', hk, e, l, a, b, c, hx, hn, g⟩
  · subst hn
    rw [e]
    simp [isiD, tyD]
    have key := loop_ret (tg := gT 2 (gsC (gN 4) (gsC (gN 6) gsN))) (b := lp_plan_fault_1) (enumD as)
      (fun k s => ∃ x y z : Sl, Fr x ∧ Fr z ∧ s = [.im pl, .im (.int n), .im (.tuple js), .im (.tuple as), x, y, z] ∧ ∀ (j : Nat) d, j < k → as[j]? = some d → isNam (n + js.length) d = true)
      (fun k x s => ∃ (l : List PD) (a b c : Sl), x = .d (.tuple l) ∧ s = [.im pl, a, b, c] ++ s.drop 4 ∧ ¬ PlanOk n js as)
      (fun k d s hd ⟨x, y, z, hx, hz, hn, g1⟩ => by
        obtain ⟨e, he, rfl⟩ := enum_get hd
        subst hn
        refine ⟨[.im pl, .im (.int n), .im (.tuple js), .im (.tuple as), .im (.int k), y, .im e], [.im pl, .im (.int n), .im (.tuple js), .im (.tuple as), .im (.int k), y, .im e], ?_, ?_⟩
        · simp [hx, hz]
        · by_cases h : isNam (n + js.length) e = true
          · refine .inl ⟨by simp [lp_plan_fault_1, v_is_name, h, Dl.dist, hasO], _, _, _, fr_im, fr_im, rfl, fun j d hj hd1 => ?_⟩
            by_cases q : j = k
            · subst q; rw [he] at hd1; cases hd1; exact h
            · exact g1 j d (by omega) hd1
          · refine .inr ⟨.d (.tuple [.str "answer", .int (k : Int)]), ?_, _, _, _, _, rfl, rfl, fun z => h (z.2 k _ he)⟩
            simp [lp_plan_fault_1, v_is_name, h, Dl.dist, hasO, line_ok, ArI]) _ ⟨x, y, .un, hx, fr_un, rfl, fun j d hj => by omega⟩
    rcases key with ⟨n', e, x, y, z, hx, hz, hn, g2⟩ | ⟨k, x, n', hk, e, l, a, b, c, hx, hn, g⟩
    · subst hn
      rw [e]
      refine .inl ⟨by simp [mrg], fun k d hd => ?_, fun k d hd => ?_⟩
      · exact g1 k d (by rw [enum_len]; exact (List.getElem?_eq_some_iff.mp hd).1) hd
      · exact g2 k d (by rw [enum_len]; exact (List.getElem?_eq_some_iff.mp hd).1) hd
    · subst hx
      rw [e]
      refine .inr ⟨⟨l, ?_⟩, g⟩
      rw [hn]
      simp [mrg]
  · subst hx
    rw [e]
    refine .inr ⟨⟨l, ?_⟩, g⟩
    rw [hn]
    simp [mrg]
theorem v_is_plan_t {n : Int} (hn : 1 ≤ n) {js as : List PD} (h : PlanOk n js as) : f_is_plan [.im (.tuple [.int n, .tuple js, .tuple as])] = okd (.bool true) [.im (.tuple [.int n, .tuple js, .tuple as])] := by
  rcases v_plan_fault hn js as with ⟨e, _⟩ | ⟨⟨x, e⟩, g⟩
  · simp [f_is_plan, m_is_plan, e, Dl.dist, hasO, mrg, ArI, gIsN]
  · exact absurd h g
theorem v_is_plan_f {n : Int} (hn : 1 ≤ n) {js as : List PD} (h : ¬ PlanOk n js as) : f_is_plan [.im (.tuple [.int n, .tuple js, .tuple as])] = okd (.bool false) [.im (.tuple [.int n, .tuple js, .tuple as])] := by
  rcases v_plan_fault hn js as with ⟨e, g⟩ | ⟨⟨x, e⟩, g⟩
  · exact absurd g h
  · simp [f_is_plan, m_is_plan, e, Dl.dist, hasO, mrg, ArI, gIsN]
def noShape : PD → Bool
  | .tuple [s, j, _] => !isPos s || !isTup j
  | _ => true
theorem v_is_plan_n {d : PD} (h : noShape d = true) : f_is_plan [.im d] = okd (.bool false) [.im d] := by
  have e : ∃ x, f_plan_fault [.im d] = okd (.tuple x) [.im d] := by
    unfold f_plan_fault m_plan_fault
    match d with
    | .tuple [s, j, a] =>
      by_cases hs : isPos s = true
      · have hj : isTup j = false := by simpa [noShape, hs] using h
        refine ⟨[.str "joins", .int (-1)], ?_⟩
        cases j <;> first | (simp [isTup] at hj; done) | simp [isiD, tyD, v_group3, isGrp, v_is_positive, hs, Dl.dist, hasO, ArI, line_ok, mrg]
      · exact ⟨[.str "size", .int (-1)], by simp [v_group3, isGrp, v_is_positive, hs, Dl.dist, hasO, ArI, line_ok, mrg]⟩
    | .tuple [] => exact ⟨[.str "shape", .int (-1)], by simp [v_group3, isGrp, Dl.dist, hasO, ArI, line_ok, mrg]⟩
    | .tuple [x] => exact ⟨[.str "shape", .int (-1)], by simp [v_group3, isGrp, Dl.dist, hasO, ArI, line_ok, mrg]⟩
    | .tuple [x, y] => exact ⟨[.str "shape", .int (-1)], by simp [v_group3, isGrp, Dl.dist, hasO, ArI, line_ok, mrg]⟩
    | .tuple (x :: y :: z :: u :: r) => exact ⟨[.str "shape", .int (-1)], by simp [v_group3, isGrp, Dl.dist, hasO, ArI, line_ok, mrg]⟩
    | .none => exact ⟨[.str "shape", .int (-1)], by simp [v_group3, isGrp, Dl.dist, hasO, ArI, line_ok, mrg]⟩
    | .bool _ => exact ⟨[.str "shape", .int (-1)], by simp [v_group3, isGrp, Dl.dist, hasO, ArI, line_ok, mrg]⟩
    | .int _ => exact ⟨[.str "shape", .int (-1)], by simp [v_group3, isGrp, Dl.dist, hasO, ArI, line_ok, mrg]⟩
    | .str _ => exact ⟨[.str "shape", .int (-1)], by simp [v_group3, isGrp, Dl.dist, hasO, ArI, line_ok, mrg]⟩
    | .list _ => exact ⟨[.str "shape", .int (-1)], by simp [v_group3, isGrp, Dl.dist, hasO, ArI, line_ok, mrg]⟩
    | .dict _ => exact ⟨[.str "shape", .int (-1)], by simp [v_group3, isGrp, Dl.dist, hasO, ArI, line_ok, mrg]⟩
  obtain ⟨x, e⟩ := e
  simp [f_is_plan, m_is_plan, e, Dl.dist, hasO, mrg, ArI, gIsN]
end K6
set_option Elab.async false
set_option linter.all false
set_option maxRecDepth 100000
namespace K6
open PySem Dl
theorem eqvAll_ils : ∀ us vs : List Int, PyData.eqvAll (ils us) (ils vs) = decide (us = vs)
  | [], [] => by simp [PyData.eqvAll]
  | [], _ :: _ => by simp [PyData.eqvAll]
  | _ :: _, [] => by simp [PyData.eqvAll]
  | x :: r, y :: t => by
    have ih := eqvAll_ils r t
    simp only [ils, List.map_cons] at ih ⊢
    rw [PyData.eqvAll, ih]
    by_cases h : x = y <;> by_cases h2 : r = t <;> simp [PyData.eqv, h, h2]
theorem eqv_ilsL (us vs : List Int) : PyData.eqv (.list (ils us)) (.list (ils vs)) = decide (us = vs) := by rw [PyData.eqv, eqvAll_ils]
theorem eqv_ilsT (us vs : List Int) : PyData.eqv (.tuple (ils us)) (.tuple (ils vs)) = decide (us = vs) := by rw [PyData.eqv, eqvAll_ils]
theorem lay_ils : ∀ us : List Int, PyData.canLayAll0 (ils us) = true
  | [] => by simp [PyData.canLayAll0]
  | x :: r => by
    have := lay_ils r
    simp only [ils, List.map_cons] at this ⊢
    simp [PyData.canLayAll0, PyData.canLay0, this]
theorem dep_ils : ∀ us : List Int, PyData.depthAll (ils us) = 0
  | [] => by simp [PyData.depthAll]
  | x :: r => by
    have := dep_ils r
    simp only [ils, List.map_cons] at this ⊢
    simp [PyData.depthAll, PyData.depth, this]
theorem sh_ilsL (us : List Int) : SeqAt.shaped (.list (ils us)) = true := by simp [SeqAt.shaped, PyData.canLay0, PyData.depth, lay_ils, dep_ils]
theorem sh_ilsT (us : List Int) : SeqAt.shaped (.tuple (ils us)) = true := by simp [SeqAt.shaped, PyData.canLay0, PyData.depth, lay_ils, dep_ils]
theorem sh_int (i : Int) : SeqAt.shaped (.int i) = true := by simp [SeqAt.shaped, PyData.canLay0, PyData.depth]
theorem sh_none : SeqAt.shaped .none = true := by simp [SeqAt.shaped, PyData.canLay0, PyData.depth]
theorem g_eq {neg : Bool} {d e : PD} (h : SeqAt.shaped d = true) (h2 : SeqAt.shaped e = true) : gEq neg d e = some (.bool (xor neg (PyData.eqv d e))) := by
  unfold gEq
  rw [h, h2]
  rfl
theorem iz_inj {u v : List Nat} : iz u = iz v ↔ u = v := by
  unfold iz
  constructor
  · intro h
    exact (List.map_inj_right (f := fun e : Nat => (e : Int)) (by intro a b h; have h : (a : Int) = (b : Int) := h; omega)).mp h
  · rintro rfl; rfl
theorem iz_app {u v : List Nat} : iz (u ++ v) = iz u ++ iz v := by simp [iz]
theorem iz_len {u : List Nat} : (iz u).length = u.length := by simp [iz]
theorem mem_iz {u : List Nat} {k : Nat} : (k : Int) ∈ iz u ↔ k ∈ u := by
  unfold iz
  rw [List.mem_map]
  constructor
  · rintro ⟨a, ha, e⟩
    have : a = k := by omega
    exact this ▸ ha
  · intro h
    exact ⟨k, h, rfl⟩
theorem rngD_iz {a k : Nat} : rngD (a : Int) k = ils (iz (List.range' a k)) := by
  rw [rngD_nat]
  simp [iz]
def sp : Option (Nat × Nat) → PD
  | some (a, b) => .tuple (ils [(a : Int), (b : Int)])
  | none => .none
def jn (x y : Option (Nat × Nat)) : Option (Nat × Nat) := match x, y with
  | some (a, b), some (c, d) => if b = c then some (a, d) else none
  | _, _ => none
theorem v_jspans (o : PD) (x y : Option (Nat × Nat)) : f__join_spans [.im o, .im (sp x), .im (sp y)] = okd (sp (jn x y)) [.im o, .im (sp x), .im (sp y)] := by
  unfold f__join_spans m__join_spans
  match x, y with
  | none, y => simp [sp, jn, ArI, gIsN, mrg]
  | some (a, b), none => simp [sp, jn, ArI, gIsN, mrg]
  | some (a, b), some (c, d) =>
    by_cases h : b = c
    · subst h
      simp [sp, jn, ArI, gIsN, mrg, g_eq, sh_int, PyData.eqv, line_ok]
    · have h2 : ¬ (b : Int) = (c : Int) := by omega
      simp [sp, jn, ArI, gIsN, mrg, g_eq, sh_int, PyData.eqv, line_ok, h, h2]
theorem sh_sp : ∀ x, SeqAt.shaped (sp x) = true
  | none => sh_none
  | some (a, b) => sh_ilsT _
theorem eqv_sp : ∀ x y, PyData.eqv (sp x) (sp y) = decide (x = y)
  | none, none => by simp [sp, PyData.eqv]
  | none, some (a, b) => by simp [sp, PyData.eqv]
  | some (a, b), none => by simp [sp, PyData.eqv]
  | some (a, b), some (c, d) => by
    rw [sp, sp, eqv_ilsT]
    by_cases h : a = c <;> by_cases h2 : b = d <;> simp [h, h2] <;> omega
def pAdd : PD → PD → PD
  | .int i, .int j => .int (i + j)
  | _, _ => .none
theorem v_jcounts (o : PD) (us vs : List Int) (hl : us.length ≤ 1000) : f__join_counts [.im o, .im (.tuple (ils us)), .im (.tuple (ils vs))] = okd (.tuple (ils (List.zipWith (· + ·) us vs))) [.im o, .im (.tuple (ils us)), .im (.tuple (ils vs))] := by
  unfold f__join_counts m__join_counts
  have c := comp_zip (fe := eBin gAdd (eV 3) (eV 4)) (G := pAdd) (i := 3) (j := 4) (n := [.im o, .im (.tuple (ils us)), .im (.tuple (ils vs)), .un, .un]) (ps := (ils us).zip (ils vs)) (by decide) rfl rfl (by simp; omega)
    (fun d e hd => by
      have h1 := (List.of_mem_zip hd).1
      have h2 := (List.of_mem_zip hd).2
      obtain ⟨a, _, rfl⟩ := List.mem_map.mp h1
      obtain ⟨b, _, rfl⟩ := List.mem_map.mp h2
      simp [pAdd])
  have e : ((ils us).zip (ils vs)).map (fun p => pAdd p.1 p.2) = ils (List.zipWith (· + ·) us vs) := by
    clear c hl
    induction us generalizing vs with
    | nil => simp
    | cons x r ih =>
      cases vs with
      | nil => simp
      | cons y t => simpa [pAdd] using ih t
  rw [e] at c
  rw [← zipD_eq] at c
  simp [c, mrg]
theorem bor_nat (a b : Nat) : Builtin.bitOr (a : Int) (b : Int) = ((a ||| b : Nat) : Int) := by
  unfold Builtin.bitOr Builtin.bitAnd Builtin.bitNot
  have h1 : decide (0 ≤ -(a : Int) - 1) = false := by simp; omega
  have h2 : decide (0 ≤ -(b : Int) - 1) = false := by simp; omega
  rw [h1, h2]
  dsimp only
  have e1 : (-(-(a : Int) - 1) - 1).toNat = a := by omega
  have e2 : (-(-(b : Int) - 1) - 1).toNat = b := by omega
  rw [e1, e2]
  omega
theorem v_jor (o : PD) (a b : Nat) : f__join_or [.im o, .im (.int (a : Int)), .im (.int (b : Int))] = okd (.int ((a ||| b : Nat) : Int)) [.im o, .im (.int (a : Int)), .im (.int (b : Int))] := by
  unfold f__join_or m__join_or
  have : gOr (.int (a : Int)) (.int (b : Int)) = some (.int (Builtin.bitOr a b)) := rfl
  rw [bor_nat] at this
  simp [this, mrg]
structure Gr (n : Nat) where
  g : Str
  op : PD
  val : List Nat → PD
  key : List Nat → List Int
  proof : f_proof_of [.im (.str g), .im (.int (n : Int))] = okd (.tuple [op, .tuple ((List.range n).map fun e => val [e])]) [.im (.str g), .im (.int (n : Int))]
  join : ∀ u v, u ≠ [] → v ≠ [] → f_joined [.im op, .im (val u), .im (val v)] = okd (val (u ++ v)) [.im op, .im (val u), .im (val v)]
  sh : ∀ u, SeqAt.shaped (val u) = true
  eq : ∀ w lo hi, w ≠ [] → (∀ e ∈ w, e < n) → lo < hi → hi ≤ n → PyData.eqv (val w) (val (List.range' lo (hi - lo))) = decide (key w = iz (List.range' lo (hi - lo)))
theorem v_spos {n : Nat} (h : 1 ≤ n) : f_is_positive [.im (.int (n : Int))] = okd (.bool true) [.im (.int (n : Int))] := by
  rw [v_is_positive]
  have : (1 : Int) ≤ (n : Int) := by omega
  simp [isPos, this]
theorem v_span_feed {n : Nat} (h : 1 ≤ n) (h2 : n ≤ 1000) : f_span_feed [.im (.int (n : Int))] = okd (.tuple [.tuple [.str "spans"], .tuple ((List.range n).map fun e => sp (spanO [e]))]) [.im (.int (n : Int))] := by
  unfold f_span_feed m_span_feed
  have c := comp_im (fe := eTup (aCons (eV 1) (aCons (eBin gAdd (eV 1) (eC (.int 1))) aNil))) (G := fun d => match d with | .int i => .tuple [.int i, .int (i + 1)] | _ => .none) (i := 1) (n := [.im (.int (n : Int)), .un]) (ds := rngD 0 n) rfl (by rw [rng_len]; omega)
    (fun d hd => by
      obtain ⟨e, _, rfl⟩ := List.mem_map.mp hd
      simp [ArI, line_ok])
  have e : (rngD 0 n).map (fun d => match d with | .int i => PyData.tuple [.int i, .int (i + 1)] | _ => .none) = (List.range n).map fun e => sp (spanO [e]) := by
    unfold rngD
    rw [List.map_map]
    apply List.map_congr_left
    intro i _
    have : spanO [i] = some (i, i + 1) := by simp [spanO, isRun]
    simp [this, sp]
  rw [e] at c
  simp [v_spos h, v_need_t, Dl.dist, hasO, u_rng1 (k := n) (by omega), c, ArI, line_ok, mrg]
theorem rep0 (k : Nat) : repD k [PyData.int 0] = ils (List.replicate k 0) := by
  unfold repD
  induction k with
  | zero => rfl
  | succ k ih => rw [List.replicate_succ, List.flatten_cons, ih, List.replicate_succ]; rfl
theorem cnt_one {n e : Nat} (h : e < n) : iz (cntN n [e]) = List.replicate e 0 ++ [1] ++ List.replicate (n - 1 - e) 0 := by
  apply List.ext_getElem?
  intro i
  unfold iz cntN
  simp only [List.map_map, List.getElem?_map, List.getElem?_append, List.getElem?_replicate, List.length_replicate, List.length_append, List.length_singleton, List.length_cons, List.length_nil]
  by_cases h1 : i < e
  · rw [if_pos (by omega), if_pos h1, if_pos h1, List.getElem?_range (by omega)]
    have : e ≠ i := by omega
    simp [List.count_cons, this]
  · by_cases h2 : i = e
    · subst h2
      rw [if_pos (by omega), if_neg h1, List.getElem?_range (by omega)]
      simp
    · rw [if_neg (by omega)]
      by_cases h3 : i < n
      · rw [if_pos (by omega), List.getElem?_range (by omega)]
        have : e ≠ i := by omega
        simp [List.count_cons, this]
      · rw [if_neg (by omega), List.getElem?_eq_none (by simp; omega)]
        rfl
theorem v_count_feed {n : Nat} (h : 1 ≤ n) (h2 : n ≤ 500) : f_count_feed [.im (.int (n : Int))] = okd (.tuple [.tuple [.str "counts", .int (n : Int)], .tuple ((List.range n).map fun e => .tuple (ils (iz (cntN n [e]))))]) [.im (.int (n : Int))] := by
  unfold f_count_feed m_count_feed
  have c := comp_im (fe := eBin gAdd (eBin gAdd (eBin gMul (eTup (aCons (eC (.int 0)) aNil)) (eV 1)) (eTup (aCons (eC (.int 1)) aNil))) (eBin gMul (eTup (aCons (eC (.int 0)) aNil)) (eBin Dl.gSub (eBin Dl.gSub (eV 0) (eC (.int 1))) (eV 1)))) (G := fun d => match d with | .int i => .tuple (ils (List.replicate i.toNat 0 ++ [1] ++ List.replicate ((n : Int) - 1 - i).toNat 0)) | _ => .none) (i := 1) (n := [.im (.int (n : Int)), .un]) (ds := rngD 0 n) rfl (by rw [rng_len]; omega)
    (fun d hd => by
      obtain ⟨e, he, rfl⟩ := List.mem_map.mp hd
      have he := List.mem_range.mp he
      have m1 : gMul (.tuple [.int 0]) (.int (0 + (e : Int))) = some (.tuple (ils (List.replicate e 0))) := by
        rw [g_mulT (by omega) (by omega) (by simp), ← rep0]
        simp
      have m2 : gMul (.tuple [.int 0]) (.int ((n : Int) - 1 - (0 + (e : Int)))) = some (.tuple (List.replicate (n - 1 - e) (.int 0))) := by
        rw [g_mulT (by omega) (by omega) (by simp), rep0, show ((n : Int) - 1 - (0 + (e : Int))).toNat = n - 1 - e by omega]
        simp
      have a1 : gAdd (.tuple (List.replicate e (.int 0))) (.tuple [.int 1]) = some (.tuple (List.replicate e (.int 0) ++ [.int 1])) := by
        rw [g_addT (by simp; omega)]
      have a2 : gAdd (.tuple (List.replicate e (.int 0) ++ [.int 1])) (.tuple (List.replicate (n - 1 - e) (.int 0))) = some (.tuple (List.replicate e (.int 0) ++ [.int 1] ++ List.replicate (n - 1 - e) (.int 0))) := by
        rw [g_addT (by simp; omega)]
      simp only [Int.zero_add] at m1 m2 ⊢
      simp [ArI, line_ok, m1, m2, a1, a2])
  have e : (rngD 0 n).map (fun d => match d with | .int i => PyData.tuple (ils (List.replicate i.toNat 0 ++ [1] ++ List.replicate ((n : Int) - 1 - i).toNat 0)) | _ => .none) = (List.range n).map fun e => PyData.tuple (ils (iz (cntN n [e]))) := by
    unfold rngD
    rw [List.map_map]
    apply List.map_congr_left
    intro i hi
    have hi := List.mem_range.mp hi
    rw [cnt_one hi]
    simp only [Function.comp, Int.zero_add, Int.toNat_natCast]
    rw [show ((n : Int) - 1 - (i : Int)).toNat = n - 1 - i by omega]
  rw [e] at c
  simp [v_spos h, v_need_t, Dl.dist, hasO, u_rng1 (k := n) (by omega), c, ArI, line_ok, mrg]
theorem v_bit_feed {n : Nat} (h : 1 ≤ n) (h2 : n ≤ 1000) : f_bit_feed [.im (.int (n : Int))] = okd (.tuple [.tuple [.str "or"], .tuple ((List.range n).map fun e => .int (bitsN [e] : Nat))]) [.im (.int (n : Int))] := by
  unfold f_bit_feed m_bit_feed
  have c := comp_im (fe := eBin gShl (eC (.int 1)) (eV 1)) (G := fun d => match d with | .int i => .int (1 * 2 ^ i.toNat) | _ => .none) (i := 1) (n := [.im (.int (n : Int)), .un]) (ds := rngD 0 n) rfl (by rw [rng_len]; omega)
    (fun d hd => by
      obtain ⟨e, he, rfl⟩ := List.mem_map.mp hd
      have he := List.mem_range.mp he
      have := g_shl (i := 1) (j := 0 + (e : Int)) (by omega) (by omega) (by decide)
      simp only [Int.zero_add] at this ⊢
      simp [this])
  have e : (rngD 0 n).map (fun d => match d with | .int i => PyData.int (1 * 2 ^ i.toNat) | _ => .none) = (List.range n).map fun e => PyData.int (bitsN [e] : Nat) := by
    unfold rngD
    rw [List.map_map]
    apply List.map_congr_left
    intro i _
    simp [bitsN]
  rw [e] at c
  simp [v_spos h, v_need_t, Dl.dist, hasO, u_rng1 (k := n) (by omega), c, ArI, line_ok, mrg]
theorem v_joined_s (r : List PD) (x y : PD) : f_joined [.im (.tuple (.str "spans" :: r)), .im x, .im y] = f__join_spans [.im (.tuple (.str "spans" :: r)), .im x, .im y] := rfl
theorem v_joined_c (r : List PD) (x y : PD) : f_joined [.im (.tuple (.str "counts" :: r)), .im x, .im y] = f__join_counts [.im (.tuple (.str "counts" :: r)), .im x, .im y] := rfl
theorem v_joined_o (r : List PD) (x y : PD) : f_joined [.im (.tuple (.str "or" :: r)), .im x, .im y] = f__join_or [.im (.tuple (.str "or" :: r)), .im x, .im y] := rfl
theorem rg_lt {lo hi n : Nat} (h : hi ≤ n) : ∀ e ∈ List.range' lo (hi - lo), e < n := fun e he => by
  rw [List.mem_range'_1] at he
  omega
theorem pw_rg {lo k : Nat} : (iz (List.range' lo k)).Pairwise (· < ·) := by
  unfold iz
  rw [List.pairwise_map]
  exact (List.pairwise_lt_range' (s := lo) (n := k)).imp fun h => by omega
def grA (n : Nat) (h : 1 ≤ n) (h2 : n ≤ 500) : Gr n where
  g := "all"
  op := .tuple [.str "spans"]
  val w := sp (spanO w)
  key := iz
  proof := by
    unfold f_proof_of m_proof_of
    have e : gEq false (.str "all") (.str "all") = some (.bool true) := by rw [g_eq (by decide +kernel) (by decide +kernel)]; exact congrArg (fun b => some (PyData.bool b)) (by decide +kernel)
    simp [e, v_span_feed h (by omega), Dl.dist, hasO, mrg]
  join u v hu hv := by
    rw [v_joined_s, v_jspans, span_app hu hv]
    rfl
  sh u := sh_sp _
  eq w lo hi hw he hl hh := by
    have e1 : spanO (List.range' lo (hi - lo)) = some (lo, hi) := by rw [span_range (by omega)]; simp; omega
    rw [eqv_sp, e1]
    have : (spanO w = some (lo, hi)) ↔ (iz w = iz (List.range' lo (hi - lo))) := by rw [span_eq hw hl, iz_inj]
    exact decide_eq_decide.mpr this
def grC (n : Nat) (h : 1 ≤ n) (h2 : n ≤ 500) : Gr n where
  g := "commuting"
  op := .tuple [.str "counts", .int (n : Int)]
  val w := .tuple (ils (iz (cntN n w)))
  key w := sortI (iz w)
  proof := by
    unfold f_proof_of m_proof_of
    have e : gEq false (.str "commuting") (.str "all") = some (.bool false) := by rw [g_eq (by decide +kernel) (by decide +kernel)]; exact congrArg (fun b => some (PyData.bool b)) (by decide +kernel)
    have e2 : gEq false (.str "commuting") (.str "commuting") = some (.bool true) := by rw [g_eq (by decide +kernel) (by decide +kernel)]; exact congrArg (fun b => some (PyData.bool b)) (by decide +kernel)
    simp [e, e2, v_count_feed h h2, Dl.dist, hasO, mrg]
  join u v hu hv := by
    rw [v_joined_c, v_jcounts _ _ _ (by simp [iz, cntN]; omega), cnt_app]
    have : List.zipWith (· + ·) (iz (cntN n u)) (iz (cntN n v)) = iz (List.zipWith (· + ·) (cntN n u) (cntN n v)) := by
      unfold iz
      rw [List.map_zipWith, List.zipWith_map]
      simp
    rw [this]
  sh u := sh_ilsT _
  eq w lo hi hw he hl hh := by
    rw [eqv_ilsT]
    apply decide_eq_decide.mpr
    rw [iz_inj, cnt_eq he (rg_lt hh)]
    constructor
    · intro p
      have p2 : (iz w).Perm (iz (List.range' lo (hi - lo))) := p.map _
      exact sort_uniq ((sortI_perm _).trans p2) (sortI_pw _) (pw_rg.imp fun h => Int.le_of_lt h)
    · intro e
      have p2 : (iz (List.range' lo (hi - lo))).Perm (iz w) := e ▸ sortI_perm (iz w)
      rw [List.perm_iff_count] at p2 ⊢
      intro a
      have := p2 (a : Int)
      have hc : ∀ l : List Nat, (iz l).count (a : Int) = l.count a := fun l => by
        unfold iz
        induction l with
        | nil => rfl
        | cons x r ih =>
          rw [List.map_cons, List.count_cons, List.count_cons, ih]
          by_cases q : x = a
          · simp [q]
          · have q2 : ¬ (x : Int) = (a : Int) := by omega
            simp [q, q2]
      rw [hc, hc] at this
      exact this.symm
def grS (n : Nat) (h : 1 ≤ n) (h2 : n ≤ 500) : Gr n where
  g := "same"
  op := .tuple [.str "or"]
  val w := .int ((bitsN w : Nat) : Int)
  key w := uniqI (iz w)
  proof := by
    unfold f_proof_of m_proof_of
    have e : gEq false (.str "same") (.str "all") = some (.bool false) := by rw [g_eq (by decide +kernel) (by decide +kernel)]; exact congrArg (fun b => some (PyData.bool b)) (by decide +kernel)
    have e2 : gEq false (.str "same") (.str "commuting") = some (.bool false) := by rw [g_eq (by decide +kernel) (by decide +kernel)]; exact congrArg (fun b => some (PyData.bool b)) (by decide +kernel)
    simp [e, e2, v_bit_feed h (by omega), Dl.dist, hasO, mrg]
  join u v hu hv := by
    rw [v_joined_o, v_jor, bits_app]
  sh u := sh_int _
  eq w lo hi hw he hl hh := by
    have : PyData.eqv (.int ((bitsN w : Nat) : Int)) (.int ((bitsN (List.range' lo (hi - lo)) : Nat) : Int)) = decide (bitsN w = bitsN (List.range' lo (hi - lo))) := by
      simp [PyData.eqv]
      by_cases q : bitsN w = bitsN (List.range' lo (hi - lo))
      · simp [q]
      · have q2 : ¬ ((bitsN w : Nat) : Int) = ((bitsN (List.range' lo (hi - lo)) : Nat) : Int) := by omega
        simp [q, q2]
    rw [this]
    apply decide_eq_decide.mpr
    rw [bits_eq]
    constructor
    · intro m
      refine uniq_eq (pw_uniqI _) pw_rg fun k => ?_
      rw [mem_uniqI]
      unfold iz
      simp only [List.mem_map]
      constructor
      · rintro ⟨a, ha, rfl⟩
        exact ⟨a, (m a).mp ha, rfl⟩
      · rintro ⟨a, ha, rfl⟩
        exact ⟨a, (m a).mpr ha, rfl⟩
    · intro e k
      rw [← mem_iz (u := w), ← mem_uniqI, e, mem_iz]
end K6
set_option Elab.async false
set_option linter.all false
set_option maxRecDepth 100000
namespace K6
open PySem Dl
theorem cut_from {ds : List PD} {k : Nat} : cutD ds (some (k : Int)) none = ds.drop k := by
  unfold cutD
  rw [HT.sIx_nat, HT.sIx_none]
  rw [List.take_of_length_le (by simp)]
  by_cases h : k ≤ ds.length
  · rw [Nat.min_eq_left h]
  · rw [Nat.min_eq_right (by omega), List.drop_eq_nil_of_le (Nat.le_refl _), List.drop_eq_nil_of_le (by omega)]
theorem cut_to {ds : List PD} {k : Nat} : cutD ds none (some (k : Int)) = ds.take k := by
  unfold cutD
  rw [HT.sIx_nat, HT.sIx_none, List.drop_zero, Nat.sub_zero]
  by_cases h : k ≤ ds.length
  · rw [Nat.min_eq_left h]
  · rw [Nat.min_eq_right (by omega), List.take_of_length_le (Nat.le_refl _), List.take_of_length_le (by omega)]
theorem cut_both {ds : List PD} {i j : Nat} (h : j ≤ ds.length) : cutD ds (some (i : Int)) (some (j : Int)) = (ds.drop i).take (j - i) := by
  unfold cutD
  rw [HT.sIx_nat, HT.sIx_nat, Nat.min_eq_left h]
  by_cases q : i ≤ ds.length
  · rw [Nat.min_eq_left q]
  · rw [Nat.min_eq_right (by omega), List.drop_eq_nil_of_le (Nat.le_refl _), List.drop_eq_nil_of_le (by omega)]
    simp
def fwR (P : Nat → Bool) (m : Nat) : PD := match (List.range m).find? (fun k => !P k) with
  | some k => .int (k : Int)
  | none => .none
theorem fwR_none {P : Nat → Bool} {m : Nat} (h : ∀ k, k < m → P k = true) : fwR P m = .none := by
  unfold fwR
  have : (List.range m).find? (fun k => !P k) = none := by
    rw [List.find?_eq_none]
    intro k hk
    simp [h k (List.mem_range.mp hk)]
  rw [this]
theorem fwR_some {P : Nat → Bool} {m k : Nat} (h : ∀ j, j < k → P j = true) (hk : k < m) (h2 : P k = false) : fwR P m = .int (k : Int) := by
  unfold fwR
  have : (List.range m).find? (fun k => !P k) = some k := by
    rw [List.find?_range_eq_some]
    refine ⟨by simp [h2], List.mem_range.mpr hk, fun j hj => by simp [h j hj]⟩
  rw [this]
theorem loop_find {tg : PD → Nv → Option Nv} {b : Nv → RS} (ds : List PD) (P : Nat → Bool) (I : Nat → Nv → Prop) (J : Nv → Prop)
    (h : ∀ k d n, ds[k]? = some d → I k n → ∃ n1 n2, tg d n = some n1 ∧ (P k = true → b n1 = some (.ok (.nx, n2)) ∧ I (k + 1) n2) ∧ (P k = false → b n1 = some (.ok (.rt (.d (.int (k : Int))), n2)) ∧ J n2)) (n : Nv) (h0 : I 0 n) :
    (fwR P ds.length = .none ∧ ∃ n', loopF tg b ds n = some (.ok (.nx, n')) ∧ I ds.length n') ∨ ∃ k n', fwR P ds.length = .int (k : Int) ∧ loopF tg b ds n = some (.ok (.rt (.d (.int (k : Int))), n')) ∧ J n' := by
  have key := loop_ret (tg := tg) (b := b) ds (fun k n => I k n ∧ ∀ j, j < k → P j = true) (fun k x n => x = .d (.int (k : Int)) ∧ P k = false ∧ (∀ j, j < k → P j = true) ∧ J n)
    (fun k d n hd ⟨i, g⟩ => by
      obtain ⟨n1, n2, e1, e2, e3⟩ := h k d n hd i
      refine ⟨n1, n2, e1, ?_⟩
      by_cases q : P k = true
      · refine .inl ⟨(e2 q).1, (e2 q).2, fun j hj => ?_⟩
        by_cases z : j = k
        · exact z ▸ q
        · exact g j (by omega)
      · have q : P k = false := by simpa using q
        exact .inr ⟨_, (e3 q).1, rfl, q, g, (e3 q).2⟩) n ⟨h0, fun j hj => by omega⟩
  rcases key with ⟨n', e, i, g⟩ | ⟨k, x, n', hk, e, hx, q, g, j⟩
  · exact .inl ⟨fwR_none g, n', e, i⟩
  · subst hx
    exact .inr ⟨k, n', fwR_some g hk q, e, j⟩
theorem v_folded {n : Nat} (G : Gr n) (w : List Nat) (hw : w ≠ []) : f_folded [.im G.op, .im (.tuple (w.map fun e => G.val [e]))] = okd (G.val w) [.im G.op, .im (.tuple (w.map fun e => G.val [e]))] := by
  unfold f_folded m_folded
  obtain ⟨x, r, rfl⟩ := List.exists_cons_of_ne_nil hw
  generalize hf : (x :: r).map (fun e => G.val [e]) = feed
  have hfe : feed = G.val [x] :: r.map (fun e => G.val [e]) := by rw [← hf, List.map_cons]
  have h0 : feed[0]? = some (G.val [x]) := by rw [hfe]; rfl
  have hc : cutD feed (some 1) none = r.map (fun e => G.val [e]) := by
    have := cut_from (ds := feed) (k := 1)
    rw [show ((1 : Nat) : Int) = 1 from rfl] at this
    rw [this, hfe]
    rfl
  have key := loop_idx (tg := gN 3) (b := lp_folded_0) (r.map fun e => G.val [e])
    (fun k s => ∃ z : Sl, Fr z ∧ s = [.im G.op, .im (.tuple feed), .im (G.val (x :: r.take k)), z])
    (fun k d s hd ⟨z, hz, hs⟩ => by
      subst hs
      rw [List.getElem?_map] at hd
      obtain ⟨e, he, rfl⟩ := Option.map_eq_some_iff.mp hd
      refine ⟨[.im G.op, .im (.tuple feed), .im (G.val (x :: r.take k)), .im (G.val [e])], [.im G.op, .im (.tuple feed), .im (G.val (x :: r.take (k + 1))), .im (G.val [e])], by simp [hz], ?_, .im (G.val [e]), fr_im, rfl⟩
      have j := G.join (x :: r.take k) [e] (by simp) (by simp)
      have e2 : x :: r.take k ++ [e] = x :: r.take (k + 1) := by
        rw [List.take_succ, he]
        simp
      rw [e2] at j
      simp [lp_folded_0, j, Dl.dist, hasO]) [.im G.op, .im (.tuple feed), .im (G.val [x]), .un] ⟨.un, fr_un, by simp⟩
  obtain ⟨n', e, z, hz, hn⟩ := key
  subst hn
  simp [h0, hc, e, mrg]
theorem words_get {n : Nat} {js : List (Nat × Nat)} {V : List Nat → PD} {i : Nat} {W : List (List Nat)} (h : i < W.length) : (W.map V)[i]? = some (V (wg W i)) := by
  unfold wg
  rw [List.getElem?_map, List.getD_eq_getElem?_getD, List.getElem?_eq_getElem h]
  rfl
theorem atI_map {V : List Nat → PD} {i : Nat} {W : List (List Nat)} (h : i < W.length) : L2.atI (W.map V) (i : Int) = some (V (wg W i)) := by
  unfold wg
  rw [at_k, List.getElem?_map, List.getD_eq_getElem?_getD, List.getElem?_eq_getElem h]
  rfl
theorem take_snoc {α : Type} {l : List α} {k : Nat} {x : α} (h : l[k]? = some x) : l.take (k + 1) = l.take k ++ [x] := by rw [List.take_succ, h]; rfl
theorem goodJ_take : ∀ {js : List (Nat × Nat)} {k m : Nat}, GoodJ k js → GoodJ k (js.take m)
  | [], k, m, h => by simpa using h
  | q :: r, k, 0, h => trivial
  | q :: r, k, m + 1, ⟨a, b, c⟩ => ⟨a, b, goodJ_take c⟩
theorem v_values {n : Nat} (G : Gr n) (js : List (Nat × Nat)) (as : List Nat) (hj : GoodJ n js) (hl : n + js.length ≤ 5000) (hne : ∀ w ∈ wordsOf n js, w ≠ []) :
    f_values_of_names [.im (planD n js as), .im G.op, .im (.tuple ((List.range n).map fun e => G.val [e]))] = Dl.ret (.l ((wordsOf n js).map G.val)) [.im (planD n js as), .im G.op, .im (.tuple ((List.range n).map fun e => G.val [e]))] := by
  unfold f_values_of_names m_values_of_names
  generalize hp : planD n js as = pl
  have h1 : gIx pl (.int 1) = some (.tuple (js.map pr)) := by rw [← hp]; rfl
  generalize hfd : PyData.tuple ((List.range n).map fun e => G.val [e]) = feed
  have h2 : gLstOf [feed] = some ((List.range n).map fun e => G.val [e]) := by rw [← hfd]; rfl
  have key := loop_idx (tg := gT 2 (gsC (gN 4) (gsC (gN 5) gsN))) (b := lp_values_of_names_0) (js.map pr)
    (fun k s => ∃ y z : Sl, Fr y ∧ Fr z ∧ s = [.im pl, .im G.op, .im feed, .ow false (.l ((wordsOf n (js.take k)).map G.val)), y, z])
    (fun k d s hd ⟨y, z, hy, hz, hs⟩ => by
      subst hs
      rw [List.getElem?_map] at hd
      obtain ⟨p, he, rfl⟩ := Option.map_eq_some_iff.mp hd
      refine ⟨[.im pl, .im G.op, .im feed, .ow false (.l ((wordsOf n (js.take k)).map G.val)), .im (.int (p.1 : Int)), .im (.int (p.2 : Int))],
        [.im pl, .im G.op, .im feed, .ow false (.l ((wordsOf n (js.take (k + 1))).map G.val)), .im (.int (p.1 : Int)), .im (.int (p.2 : Int))], by simp [pr, hy, hz], ?_, _, _, fr_im, fr_im, rfl⟩
      have hk : k < js.length := (List.getElem?_eq_some_iff.mp he).1
      have gp := goodJ_get hj he
      have wl : (wordsOf n (js.take k)).length = n + k := by rw [words_len, List.length_take]; omega
      have sub : ∀ i, i < n + k → wg (wordsOf n (js.take k)) i ≠ [] := by
        intro i hi
        have e1 : wordsOf n js = (js.drop k).foldl wstep (wordsOf n (js.take k)) := by
          unfold wordsOf
          rw [← List.foldl_append, List.take_append_drop]
        have pre : ∀ (l : List (Nat × Nat)) (W : List (List Nat)), ∃ t, l.foldl wstep W = W ++ t := fun l => by
          induction l with
          | nil => intro W; exact ⟨[], by simp⟩
          | cons q r ih =>
            intro W
            obtain ⟨t, ht⟩ := ih (wstep W q)
            refine ⟨[wg W q.1 ++ wg W q.2] ++ t, ?_⟩
            rw [List.foldl_cons, ht, wstep, List.append_assoc]
        obtain ⟨t, ht⟩ := pre (js.drop k) (wordsOf n (js.take k))
        refine hne _ ?_
        rw [e1, ht]
        exact List.mem_append_left _ (getD_mem (by omega))
      have j := G.join _ _ (sub p.1 (by omega)) (sub p.2 (by omega))
      have a1 := atI_map (V := G.val) (W := wordsOf n (js.take k)) (i := p.1) (by omega)
      have a2 := atI_map (V := G.val) (W := wordsOf n (js.take k)) (i := p.2) (by omega)
      rw [take_snoc he, wordsOf_snoc]
      have lo : ltLine ((wordsOf n (js.take k)).map G.val).length = true := ltl_ok (by rw [List.length_map, wl]; omega)
      rw [List.length_map] at lo
      simp only [lp_values_of_names_0, u_app]
      simp [a1, a2, j, Dl.dist, hasO, lo, -at_k]) [.im pl, .im G.op, .im feed, .ow false (.l ((List.range n).map fun e => G.val [e])), .un, .un] ⟨.un, .un, fr_un, fr_un, by simp [wordsOf, sgl, Function.comp_def]⟩
  obtain ⟨n', e, y, z, hy, hz, hn⟩ := key
  subst hn
  rw [List.length_map, List.take_length] at e
  simp [h1, h2, e, mrg]
end K6
set_option Elab.async false
set_option linter.all false
set_option maxRecDepth 100000
namespace K6
open PySem Dl
structure Sc (n : Nat) (js : List (Nat × Nat)) (as : List Nat) (r : List (Nat × Nat)) : Prop where
  n1 : 1 ≤ n
  n2 : n ≤ 6
  gj : GoodJ n js
  jl : js.length ≤ 1000
  wk : WOk n 24 (wordsOf n js)
  aw : ∀ a ∈ as, a < n + js.length
  al : as.length ≤ 100
  ro : RowOk (r.map pr)
  rl : r.length ≤ 100
  rb : ∀ p ∈ r, p.1 < p.2 ∧ p.2 ≤ 100
def suitB (n : Nat) (as : List Nat) (r : List (Nat × Nat)) : Bool := decide (as.length = r.length) && r.all fun p => decide (p.2 ≤ n)
def gLast (n : Nat) : PD → PD
  | .tuple [_, .int b] => .bool (decide (b ≤ (n : Int)))
  | _ => .none
theorem gLast_map (n : Nat) (r : List (Nat × Nat)) : (r.map pr).map (gLast n) = r.map fun p => .bool (decide (p.2 ≤ n)) := by
  rw [List.map_map]
  apply List.map_congr_left
  intro p _
  have : decide ((p.2 : Int) ≤ (n : Int)) = decide (p.2 ≤ n) := by apply decide_eq_decide.mpr; omega
  simp [pr, gLast, this]
theorem len_eq (a b : Nat) : decide ((a : Int) = (b : Int)) = decide (a = b) := by apply decide_eq_decide.mpr; omega
section
variable {n : Nat} {js : List (Nat × Nat)} {as : List Nat} {r : List (Nat × Nat)}
theorem v_suits_asks (hr : r.length ≤ 100) : f_suits_asks [.im (planD n js as), .im (rowD r)] = okd (.bool (suitB n as r)) [.im (planD n js as), .im (rowD r)] := by
  unfold f_suits_asks m_suits_asks
  have c := comp_im (fe := eBin gLe (eBin gIx (eV 5) (eC (.int 1))) (eV 2)) (G := gLast n) (i := 5) (n := [.im (planD n js as), .im (rowD r), .im (.int (n : Int)), .im (.tuple (js.map pr)), .im (.tuple (ils (iz as))), .un]) (ds := r.map pr) rfl (by simp; omega)
    (fun d hd => by
      obtain ⟨p, _, rfl⟩ := List.mem_map.mp hd
      simp [pr, gLast])
  rw [gLast_map] at c
  have a := g_all (h := fun p : Nat × Nat => decide (p.2 ≤ n)) (l := r)
  unfold planD rowD at c ⊢
  by_cases h : as.length = r.length
  · simp [c, a, iz_len, suitB, mrg, h, -List.map_map]
  · have h2 : ¬ ((as.length : Int) = (r.length : Int)) := by omega
    simp [c, a, iz_len, suitB, mrg, h, h2, -List.map_map]
theorem v_law_suits (hr : r.length ≤ 100) : f__law_suits [.im (planD n js as), .im (rowD r)] = okd (.bool (suitB n as r)) [.im (planD n js as), .im (rowD r)] := by
  unfold f__law_suits m__law_suits
  have c := comp_im (fe := eBin gLe (eBin gIx (eV 2) (eC (.int 1))) (eBin gIx (eV 0) (eC (.int 0)))) (G := gLast n) (i := 2) (n := [.im (planD n js as), .im (rowD r), .un]) (ds := r.map pr) rfl (by simp; omega)
    (fun d hd => by
      obtain ⟨p, _, rfl⟩ := List.mem_map.mp hd
      simp [pr, gLast, planD])
  rw [gLast_map] at c
  have a := g_all (h := fun p : Nat × Nat => decide (p.2 ≤ n)) (l := r)
  have i2 : gIx (planD n js as) (.int 2) = some (.tuple (ils (iz as))) := rfl
  unfold rowD at c ⊢
  by_cases h : as.length = r.length
  · simp [c, a, i2, iz_len, suitB, mrg, h, -List.map_map]
  · have h2 : ¬ ((as.length : Int) = (r.length : Int)) := by omega
    simp [c, a, i2, iz_len, suitB, mrg, h, h2, -List.map_map]
def sgD : PD → PD := fun d => .list [d]
theorem v_law_words (S : Sc n js as r) : f__law_words [.im (planD n js as)] = Dl.ret (.l ((wordsOf n js).map wd)) [.im (planD n js as)] := by
  unfold f__law_words m__law_words
  have h0 : gIx (planD n js as) (.int 0) = some (.int (n : Int)) := rfl
  have h1 : gIx (planD n js as) (.int 1) = some (.tuple (js.map pr)) := rfl
  generalize planD n js as = pl at h0 h1 ⊢
  have n2 := S.n2
  have c := comp_im (fe := eOf (oLst (aCons (eV 3) aNil))) (G := sgD) (i := 3) (n := [.im pl, .un, .un, .un]) (ds := rngD 0 n) rfl (by rw [rng_len]; omega)
    (fun d hd => by simp [ArI, line_ok, sgD])
  have ce : (rngD 0 n).map sgD = (sgl n).map wd := by
    unfold rngD sgl
    rw [List.map_map, List.map_map]
    apply List.map_congr_left
    intro i _
    simp [sgD, wd, iz]
  rw [ce] at c
  have key := loop_idx (tg := gN 2) (b := lp__law_words_0) (js.map pr)
    (fun k s => ∃ y : Sl, Fr y ∧ s = [.im pl, .ow false (.l ((wordsOf n (js.take k)).map wd)), y, .un])
    (fun k d s hd ⟨y, hy, hs⟩ => by
      subst hs
      rw [List.getElem?_map] at hd
      obtain ⟨p, he, rfl⟩ := Option.map_eq_some_iff.mp hd
      refine ⟨[.im pl, .ow false (.l ((wordsOf n (js.take k)).map wd)), .im (pr p), .un], [.im pl, .ow false (.l ((wordsOf n (js.take (k + 1))).map wd)), .im (pr p), .un], by simp [hy], ?_, _, fr_im, rfl⟩
      have hk : k < js.length := (List.getElem?_eq_some_iff.mp he).1
      have gp := goodJ_get S.gj he
      have wl : (wordsOf n (js.take k)).length = n + k := by rw [words_len, List.length_take]; omega
      have pre : ∃ t, wordsOf n js = wordsOf n (js.take k) ++ t := by
        have e1 : wordsOf n js = (js.drop k).foldl wstep (wordsOf n (js.take k)) := by
          unfold wordsOf
          rw [← List.foldl_append, List.take_append_drop]
        have pre : ∀ (l : List (Nat × Nat)) (W : List (List Nat)), ∃ t, l.foldl wstep W = W ++ t := fun l => by
          induction l with
          | nil => intro W; exact ⟨[], by simp⟩
          | cons q r ih =>
            intro W
            obtain ⟨t, ht⟩ := ih (wstep W q)
            exact ⟨[wg W q.1 ++ wg W q.2] ++ t, by rw [List.foldl_cons, ht, wstep, List.append_assoc]⟩
        obtain ⟨t, ht⟩ := pre (js.drop k) (wordsOf n (js.take k))
        exact ⟨t, by rw [e1, ht]⟩
      obtain ⟨t, ht⟩ := pre
      have sub : ∀ i, i < n + k → (wg (wordsOf n (js.take k)) i).length ≤ 24 := fun i hi =>
        (S.wk _ (by rw [ht]; exact List.mem_append_left _ (getD_mem (W := wordsOf n (js.take k)) (i := i) (by omega)))).2.1
      have a1 := atI_map (V := wd) (W := wordsOf n (js.take k)) (i := p.1) (by omega)
      have a2 := atI_map (V := wd) (W := wordsOf n (js.take k)) (i := p.2) (by omega)
      have s1 := sub p.1 (by omega)
      have s2 := sub p.2 (by omega)
      have ad : gAdd (wd (wg (wordsOf n (js.take k)) p.1)) (wd (wg (wordsOf n (js.take k)) p.2)) = some (wd (wg (wordsOf n (js.take k)) p.1 ++ wg (wordsOf n (js.take k)) p.2)) := by
        unfold wd
        rw [g_addL (by simp [iz]; omega), iz_app]
        simp
      rw [take_snoc he, wordsOf_snoc]
      have lo : ltLine (wordsOf n (js.take k)).length = true := ltl_ok (by have := S.jl; omega)
      have p0 : gIx (pr p) (.int 0) = some (.int (p.1 : Int)) := rfl
      have p1 : gIx (pr p) (.int 1) = some (.int (p.2 : Int)) := rfl
      simp only [lp__law_words_0, u_app]
      simp [a1, a2, p0, p1, ad, lo, -at_k]) [.im pl, .ow false (.l ((sgl n).map wd)), .un, .un] ⟨.un, fr_un, by simp [wordsOf]⟩
  obtain ⟨n', e, y, hy, hn⟩ := key
  subst hn
  rw [List.length_map, List.take_length] at e
  simp [h0, h1, c, e, mrg, u_rng1 (k := n) (by omega)]
def pk (key : List Nat → List Int) (W : List (List Nat)) (as : List Nat) (r : List (Nat × Nat)) (k : Nat) : Bool := match as[k]?, r[k]? with
  | some a, some p => decide (key (wg W a) = iz (List.range' p.1 (p.2 - p.1)))
  | _, _ => true
theorem range_cut {f : Nat → PD} {lo hi : Nat} (h : hi ≤ n) : (((List.range n).map f).drop lo).take (hi - lo) = (List.range' lo (hi - lo)).map f := by
  rw [← List.map_drop, ← List.map_take]
  congr 1
  apply List.ext_getElem?
  intro i
  by_cases q : i < hi - lo
  · rw [List.getElem?_take_of_lt q, List.getElem?_drop, List.getElem?_range (by omega), List.getElem?_range' q]
    simp
  · rw [List.getElem?_eq_none (by simp; omega), List.getElem?_eq_none (by simp; omega)]
theorem suit_of (h : suitB n as r = true) : as.length = r.length ∧ ∀ p ∈ r, p.2 ≤ n := by
  unfold suitB at h
  simpa using h
theorem v_fw (S : Sc n js as r) (G : Gr n) (hs : suitB n as r = true) : f_first_wrong [.im (planD n js as), .im (rowD r), .im (.str G.g)] = okd (fwR (pk G.key (wordsOf n js) as r) r.length) [.im (planD n js as), .im (rowD r), .im (.str G.g)] := by
  obtain ⟨hl, hb⟩ := suit_of hs
  unfold f_first_wrong m_first_wrong
  have v := v_values G js as S.gj (by have := S.n2; have := S.jl; omega) fun w hw => (S.wk w hw).1
  have h0 : gIx (planD n js as) (.int 0) = some (.int (n : Int)) := rfl
  have h2 : gIx (planD n js as) (.int 2) = some (.tuple (ils (iz as))) := rfl
  generalize planD n js as = pl at h0 h2 v ⊢
  generalize hfd : ((List.range n).map fun e => G.val [e]) = feed at v
  have pf := G.proof
  rw [hfd] at pf
  have key := loop_find (tg := gT 2 (gsC (gN 6) (gsC (gN 7) gsN))) (b := lp_first_wrong_0) (enumD (r.map pr)) (pk G.key (wordsOf n js) as r)
    (fun k s => ∃ x y z : Sl, Fr x ∧ Fr y ∧ Fr z ∧ s = [.im pl, .im (rowD r), .im (.str G.g), .im (.list ((wordsOf n js).map G.val)), .im G.op, .im (.tuple feed), x, y, z])
    (fun s => ∃ x y z : Sl, s = [.im pl, .im (rowD r), .im (.str G.g), .im (.list ((wordsOf n js).map G.val)), .im G.op, .im (.tuple feed), x, y, z])
    (fun k d s hd ⟨x, y, z, hx, hy, hz, hs⟩ => by
      subst hs
      obtain ⟨e, he, rfl⟩ := enum_get hd
      rw [List.getElem?_map] at he
      obtain ⟨p, hp, rfl⟩ := Option.map_eq_some_iff.mp he
      have hk : k < r.length := (List.getElem?_eq_some_iff.mp hp).1
      have hpm := List.mem_of_getElem? hp
      have b1 := S.rb p hpm
      have b2 := hb p hpm
      have ha : as[k]? = some (as[k]'(by omega)) := List.getElem?_eq_getElem (by omega)
      generalize as[k]'(by omega) = a at ha
      have aw := S.aw a (List.mem_of_getElem? ha)
      have wl : (wordsOf n js).length = n + js.length := words_len
      refine ⟨[.im pl, .im (rowD r), .im (.str G.g), .im (.list ((wordsOf n js).map G.val)), .im G.op, .im (.tuple feed), .im (.int (k : Int)), .im (pr p), z],
        [.im pl, .im (rowD r), .im (.str G.g), .im (.list ((wordsOf n js).map G.val)), .im G.op, .im (.tuple feed), .im (.int (k : Int)), .im (pr p), .im (G.val (List.range' p.1 (p.2 - p.1)))], by simp [hx, hy], ?_⟩
      have fo := v_folded G (List.range' p.1 (p.2 - p.1)) (by simp; omega)
      have cu : cutD feed (some (p.1 : Int)) (some (p.2 : Int)) = (List.range' p.1 (p.2 - p.1)).map fun e => G.val [e] := by
        rw [cut_both (by rw [← hfd]; simpa using b2), ← hfd, range_cut b2]
      have p0 : gIx (pr p) (.int 0) = some (.int (p.1 : Int)) := rfl
      have p1 : gIx (pr p) (.int 1) = some (.int (p.2 : Int)) := rfl
      have wg1 := wok_get S.wk (i := a) (by omega)
      have ai : L2.atI (ils (iz as)) (k : Int) = some (.int (a : Int)) := by
        rw [at_k]
        simp [iz, ha]
      have av := atI_map (V := G.val) (W := wordsOf n js) (i := a) (by omega)
      have ge : gEq true (G.val (wg (wordsOf n js) a)) (G.val (List.range' p.1 (p.2 - p.1))) = some (.bool (!(pk G.key (wordsOf n js) as r k))) := by
        rw [g_eq (G.sh _) (G.sh _), G.eq _ _ _ wg1.1 wg1.2.2 b1.1 b2]
        unfold pk
        rw [ha, hp]
        simp
      refine ⟨fun q => ⟨?_, _, _, _, fr_im, fr_im, fr_im, rfl⟩, fun q => ⟨?_, _, _, _, rfl⟩⟩
      · rw [q] at ge
        simp [lp_first_wrong_0, p0, p1, cu, fo, Dl.dist, hasO, hz, h2, ai, av, ge, -at_k, -List.map_map]
      · rw [q] at ge
        simp [lp_first_wrong_0, p0, p1, cu, fo, Dl.dist, hasO, hz, h2, ai, av, ge, -at_k, -List.map_map]) [.im pl, .im (rowD r), .im (.str G.g), .im (.list ((wordsOf n js).map G.val)), .im G.op, .im (.tuple feed), .un, .un, .un] ⟨_, _, _, fr_un, fr_un, fr_un, rfl⟩
  rw [enum_len, List.length_map] at key
  rcases key with ⟨f, n', e, x, y, z, hx, hy, hz, hn⟩ | ⟨k, n', f, e, x, y, z, hn⟩
  · subst hn
    rw [f]
    unfold rowD at e ⊢
    simp [h0, pf, Dl.dist, hasO, v, e, mrg]
  · subst hn
    rw [f]
    unfold rowD at e ⊢
    simp [h0, pf, Dl.dist, hasO, v, e, mrg]
inductive Gk | A | C | S
def Gk.w : Gk → Str
  | .A => "all"
  | .C => "commuting"
  | .S => "same"
def Gk.key : Gk → List Nat → List Int
  | .A => iz
  | .C => fun w => sortI (iz w)
  | .S => fun w => uniqI (iz w)
theorem v_fwg (S : Sc n js as r) (g : Gk) (hs : suitB n as r = true) : f_first_wrong [.im (planD n js as), .im (rowD r), .im (.str g.w)] = okd (fwR (pk g.key (wordsOf n js) as r) r.length) [.im (planD n js as), .im (rowD r), .im (.str g.w)] := by
  have h := S.n1
  have h2 := S.n2
  cases g with
  | A => exact v_fw S (grA n h (by omega)) hs
  | C => exact v_fw S (grC n h (by omega)) hs
  | S => exact v_fw S (grS n h (by omega)) hs
theorem eqw1 : ∀ g : Gk, gEq false (.str g.w) (.str "commuting") = some (.bool (match g with | .C => true | _ => false))
  | .A => by rw [g_eq (by decide +kernel) (by decide +kernel)]; exact congrArg (fun b => some (PyData.bool b)) (by decide +kernel)
  | .C => by rw [g_eq (by decide +kernel) (by decide +kernel)]; exact congrArg (fun b => some (PyData.bool b)) (by decide +kernel)
  | .S => by rw [g_eq (by decide +kernel) (by decide +kernel)]; exact congrArg (fun b => some (PyData.bool b)) (by decide +kernel)
theorem eqw2 : ∀ g : Gk, gEq false (.str g.w) (.str "same") = some (.bool (match g with | .S => true | _ => false))
  | .A => by rw [g_eq (by decide +kernel) (by decide +kernel)]; exact congrArg (fun b => some (PyData.bool b)) (by decide +kernel)
  | .C => by rw [g_eq (by decide +kernel) (by decide +kernel)]; exact congrArg (fun b => some (PyData.bool b)) (by decide +kernel)
  | .S => by rw [g_eq (by decide +kernel) (by decide +kernel)]; exact congrArg (fun b => some (PyData.bool b)) (by decide +kernel)
theorem ints_ils : ∀ l : List Int, intsOf (ils l) = some l
  | [] => rfl
  | x :: t => by
    have := ints_ils t
    simp only [ils, List.map_cons] at this ⊢
    simp [intsOf, this]
theorem v_law_fw (S : Sc n js as r) (g : Gk) (hs : suitB n as r = true) : f__law_first_wrong [.im (planD n js as), .im (rowD r), .im (.str g.w)] = okd (fwR (pk g.key (wordsOf n js) as r) r.length) [.im (planD n js as), .im (rowD r), .im (.str g.w)] := by
  obtain ⟨hl, hb⟩ := suit_of hs
  unfold f__law_first_wrong m__law_first_wrong
  have v := v_law_words S
  have h2 : gIx (planD n js as) (.int 2) = some (.tuple (ils (iz as))) := rfl
  generalize planD n js as = pl at h2 v ⊢
  have key := loop_find (tg := gN 4) (b := lp__law_first_wrong_0) (rngD 0 r.length) (pk g.key (wordsOf n js) as r)
    (fun k s => ∃ x y : Sl, Fr x ∧ Fr y ∧ s = [.im pl, .im (rowD r), .im (.str g.w), .im (.list ((wordsOf n js).map wd)), x, y])
    (fun s => ∃ x y : Sl, s = [.im pl, .im (rowD r), .im (.str g.w), .im (.list ((wordsOf n js).map wd)), x, y])
    (fun k d s hd ⟨x, y, hx, hy, hs⟩ => by
      subst hs
      obtain ⟨hk, rfl⟩ := rng_get hd
      rw [Int.zero_add]
      have hp : r[k]? = some r[k] := List.getElem?_eq_getElem hk
      generalize r[k] = p at hp
      have hpm := List.mem_of_getElem? hp
      have b1 := S.rb p hpm
      have b2 := hb p hpm
      have ha : as[k]? = some (as[k]'(by omega)) := List.getElem?_eq_getElem (by omega)
      generalize as[k]'(by omega) = a at ha
      have aw := S.aw a (List.mem_of_getElem? ha)
      have wl : (wordsOf n js).length = n + js.length := words_len
      refine ⟨[.im pl, .im (rowD r), .im (.str g.w), .im (.list ((wordsOf n js).map wd)), .im (.int (k : Int)), y],
        [.im pl, .im (rowD r), .im (.str g.w), .im (.list ((wordsOf n js).map wd)), .im (.int (k : Int)), .im (.list (ils (g.key (wg (wordsOf n js) a))))], by simp [hx], ?_⟩
      have p0 : gIx (pr p) (.int 0) = some (.int (p.1 : Int)) := rfl
      have p1 : gIx (pr p) (.int 1) = some (.int (p.2 : Int)) := rfl
      have rk : gIx (rowD r) (.int (k : Int)) = some (pr p) := by
        show L2.atI (r.map pr) (k : Int) = _
        rw [at_k, List.getElem?_map, hp]
        rfl
      have wg1 := wok_get S.wk (i := a) (by omega)
      have ai : L2.atI (ils (iz as)) (k : Int) = some (.int (a : Int)) := by
        rw [at_k]
        simp [iz, ha]
      have av := atI_map (V := wd) (W := wordsOf n js) (i := a) (by omega)
      have rg : rg2 (.d (.int (p.1 : Int))) (.d (.int (p.2 : Int))) = fun s => Dl.ret (ils (iz (List.range' p.1 (p.2 - p.1)))) s := by
        funext s
        rw [u_rg2 (by omega) (by omega) (by omega) (by omega), show ((p.2 : Int) - (p.1 : Int)).toNat = p.2 - p.1 by omega, rngD_iz]
      have ge : gEq true (.list (ils (g.key (wg (wordsOf n js) a)))) (.list (ils (iz (List.range' p.1 (p.2 - p.1))))) = some (.bool (!(pk g.key (wordsOf n js) as r k))) := by
        rw [g_eq (sh_ilsL _) (sh_ilsL _), eqv_ilsL]
        unfold pk
        rw [ha, hp]
        simp
      have q1 := eqw1 g
      have q2 := eqw2 g
      have so : gSrt [wd (wg (wordsOf n js) a)] = some (ils (sortI (iz (wg (wordsOf n js) a)))) := by
        unfold wd gSrt
        simp only [ints_ils, Option.map_some]
      have st : gSetS [wd (wg (wordsOf n js) a)] = some (ils (uniqI (iz (wg (wordsOf n js) a)))) := by
        unfold wd gSetS
        simp only [ints_ils]
        rw [if_pos (by simp [iz]; omega)]
      refine ⟨fun q => ⟨?_, _, _, fr_im, fr_im, rfl⟩, fun q => ⟨?_, _, _, rfl⟩⟩
      · rw [q] at ge
        cases g <;> simp [lp__law_first_wrong_0, p0, p1, rk, Dl.dist, hasO, hy, h2, ai, av, Gk.key, q1, q2, so, st, rg, -at_k, -List.map_map] at ge ⊢ <;> simp [ge, wd]
      · rw [q] at ge
        cases g <;> simp [lp__law_first_wrong_0, p0, p1, rk, Dl.dist, hasO, hy, h2, ai, av, Gk.key, q1, q2, so, st, rg, -at_k, -List.map_map] at ge ⊢ <;> simp [ge, wd]) [.im pl, .im (rowD r), .im (.str g.w), .im (.list ((wordsOf n js).map wd)), .un, .un] ⟨_, _, fr_un, fr_un, rfl⟩
  rw [rng_len] at key
  have hr : rng1 [.d (.int ((r.map pr).length : Int))] = fun s => Dl.ret (rngD 0 r.length) s := by
    funext s
    rw [List.length_map, u_rng1 (by have := S.rl; omega)]
  rcases key with ⟨f, n', e, x, y, hx, hy, hn⟩ | ⟨k, n', f, e, x, y, hn⟩
  · subst hn
    rw [f]
    unfold rowD at e ⊢
    simp [Dl.dist, hasO, v, e, mrg, u_rng1 (k := r.length) (by have := S.rl; omega)]
  · subst hn
    rw [f]
    unfold rowD at e ⊢
    simp [Dl.dist, hasO, v, e, mrg, u_rng1 (k := r.length) (by have := S.rl; omega)]
end
end K6
set_option Elab.async false
set_option linter.all false
set_option maxRecDepth 100000
namespace K6
open PySem Dl
section
variable {n : Nat} {js : List (Nat × Nat)} {as : List Nat} {r : List (Nat × Nat)}
theorem planOk (S : Sc n js as r) : PlanOk (n : Int) (js.map pr) (ils (iz as)) := by
  refine ⟨fun k d hd => ?_, fun k d hd => ?_⟩
  · rw [List.getElem?_map] at hd
    obtain ⟨p, hp, rfl⟩ := Option.map_eq_some_iff.mp hd
    have := goodJ_get S.gj hp
    simp [pr, isJn, isNam]
    omega
  · unfold ils iz at hd
    rw [List.map_map, List.getElem?_map] at hd
    obtain ⟨a, ha, rfl⟩ := Option.map_eq_some_iff.mp hd
    have := S.aw a (List.mem_of_getElem? ha)
    simp [isNam]
    omega
theorem v_is_plan (S : Sc n js as r) : f_is_plan [.im (planD n js as)] = okd (.bool true) [.im (planD n js as)] := v_is_plan_t (by have := S.n1; omega) (planOk S)
theorem v_is_asks (S : Sc n js as r) : f_is_asks [.im (rowD r)] = okd (.bool true) [.im (rowD r)] := v_is_asks_t S.ro
theorem v_need_both (S : Sc n js as r) : f__need_both [.im (planD n js as), .im (rowD r)] = okd .none [.im (planD n js as), .im (rowD r)] := by
  simp [f__need_both, m__need_both, v_is_plan S, v_is_asks S, Dl.dist, hasO, v_need_t, mrg]
theorem b_plan {d x : PD} (h : f_is_plan [.im d] = okd (.bool false) [.im d]) : f__need_both [.im d, .im x] = some (.error (nuE "plan", [.im d, .im x])) := by
  simp [f__need_both, m__need_both, h, Dl.dist, hasO, v_need_f]
theorem b_asks {d x : PD} (h : f_is_plan [.im d] = okd (.bool true) [.im d]) (h2 : f_is_asks [.im x] = okd (.bool false) [.im x]) : f__need_both [.im d, .im x] = some (.error (nuE "asks", [.im d, .im x])) := by
  simp [f__need_both, m__need_both, h, h2, Dl.dist, hasO, v_need_f, v_need_t]
def fwB (n : Nat) (js : List (Nat × Nat)) (as : List Nat) (r : List (Nat × Nat)) (g : Gk) : PD := fwR (pk g.key (wordsOf n js) as r) r.length
def rtB (n : Nat) (js : List (Nat × Nat)) (as : List Nat) (r : List (Nat × Nat)) (g : Gk) : Bool := suitB n as r && gIsN (fwB n js as r g)
theorem fwR_form (P : Nat → Bool) (m : Nat) : fwR P m = .none ∨ ∃ k : Nat, fwR P m = .int (k : Int) := by
  unfold fwR
  split
  · exact .inr ⟨_, rfl⟩
  · exact .inl rfl
theorem v_is_right (S : Sc n js as r) (g : Gk) : f__is_right [.im (planD n js as), .im (rowD r), .im (.str g.w)] = okd (.bool (rtB n js as r g)) [.im (planD n js as), .im (rowD r), .im (.str g.w)] := by
  unfold f__is_right m__is_right
  by_cases h : suitB n as r = true
  · simp [v_suits_asks S.rl, h, Dl.dist, hasO, v_fwg S g h, ArI, rtB, fwB, mrg]
  · simp only [Bool.not_eq_true] at h
    simp [v_suits_asks S.rl, h, Dl.dist, hasO, ArI, rtB, mrg]
def gradeD (a c s : Bool) : PD := if a then .str "all" else if c then .str "commuting" else if s then .str "same" else .none
theorem v_grade_of (S : Sc n js as r) : f_grade_of [.im (planD n js as), .im (rowD r)] = okd (gradeD (rtB n js as r .A) (rtB n js as r .C) (rtB n js as r .S)) [.im (planD n js as), .im (rowD r)] := by
  have rA := v_is_right S .A
  have rC := v_is_right S .C
  have rS := v_is_right S .S
  unfold f_grade_of m_grade_of
  generalize rtB n js as r .A = a at rA ⊢
  generalize rtB n js as r .C = c at rC ⊢
  generalize rtB n js as r .S = s at rS ⊢
  simp only [Gk.w] at rA rC rS
  cases a <;> cases c <;> cases s <;> simp [v_need_both S, Dl.dist, hasO, c_GRADES, loopF, Dl.lp, nxt, lp_grade_of_0, rA, rC, rS, gradeD, mrg]
theorem v_suits (S : Sc n js as r) : f_suits [.im (planD n js as), .im (rowD r)] = okd (.bool (suitB n as r)) [.im (planD n js as), .im (rowD r)] := by
  simp [f_suits, m_suits, v_need_both S, Dl.dist, hasO, v_suits_asks S.rl, mrg]
theorem v_right_all (S : Sc n js as r) : f_right_all [.im (planD n js as), .im (rowD r)] = okd (.bool (rtB n js as r .A)) [.im (planD n js as), .im (rowD r)] := by
  have h := v_is_right S .A
  simp only [Gk.w] at h
  simp [f_right_all, m_right_all, v_need_both S, Dl.dist, hasO, h, mrg]
theorem v_right_commuting (S : Sc n js as r) : f_right_commuting [.im (planD n js as), .im (rowD r)] = okd (.bool (rtB n js as r .C)) [.im (planD n js as), .im (rowD r)] := by
  have h := v_is_right S .C
  simp only [Gk.w] at h
  simp [f_right_commuting, m_right_commuting, v_need_both S, Dl.dist, hasO, h, mrg]
theorem v_right_same (S : Sc n js as r) : f_right_same [.im (planD n js as), .im (rowD r)] = okd (.bool (rtB n js as r .S)) [.im (planD n js as), .im (rowD r)] := by
  have h := v_is_right S .S
  simp only [Gk.w] at h
  simp [f_right_same, m_right_same, v_need_both S, Dl.dist, hasO, h, mrg]
def Idle (o : PD) : Prop := f_is_operation [.im o] = okd (.bool true) [.im o] ∧ ∃ d, f_idle_pair [.im o] = okd d [.im o] ∧ gIsN d = false
def NoIdle (o : PD) : Prop := f_is_operation [.im o] = okd (.bool false) [.im o] ∨ (f_is_operation [.im o] = okd (.bool true) [.im o] ∧ f_idle_pair [.im o] = okd .none [.im o])
theorem v_right_idle (S : Sc n js as r) {o : PD} (h : Idle o) : f_right_idle [.im (planD n js as), .im (rowD r), .im o] = okd (.bool (rtB n js as r .S)) [.im (planD n js as), .im (rowD r), .im o] := by
  obtain ⟨h1, d, h2, h3⟩ := h
  have h := v_is_right S .S
  simp only [Gk.w] at h
  simp [f_right_idle, m_right_idle, v_need_both S, Dl.dist, hasO, h1, h2, h3, ArI, v_need_t, h, mrg]
theorem b_idle (S : Sc n js as r) {o : PD} (h : NoIdle o) : f_right_idle [.im (planD n js as), .im (rowD r), .im o] = some (.error (nuE "operation", [.im (planD n js as), .im (rowD r), .im o])) := by
  rcases h with h1 | ⟨h1, h2⟩
  · simp [f_right_idle, m_right_idle, v_need_both S, Dl.dist, hasO, h1, ArI, v_need_f]
  · simp [f_right_idle, m_right_idle, v_need_both S, Dl.dist, hasO, h1, h2, gIsN, ArI, v_need_f]
theorem v_wrong_at (S : Sc n js as r) (g : Gk) (hs : suitB n as r = true) : f_wrong_at [.im (planD n js as), .im (rowD r), .im (.str g.w)] = okd (fwB n js as r g) [.im (planD n js as), .im (rowD r), .im (.str g.w)] := by
  have i : gIn false (.str g.w) c_GRADES = some (.bool true) := by
    cases g <;> (unfold gIn c_GRADES; dsimp only; rw [if_pos (by decide +kernel)]; exact congrArg (fun b => some (PyData.bool b)) (by decide +kernel))
  have ns : f__need_suiting [.im (planD n js as), .im (rowD r)] = okd .none [.im (planD n js as), .im (rowD r)] := by
    simp [f__need_suiting, m__need_suiting, v_is_plan S, v_is_asks S, Dl.dist, hasO, v_need_t, v_suits_asks S.rl, hs, mrg]
  simp [f_wrong_at, m_wrong_at, ns, i, Dl.dist, hasO, v_need_t, v_fwg S g hs, fwB, mrg]
theorem b_wrong_suit (S : Sc n js as r) {x : PD} (hs : suitB n as r = false) : f_wrong_at [.im (planD n js as), .im (rowD r), .im x] = some (.error (nuE "asks", [.im (planD n js as), .im (rowD r), .im x])) := by
  have ns : f__need_suiting [.im (planD n js as), .im (rowD r)] = some (.error (nuE "asks", [.im (planD n js as), .im (rowD r)])) := by
    simp [f__need_suiting, m__need_suiting, v_is_plan S, v_is_asks S, Dl.dist, hasO, v_need_t, v_need_f, v_suits_asks S.rl, hs, mrg]
  simp [f_wrong_at, m_wrong_at, ns, Dl.dist, hasO]
theorem b_wrong_grade (S : Sc n js as r) {x : PD} (hs : suitB n as r = true) (hx : gIn false x c_GRADES = some (.bool false)) : f_wrong_at [.im (planD n js as), .im (rowD r), .im x] = some (.error (nuE "grade", [.im (planD n js as), .im (rowD r), .im x])) := by
  have ns : f__need_suiting [.im (planD n js as), .im (rowD r)] = okd .none [.im (planD n js as), .im (rowD r)] := by
    simp [f__need_suiting, m__need_suiting, v_is_plan S, v_is_asks S, Dl.dist, hasO, v_need_t, v_suits_asks S.rl, hs, mrg]
  simp [f_wrong_at, m_wrong_at, ns, hx, Dl.dist, hasO, v_need_f]
theorem b_wrong_plan {d x z : PD} (h : f_is_plan [.im d] = okd (.bool false) [.im d]) : f_wrong_at [.im d, .im x, .im z] = some (.error (nuE "plan", [.im d, .im x, .im z])) := by
  have ns : f__need_suiting [.im d, .im x] = some (.error (nuE "plan", [.im d, .im x])) := by
    simp [f__need_suiting, m__need_suiting, h, Dl.dist, hasO, v_need_f]
  simp [f_wrong_at, m_wrong_at, ns, Dl.dist, hasO]
theorem b_wrong_asks {d x z : PD} (h : f_is_plan [.im d] = okd (.bool true) [.im d]) (h2 : f_is_asks [.im x] = okd (.bool false) [.im x]) : f_wrong_at [.im d, .im x, .im z] = some (.error (nuE "asks", [.im d, .im x, .im z])) := by
  have ns : f__need_suiting [.im d, .im x] = some (.error (nuE "asks", [.im d, .im x])) := by
    simp [f__need_suiting, m__need_suiting, h, h2, Dl.dist, hasO, v_need_f, v_need_t]
  simp [f_wrong_at, m_wrong_at, ns, Dl.dist, hasO]
def isAtom : PD → Bool
  | .none => true
  | .bool _ => true
  | .int _ => true
  | .str z => SeqAt.shaped (.str z)
  | _ => false
theorem eqv_str (z : Str) : PyData.eqv (.str z) (.str z) = true := by simp [PyData.eqv]
theorem same_atom {f : Nv → Rs Rv} {d : PD} (h : isAtom d = true) : fr__law_same f [.im d, .im d] = okd (.bool true) [.im d, .im d] := by
  unfold fr__law_same m__law_same
  match d with
  | .none => simp [ArI, gIsN, mrg]
  | .bool true => simp [ArI, gIsN, gIsB, isBv, mrg]
  | .bool false => simp [ArI, gIsN, gIsB, isBv, mrg]
  | .int i => simp [ArI, gIsN, gIsB, isBv, isiD, tyD, mrg]
  | .str z =>
    have e : gEq false (.str z) (.str z) = some (.bool true) := by rw [g_eq h h, eqv_str]; rfl
    simp [ArI, gIsN, gIsB, isBv, isiD, tyD, mrg, e]
  | .list _ => cases h
  | .tuple _ => cases h
  | .dict _ => cases h
theorem same_tup {f : Nv → Rs Rv} {ds : List PD} (h : ∀ d ∈ ds, f [.im d, .im d] = okd (.bool true) [.im d, .im d]) (hl : ds.length ≤ 1000) : fr__law_same f [.im (.tuple ds), .im (.tuple ds)] = okd (.bool true) [.im (.tuple ds), .im (.tuple ds)] := by
  unfold fr__law_same m__law_same
  have key := loop_idx (tg := gN 2) (b := lp__law_same_0 f) (rngD 0 ds.length)
    (fun k s => ∃ x : Sl, Fr x ∧ s = [.im (.tuple ds), .im (.tuple ds), x])
    (fun k d s hd ⟨x, hx, hs⟩ => by
      subst hs
      obtain ⟨hk, rfl⟩ := rng_get hd
      rw [Int.zero_add]
      have hd2 : ds[k]? = some ds[k] := List.getElem?_eq_getElem hk
      have e := h _ (List.mem_of_getElem? hd2)
      generalize ds[k] = d at hd2 e
      refine ⟨[.im (.tuple ds), .im (.tuple ds), .im (.int (k : Int))], [.im (.tuple ds), .im (.tuple ds), .im (.int (k : Int))], by simp [hx], ?_, _, fr_im, rfl⟩
      simp [lp__law_same_0, hd2, e, Dl.dist, hasO]) [.im (.tuple ds), .im (.tuple ds), .un] ⟨_, fr_un, rfl⟩
  obtain ⟨n', e, x, hx, hn⟩ := key
  subst hn
  have g : gEq true (.int (ds.length : Int)) (.int (ds.length : Int)) = some (.bool false) := by
    rw [g_eq (sh_int _) (sh_int _)]
    simp [PyData.eqv]
  simp [ArI, gIsN, gIsB, isBv, isiD, tyD, g, u_rng1 (k := ds.length) (by omega), e, mrg]
theorem law_same_atom {d : PD} (h : isAtom d = true) : f__law_same [.im d, .im d] = okd (.bool true) [.im d, .im d] := same_atom h
theorem law_same_tup {ds : List PD} (h : ∀ d ∈ ds, isAtom d = true) (hl : ds.length ≤ 1000) : f__law_same [.im (.tuple ds), .im (.tuple ds)] = okd (.bool true) [.im (.tuple ds), .im (.tuple ds)] :=
  same_tup (fun d hd => same_atom (h d hd)) hl
def duesD (n : Nat) (js : List (Nat × Nat)) (as : List Nat) (r : List (Nat × Nat)) : List PD :=
  [.bool (suitB n as r), .bool (rtB n js as r .A), .bool (rtB n js as r .C), .bool (rtB n js as r .S), gradeD (rtB n js as r .A) (rtB n js as r .C) (rtB n js as r .S)]
theorem dues_atom : ∀ d ∈ duesD n js as r, isAtom d = true := fun d hd => by
  unfold duesD at hd
  simp only [List.mem_cons, List.not_mem_nil, or_false] at hd
  rcases hd with rfl | rfl | rfl | rfl | rfl <;> try rfl
  cases rtB n js as r .A <;> cases rtB n js as r .C <;> cases rtB n js as r .S <;> first | rfl | (exact (by decide +kernel : SeqAt.shaped (.str "all") = true)) | (exact (by decide +kernel : SeqAt.shaped (.str "commuting") = true)) | (exact (by decide +kernel : SeqAt.shaped (.str "same") = true))
theorem v_told (S : Sc n js as r) (b : Bool) : f__law_told [.im (planD n js as), .im (rowD r), .im (.bool b)] = okd (.tuple (duesD n js as r)) [.im (planD n js as), .im (rowD r), .im (.bool b)] := by
  unfold f__law_told m__law_told duesD
  cases b <;> simp [v_suits S, v_right_all S, v_right_commuting S, v_right_same S, v_grade_of S, Dl.dist, hasO, ArI, line_ok, g_addT, mrg]
theorem v_dues (S : Sc n js as r) : f__law_dues [.im (planD n js as), .im (rowD r)] = okd (.tuple (duesD n js as r)) [.im (planD n js as), .im (rowD r)] := by
  unfold f__law_dues m__law_dues duesD
  have rg : rng1 [.d (.int 3)] = fun s => Dl.ret (rngD 0 3) s := by
    funext s
    exact u_rng1 (k := 3) (by omega)
  have rd : rngD 0 3 = [.int 0, .int 1, .int 2] := rfl
  by_cases h : suitB n as r = true
  · have fA := v_law_fw S .A h
    have fC := v_law_fw S .C h
    have fS := v_law_fw S .S h
    simp only [Gk.w] at fA fC fS
    simp only [rtB, h, Bool.true_and, fwB]
    generalize fwR (pk (Gk.key .A) (wordsOf n js) as r) r.length = a at fA ⊢
    generalize fwR (pk (Gk.key .C) (wordsOf n js) as r) r.length = c at fC ⊢
    generalize fwR (pk (Gk.key .S) (wordsOf n js) as r) r.length = s at fS ⊢
    cases ha : gIsN a <;> cases hc : gIsN c <;> cases hs : gIsN s <;> simp [v_law_suits S.rl, h, Dl.dist, hasO, ArI, line_ok, fA, fC, fS, ha, hc, hs, rg, rd, loopF, Dl.lp, nxt, lp__law_dues_0, gradeD, L2.ixN, L2.atI, mrg]
  · simp only [Bool.not_eq_true] at h
    simp only [rtB, h, Bool.false_and]
    simp [v_law_suits S.rl, h, Dl.dist, hasO, ArI, line_ok, rg, rd, loopF, Dl.lp, nxt, lp__law_dues_0, gradeD, L2.ixN, L2.atI, mrg]
end
end K6
set_option Elab.async false
set_option linter.all false
set_option maxRecDepth 100000
namespace K6
open PySem Dl
def OkSt (a b : Int) : Prop := 0 ≤ a ∧ 0 ≤ b ∧ b < 2147483587
abbrev st (a b : Int) : Ct := .l [.int a, .int b]
theorem v_dr {a b : Int} (h : OkSt a b) (m : Int) (hm : 1 ≤ m) (hm2 : m ≤ 1000) : ∃ (r : Nat) (a' b' : Int), f__law_draw [.ow true (.l [.int a, .int b]), .im (.int m)] = okd (.int (r : Int)) [.ow true (.l [.int a', .int b']), .im (.int m)] ∧ (r : Int) < m ∧ OkSt a' b' := by
  obtain ⟨r, a', b', e, h1, h2, h3, h4, h5⟩ := v_draw a b m h.1 h.2.1 hm hm2 h.2.2
  refine ⟨r.toNat, a', b', ?_, by omega, h3, h4, h5⟩
  rw [Int.toNat_of_nonneg h1]
  exact e
theorem pow12 : gPow (.int 10) (.int 12) = some (.int 1000000000000) := by
  rw [g_pow (by decide) (by decide) (by decide)]
  rfl
def mods : List Int := [2, 3, 6, 1000000000000]
def mapsP (k : Nat) : PD := .tuple [.tuple ((List.range k).map fun i => .int (i : Nat)), .tuple (List.replicate k (.int 0))]
def gridsP (k : Nat) : PD := .tuple [.tuple ((List.range k).map fun i => .tuple ((List.range k).map fun j => .int (if i = j then 1 else 0))), .tuple (List.replicate k (.tuple (List.replicate k (.int 0))))]
theorem i_most : Idle (.tuple [.str "most"]) := ⟨by kernel_rfl, .tuple [.int 0, .int 1], by kernel_rfl, rfl⟩
theorem i_least : Idle (.tuple [.str "least"]) := ⟨by kernel_rfl, .tuple [.int 1, .int 0], by kernel_rfl, rfl⟩
theorem i_or : Idle (.tuple [.str "or"]) := ⟨by kernel_rfl, .tuple [.int 0, .int 1], by kernel_rfl, rfl⟩
theorem i_brackets : Idle (.tuple [.str "brackets"]) := ⟨by kernel_rfl, .tuple [.tuple [.int 0, .int 0], .tuple [.int 1, .int 1]], by kernel_rfl, rfl⟩
theorem i_product : ∀ m ∈ mods, Idle (.tuple [.str "product", .int m]) := fun m hm => by
  simp only [mods, List.mem_cons, List.not_mem_nil, or_false] at hm
  rcases hm with rfl | rfl | rfl | rfl <;> exact ⟨by kernel_rfl, .tuple [.int 1, .int 0], by kernel_rfl, rfl⟩
theorem i_maps : ∀ k : Nat, 2 ≤ k → k ≤ 4 → Idle (.tuple [.str "maps", .int (k : Int)])
  | 2, _, _ => ⟨by kernel_rfl, mapsP 2, by kernel_rfl, rfl⟩
  | 3, _, _ => ⟨by kernel_rfl, mapsP 3, by kernel_rfl, rfl⟩
  | 4, _, _ => ⟨by kernel_rfl, mapsP 4, by kernel_rfl, rfl⟩
theorem i_grids : ∀ k : Nat, 1 ≤ k → k ≤ 3 → ∀ m ∈ mods, Idle (.tuple [.str "grids", .int (k : Int), .int m]) := fun k h1 h2 m hm => by
  simp only [mods, List.mem_cons, List.not_mem_nil, or_false] at hm
  match k, h1, h2 with
  | 1, _, _ => rcases hm with rfl | rfl | rfl | rfl <;> exact ⟨by kernel_rfl, gridsP 1, by kernel_rfl, rfl⟩
  | 2, _, _ => rcases hm with rfl | rfl | rfl | rfl <;> exact ⟨by kernel_rfl, gridsP 2, by kernel_rfl, rfl⟩
  | 3, _, _ => rcases hm with rfl | rfl | rfl | rfl <;> exact ⟨by kernel_rfl, gridsP 3, by kernel_rfl, rfl⟩
theorem mods_get {k : Nat} (h : k < 4) : ∃ m ∈ mods, ([.int 0, .int 1, .int 4, .int 999999999998] : List PD)[k]? = some (.int (m - 2)) ∧ 2 + (m - 2) = m := by
  match k, h with
  | 0, _ => exact ⟨2, by decide, rfl, rfl⟩
  | 1, _ => exact ⟨3, by decide, rfl, rfl⟩
  | 2, _ => exact ⟨6, by decide, rfl, rfl⟩
  | 3, _ => exact ⟨1000000000000, by decide, rfl, rfl⟩
theorem v_idle {a b : Int} (h : OkSt a b) : ∃ (o : PD) (a' b' : Int), f__law_idle [.ow true (st a b)] = okd o [.ow true (st a' b')] ∧ Idle o ∧ OkSt a' b' := by
  obtain ⟨r, a1, b1, e1, h1, k1⟩ := v_dr h 3 (by decide) (by decide)
  obtain ⟨q, a2, b2, e2, h2, k2⟩ := v_dr k1 4 (by decide) (by decide)
  obtain ⟨x, a3, b3, e3, h3, k3⟩ := v_dr k2 7 (by decide) (by decide)
  obtain ⟨m, hm, g, gm⟩ := mods_get (k := q) (by omega)
  have hx : x < 7 := by omega
  have go : ∃ o, ([.tuple [.str "most"], .tuple [.str "least"], .tuple [.str "or"], .tuple [.str "brackets"], .tuple [.str "product", .int m], .tuple [.str "maps", .int (2 + (r : Int))], .tuple [.str "grids", .int (2 + (r : Int) - 1), .int m]] : List PD)[x]? = some o ∧ Idle o := by
    match x, hx with
    | 0, _ => exact ⟨_, rfl, i_most⟩
    | 1, _ => exact ⟨_, rfl, i_least⟩
    | 2, _ => exact ⟨_, rfl, i_or⟩
    | 3, _ => exact ⟨_, rfl, i_brackets⟩
    | 4, _ => exact ⟨_, rfl, i_product m hm⟩
    | 5, _ =>
      have := i_maps (2 + r) (by omega) (by omega)
      rw [Int.natCast_add] at this
      exact ⟨_, rfl, this⟩
    | 6, _ =>
      have := i_grids (1 + r) (by omega) (by omega) m hm
      rw [show ((1 + r : Nat) : Int) = 2 + (r : Int) - 1 by omega] at this
      exact ⟨_, rfl, this⟩
  obtain ⟨o, go, ho⟩ := go
  refine ⟨o, a3, b3, ?_, ho, k3⟩
  unfold f__law_idle m__law_idle
  simp [e1, e2, e3, pow12, g, gm, ArI, line_ok, g_addL, go, Dl.dist, hasO, mrg]
def noIdles : List PD := [.tuple [.str "sum", .int 7], .tuple [.str "sum", .int 1], .tuple [.str "product", .int 1], .tuple [.str "first"], .tuple [.str "last"], .tuple [.str "maps", .int 1], .tuple [.str "grids", .int 2, .int 1], .tuple [.str "spans"],
  .tuple [.str "counts", .int 3], .tuple [.str "or", .int 2], .str "or", .none, .tuple [.str "product", .int 0], .tuple [.str "maps", .bool true], .list [.str "or"], .tuple [.str "most", .int 2], .tuple []]
theorem noIdles_ok : ∀ o ∈ noIdles, NoIdle o := fun o ho => by
  simp only [noIdles, List.mem_cons, List.not_mem_nil, or_false] at ho
  rcases ho with rfl | rfl | rfl | rfl | rfl | rfl | rfl | rfl | rfl | rfl | rfl | rfl | rfl | rfl | rfl | rfl | rfl
  iterate 9 (exact .inr ⟨by kernel_rfl, by kernel_rfl⟩)
  all_goals exact .inl (by kernel_rfl)
theorem v_no_idle {a b : Int} (h : OkSt a b) : ∃ (o : PD) (a' b' : Int), f__law_no_idle [.ow true (st a b)] = okd o [.ow true (st a' b')] ∧ NoIdle o ∧ OkSt a' b' := by
  obtain ⟨r, a1, b1, e1, h1, k1⟩ := v_dr h 17 (by decide) (by decide)
  have hr : r < noIdles.length := by simp [noIdles]; omega
  refine ⟨noIdles[r], a1, b1, ?_, noIdles_ok _ (List.getElem_mem hr), k1⟩
  have g : noIdles[r]? = some noIdles[r] := List.getElem?_eq_getElem hr
  generalize noIdles[r] = o at g
  unfold f__law_no_idle m__law_no_idle
  unfold noIdles at g
  simp [e1, ArI, line_ok, g_addL, g, Dl.dist, hasO, mrg]
end K6
set_option Elab.async false
set_option linter.all false
set_option maxRecDepth 100000
namespace K6
open PySem Dl
def badPlans (n : Int) (JS AS : List PD) : List PD := [.list [.int n, .tuple JS, .tuple AS], .tuple [.int n, .tuple JS], .tuple [.int 0, .tuple JS, .tuple AS], .tuple [.int n, .list JS, .tuple AS], .none, .bool true, .tuple [],
  .tuple [.int n, .tuple JS, .tuple (AS ++ [.int (n + JS.length)])], .tuple [.int n, .tuple JS, .tuple (AS ++ [.bool false])], .tuple [.int n, .tuple JS, .tuple AS, .tuple []],
  .tuple [.int n, .tuple (JS ++ [.tuple [.int 0, .int (n + JS.length)]]), .tuple AS], .tuple [.int n, .tuple (JS ++ [.tuple [.int 0, .bool true]]), .tuple AS]]
theorem snoc_get {α : Type} {l : List α} {x : α} : (l ++ [x])[l.length]? = some x := by simp
theorem badPlans_ok {n : Int} (hn : 1 ≤ n) (JS AS : List PD) : ∀ d ∈ badPlans n JS AS, f_is_plan [.im d] = okd (.bool false) [.im d] := fun d hd => by
  simp only [badPlans, List.mem_cons, List.not_mem_nil, or_false] at hd
  rcases hd with rfl | rfl | rfl | rfl | rfl | rfl | rfl | rfl | rfl | rfl | rfl | rfl
  · exact v_is_plan_n rfl
  · exact v_is_plan_n rfl
  · exact v_is_plan_n rfl
  · exact v_is_plan_n (by simp [noShape, isTup])
  · exact v_is_plan_n rfl
  · exact v_is_plan_n rfl
  · exact v_is_plan_n rfl
  · refine v_is_plan_f hn fun z => ?_
    have := z.2 _ _ snoc_get
    simp [isNam] at this
  · refine v_is_plan_f hn fun z => ?_
    have := z.2 _ _ snoc_get
    simp [isNam] at this
  · exact v_is_plan_n rfl
  · refine v_is_plan_f hn fun z => ?_
    have := z.1 _ _ snoc_get
    simp [isJn, isNam] at this
  · refine v_is_plan_f hn fun z => ?_
    have := z.1 _ _ snoc_get
    simp [isJn, isNam] at this
theorem cut_to2 {ds : List PD} : cutD ds none (some 2) = ds.take 2 := cut_to (k := 2)
theorem v_bad_plan {a b : Int} (h : OkSt a b) {n : Int} (hn : 1 ≤ n) (JS AS : List PD) (hj : JS.length ≤ 1000) (ha : AS.length ≤ 1000) :
    ∃ (d : PD) (a' b' : Int), f__law_bad_plan [.ow true (st a b), .im (.tuple [.int n, .tuple JS, .tuple AS])] = okd d [.ow true (st a' b'), .im (.tuple [.int n, .tuple JS, .tuple AS])] ∧ f_is_plan [.im d] = okd (.bool false) [.im d] ∧ OkSt a' b' := by
  obtain ⟨r, a1, b1, e1, h1, k1⟩ := v_dr h 12 (by decide) (by decide)
  have hr : r < (badPlans n JS AS).length := by simp [badPlans]; omega
  refine ⟨(badPlans n JS AS)[r], a1, b1, ?_, badPlans_ok hn JS AS _ (List.getElem_mem hr), k1⟩
  have g : (badPlans n JS AS)[r]? = some (badPlans n JS AS)[r] := List.getElem?_eq_getElem hr
  generalize (badPlans n JS AS)[r] = o at g
  unfold f__law_bad_plan m__law_bad_plan
  unfold badPlans at g
  have g1 : ∀ x, gAdd (.tuple AS) (.tuple [x]) = some (.tuple (AS ++ [x])) := fun x => g_addT (by simp; omega)
  have g2 : ∀ x, gAdd (.tuple JS) (.tuple [x]) = some (.tuple (JS ++ [x])) := fun x => g_addT (by simp; omega)
  have i2 : ∀ x y z : PD, L2.atI [x, y, z] 2 = some z := fun _ _ _ => rfl
  simp [e1, ArI, line_ok, g_addL, g_addT, g1, g2, cut_to2, i2, g, Dl.dist, hasO, mrg]
def badRows (RS : List PD) : List PD := [.list RS, .tuple [.tuple [.int 1, .int 2], .tuple [.int 0, .int 2]], .tuple [.tuple [.int 0, .int 0]], .tuple [.tuple [.int 1, .int 0]], .tuple [.tuple [.bool true, .int 2]], .tuple [.tuple [.int 0, .int 1], .tuple [.int 0, .int 1]], .none, .tuple [.tuple [.int 0, .int 1, .int 2]],
  .tuple [.tuple [.int (-1), .int 1]], .str "0-1", .int 0, .bool true, .tuple [.list [.int 0, .int 1]], .tuple (RS ++ [.tuple [.int 0, .int 1, .int 2]]), .tuple (RS ++ [.none]), .tuple [.tuple [.int 0, .bool false]]]
theorem badRows_ok (RS : List PD) : ∀ d ∈ badRows RS, f_is_asks [.im d] = okd (.bool false) [.im d] := fun d hd => by
  simp only [badRows, List.mem_cons, List.not_mem_nil, or_false] at hd
  rcases hd with rfl | rfl | rfl | rfl | rfl | rfl | rfl | rfl | rfl | rfl | rfl | rfl | rfl | rfl | rfl | rfl
  · exact v_is_asks_n rfl
  · exact v_is_asks_f fun z => absurd (z.2 0 _ _ rfl rfl) (by decide)
  · exact v_is_asks_f fun z => absurd (z.1 0 _ rfl) (by decide)
  · exact v_is_asks_f fun z => absurd (z.1 0 _ rfl) (by decide)
  · exact v_is_asks_f fun z => absurd (z.1 0 _ rfl) (by decide)
  · exact v_is_asks_f fun z => absurd (z.2 0 _ _ rfl rfl) (by decide)
  · exact v_is_asks_n rfl
  · exact v_is_asks_f fun z => absurd (z.1 0 _ rfl) (by decide)
  · exact v_is_asks_f fun z => absurd (z.1 0 _ rfl) (by decide)
  · exact v_is_asks_n rfl
  · exact v_is_asks_n rfl
  · exact v_is_asks_n rfl
  · exact v_is_asks_f fun z => absurd (z.1 0 _ rfl) (by decide)
  · exact v_is_asks_f fun z => absurd (z.1 _ _ snoc_get) (by decide)
  · exact v_is_asks_f fun z => absurd (z.1 _ _ snoc_get) (by decide)
  · exact v_is_asks_f fun z => absurd (z.1 0 _ rfl) (by decide)
theorem v_bad_row {a b : Int} (h : OkSt a b) (RS : List PD) (hj : RS.length ≤ 1000) :
    ∃ (d : PD) (a' b' : Int), f__law_bad_row [.ow true (st a b), .im (.tuple RS)] = okd d [.ow true (st a' b'), .im (.tuple RS)] ∧ f_is_asks [.im d] = okd (.bool false) [.im d] ∧ OkSt a' b' := by
  obtain ⟨r, a1, b1, e1, h1, k1⟩ := v_dr h 16 (by decide) (by decide)
  have hr : r < (badRows RS).length := by simp [badRows]; omega
  refine ⟨(badRows RS)[r], a1, b1, ?_, badRows_ok RS _ (List.getElem_mem hr), k1⟩
  have g : (badRows RS)[r]? = some (badRows RS)[r] := List.getElem?_eq_getElem hr
  generalize (badRows RS)[r] = o at g
  unfold f__law_bad_row m__law_bad_row
  unfold badRows at g
  have g2 : ∀ x, gAdd (.tuple RS) (.tuple [x]) = some (.tuple (RS ++ [x])) := fun x => g_addT (by simp; omega)
  simp [e1, ArI, line_ok, g_addL, g2, g, Dl.dist, hasO, mrg]
def sayD (z : Str) : PD := .tuple [.str z, .int (-1)]
theorem try_err {fb : Nv → RS} {n n1 : Nv} {z : Str} (h : fb n = some (.error (nuE z, n1))) (h1 : noOw n1 = true) (h2 : n1.length = 5) : sTry2 4 "NotUsable" "word" "at" fb n = some (.ok (.rt (.d (sayD z)), n1.set 4 .un)) := by
  unfold sTry2
  rw [h]
  dsimp only
  have c : (decide ((nuE z).nm = "NotUsable") && noOw n1 && decide (4 < n1.length)) = true := by
    rw [h1, h2]
    simp [nuE]
  rw [if_pos c]
  rfl
section
variable {d x t : PD} {z : Str}
theorem refuse1 {f : Nv → Rs Rv} (hf : f [.im d, .im x] = some (.error (nuE z, [.im d, .im x]))) {n : Nv} (hn : n = [.im (.int k), .im d, .im x, .im t, .un]) : sExpr (eCall f (aCons (eV 1) (aCons (eV 2) aNil))) n = some (.error (nuE z, n)) := by
  subst hn
  simp [Dl.dist, hasO, hf]
theorem refuse2 {f : Nv → Rs Rv} (hf : f [.im d, .im x, .im t] = some (.error (nuE z, [.im d, .im x, .im t]))) {n : Nv} (hn : n = [.im (.int k), .im d, .im x, .im t, .un]) : sExpr (eCall f (aCons (eV 1) (aCons (eV 2) (aCons (eV 3) aNil)))) n = some (.error (nuE z, n)) := by
  subst hn
  simp [Dl.dist, hasO, hf]
theorem ref_k (k : Nat) (hk : k < 7) (h0 : k = 0 → f_suits [.im d, .im x] = some (.error (nuE z, [.im d, .im x]))) (h1 : k = 1 → f_right_all [.im d, .im x] = some (.error (nuE z, [.im d, .im x]))) (h2 : k = 2 → f_right_commuting [.im d, .im x] = some (.error (nuE z, [.im d, .im x])))
    (h3 : k = 3 → f_right_same [.im d, .im x] = some (.error (nuE z, [.im d, .im x]))) (h4 : k = 4 → f_grade_of [.im d, .im x] = some (.error (nuE z, [.im d, .im x, .un]))) (h5 : k = 5 → f_right_idle [.im d, .im x, .im t] = some (.error (nuE z, [.im d, .im x, .im t]))) (h6 : k = 6 → f_wrong_at [.im d, .im x, .im t] = some (.error (nuE z, [.im d, .im x, .im t]))) :
    f__law_refused [.im (.int (k : Int)), .im d, .im x, .im t] = okd (sayD z) [.im (.int (k : Int)), .im d, .im x, .im t] := by
  unfold f__law_refused m__law_refused
  simp only [u_ary, u_body, List.length_cons, List.length_nil, List.cons_append, List.nil_append, List.replicate, u_seq, if_true, Nat.reduceAdd]
  have tr := fun (fb : Nv → RS) (h : fb [.im (.int (k : Int)), .im d, .im x, .im t, .un] = some (.error (nuE z, [.im (.int (k : Int)), .im d, .im x, .im t, .un]))) => try_err h rfl rfl
  rw [tr]
  · rfl
  · match k, hk with
    | 0, _ => simp [Dl.dist, hasO, h0]
    | 1, _ => simp [Dl.dist, hasO, h1]
    | 2, _ => simp [Dl.dist, hasO, h2]
    | 3, _ => simp [Dl.dist, hasO, h3]
    | 4, _ => simp [Dl.dist, hasO, h4]
    | 5, _ => simp [Dl.dist, hasO, h5]
    | 6, _ => simp [Dl.dist, hasO, h6]
theorem ref_all (k : Nat) (hk : k < 7) (h : f__need_both [.im d, .im x] = some (.error (nuE z, [.im d, .im x]))) (hw : f_wrong_at [.im d, .im x, .im t] = some (.error (nuE z, [.im d, .im x, .im t]))) :
    f__law_refused [.im (.int (k : Int)), .im d, .im x, .im t] = okd (sayD z) [.im (.int (k : Int)), .im d, .im x, .im t] :=
  ref_k k hk (fun _ => by simp [f_suits, m_suits, h, Dl.dist, hasO]) (fun _ => by simp [f_right_all, m_right_all, h, Dl.dist, hasO]) (fun _ => by simp [f_right_commuting, m_right_commuting, h, Dl.dist, hasO]) (fun _ => by simp [f_right_same, m_right_same, h, Dl.dist, hasO]) (fun _ => by simp [f_grade_of, m_grade_of, h, Dl.dist, hasO]) (fun _ => by simp [f_right_idle, m_right_idle, h, Dl.dist, hasO]) fun _ => hw
theorem same_say (h : SeqAt.shaped (.str z) = true) : f__law_same [.im (sayD z), .im (.tuple [.str z, .int (-1)])] = okd (.bool true) [.im (sayD z), .im (sayD z)] :=
  law_same_tup (ds := [.str z, .int (-1)]) (fun d hd => by
    simp only [List.mem_cons, List.not_mem_nil, or_false] at hd
    rcases hd with rfl | rfl
    · exact h
    · rfl) (by simp)
end
section
variable {n : Nat} {js : List (Nat × Nat)} {as : List Nat} {r : List (Nat × Nat)}
def badGrades : List PD := [.str "ALL", .str "", .none, .int 0, .bool true, .tuple [.str "all"], .str "every"]
theorem badGrades_ok : ∀ d ∈ badGrades, gIn false d c_GRADES = some (.bool false) := fun d hd => by
  simp only [badGrades, List.mem_cons, List.not_mem_nil, or_false] at hd
  rcases hd with rfl | rfl | rfl | rfl | rfl | rfl | rfl <;> (unfold gIn c_GRADES; dsimp only; rw [if_pos (by decide +kernel)]; exact congrArg (fun b => some (PyData.bool b)) (by decide +kernel))
theorem v_refusals (S : Sc n js as r) {a b : Int} (h : OkSt a b) : ∃ a' b' : Int, f__law_refusals [.ow true (st a b), .im (planD n js as), .im (rowD r)] = okd (.bool true) [.ow true (st a' b'), .im (planD n js as), .im (rowD r)] ∧ OkSt a' b' := by
  have n1 := S.n1
  obtain ⟨odd, a1, b1, e1, p1, k1⟩ := v_bad_plan h (n := (n : Int)) (by omega) (js.map pr) (ils (iz as)) (by simpa using S.jl) (by have := S.al; simp [iz]; omega)
  obtain ⟨wor, a2, b2, e2, p2, k2⟩ := v_bad_row k1 (r.map pr) (by have := S.rl; simp; omega)
  obtain ⟨thr, a3, b3, e3, p3, k3⟩ := v_no_idle k2
  have e1 : f__law_bad_plan [.ow true (st a b), .im (planD n js as)] = okd odd [.ow true (st a1 b1), .im (planD n js as)] := e1
  have e2 : f__law_bad_row [.ow true (st a1 b1), .im (rowD r)] = okd wor [.ow true (st a2 b2), .im (rowD r)] := e2
  have pp := v_is_plan S
  have pa := v_is_asks S
  have sP : SeqAt.shaped (.str "plan") = true := by decide +kernel
  have sA : SeqAt.shaped (.str "asks") = true := by decide +kernel
  have sO : SeqAt.shaped (.str "operation") = true := by decide +kernel
  have sG : SeqAt.shaped (.str "grade") = true := by decide +kernel
  have key := loop_idx (tg := gN 6) (b := lp__law_refusals_0) (rngD 0 7)
    (fun k s => ∃ (x y : Sl) (a b : Int), Fr x ∧ Fr y ∧ OkSt a b ∧ s = [.ow true (st a b), .im (planD n js as), .im (rowD r), .im odd, .im wor, .im thr, x, .un, .un, y])
    (fun k d s hd ⟨x, y, a, b, hx, hy, ok, hs⟩ => by
      subst hs
      obtain ⟨hk, rfl⟩ := rng_get hd
      rw [Int.zero_add]
      obtain ⟨q, a4, b4, e4, h4, k4⟩ := v_dr ok 2 (by decide) (by decide)
      have hq : q = 0 ∨ q = 1 := by omega
      have r1 := fun w => ref_all (d := odd) (x := w) (t := thr) k hk (b_plan p1) (b_wrong_plan p1)
      have r2 := ref_all (d := planD n js as) (x := wor) (t := thr) k hk (b_asks pp p2) (b_wrong_asks pp p2)
      have s1 := same_say sP
      have s2 := same_say sA
      refine ⟨[.ow true (st a b), .im (planD n js as), .im (rowD r), .im odd, .im wor, .im thr, .im (.int (k : Int)), .un, .un, y], [.ow true (st a4 b4), .im (planD n js as), .im (rowD r), .im odd, .im wor, .im thr, .im (.int (k : Int)), .un, .un, .im (if q = 0 then rowD r else wor)], by simp [hx], ?_, _, _, a4, b4, fr_im, fr_im, k4, rfl⟩
      rcases hq with rfl | rfl <;> simp [lp__law_refusals_0, e4, r1, r2, s1, s2, hy, Dl.dist, hasO, ArI, line_ok]) [.ow true (st a3 b3), .im (planD n js as), .im (rowD r), .im odd, .im wor, .im thr, .un, .un, .un, .un] ⟨_, _, a3, b3, fr_un, fr_un, k3, rfl⟩
  obtain ⟨n', e, x, y, a4, b4, hx, hy, k4, hn⟩ := key
  subst hn
  obtain ⟨q, a5, b5, e5, h5, k5⟩ := v_dr k4 7 (by decide) (by decide)
  have rg : rng1 [.d (.int 7)] = fun s => Dl.ret (rngD 0 7) s := by
    funext s
    exact u_rng1 (k := 7) (by omega)
  have r3 : f__law_refused [.im (.int 5), .im (planD n js as), .im (rowD r), .im thr] = okd (sayD "operation") [.im (.int 5), .im (planD n js as), .im (rowD r), .im thr] := ref_k (d := planD n js as) (x := rowD r) (t := thr) (z := "operation") 5 (by omega) (by omega) (by omega) (by omega) (by omega) (by omega) (fun _ => b_idle S p3) (by omega)
  have hq : q < badGrades.length := by simp [badGrades]; omega
  have g := badGrades_ok _ (List.getElem_mem hq)
  have gg : badGrades[q]? = some badGrades[q] := List.getElem?_eq_getElem hq
  generalize badGrades[q] = bad at g gg
  refine ⟨a5, b5, ?_, k5⟩
  unfold f__law_refusals m__law_refusals
  unfold badGrades at gg
  have s3 := same_say sO
  by_cases hs : suitB n as r = true
  · have r4 : f__law_refused [.im (.int 6), .im (planD n js as), .im (rowD r), .im bad] = okd (sayD "grade") [.im (.int 6), .im (planD n js as), .im (rowD r), .im bad] := ref_k (d := planD n js as) (x := rowD r) (t := bad) (z := "grade") 6 (by omega) (by omega) (by omega) (by omega) (by omega) (by omega) (by omega) (fun _ => b_wrong_grade S hs g)
    have s4 := same_say sG
    simp [e1, e2, e3, rg, e, r3, s3, e5, gg, hx, hy, v_law_suits S.rl, hs, r4, s4, Dl.dist, hasO, ArI, line_ok, mrg]
  · simp only [Bool.not_eq_true] at hs
    have r4 : f__law_refused [.im (.int 6), .im (planD n js as), .im (rowD r), .im bad] = okd (sayD "asks") [.im (.int 6), .im (planD n js as), .im (rowD r), .im bad] := ref_k (d := planD n js as) (x := rowD r) (t := bad) (z := "asks") 6 (by omega) (by omega) (by omega) (by omega) (by omega) (by omega) (by omega) (fun _ => b_wrong_suit S hs)
    have r5 : f__law_refused [.im (.int 6), .im (planD n js as), .im (rowD r), .im (.str "same")] = okd (sayD "asks") [.im (.int 6), .im (planD n js as), .im (rowD r), .im (.str "same")] := ref_k (d := planD n js as) (x := rowD r) (t := .str "same") (z := "asks") 6 (by omega) (by omega) (by omega) (by omega) (by omega) (by omega) (by omega) (fun _ => b_wrong_suit S hs)
    have s4 := same_say sA
    simp [e1, e2, e3, rg, e, r3, s3, e5, gg, hx, hy, v_law_suits S.rl, hs, r4, r5, s4, Dl.dist, hasO, ArI, line_ok, mrg]
end
end K6
set_option Elab.async false
set_option linter.all false
set_option maxRecDepth 100000
namespace K6
open PySem Dl
def bOk (n : Nat) (ps : List (Nat × Nat)) : Prop := ∀ p ∈ ps, p.1 < p.2 ∧ p.2 ≤ n
theorem bOk_snoc {n : Nat} {ps : List (Nat × Nat)} {p : Nat × Nat} (h : bOk n ps) (h1 : p.1 < p.2) (h2 : p.2 ≤ n) : bOk n (ps ++ [p]) := fun q hq => by
  rcases List.mem_append.mp hq with hq | hq
  · exact h q hq
  · simp at hq
    subst hq
    exact ⟨h1, h2⟩
def plt (p q : Nat × Nat) : Prop := p.1 < q.1 ∨ (p.1 = q.1 ∧ p.2 < q.2)
theorem isStr_pr {p : Nat × Nat} (h : p.1 < p.2) : isStr (pr p) = true := by
  simp [pr, isStr]
  omega
theorem ltD_pr {p q : Nat × Nat} (h : plt p q) : ltD (pr p) (pr q) = true := by
  show HT.lexLt [(p.1 : Int), (p.2 : Int)] [(q.1 : Int), (q.2 : Int)] = true
  rw [HT.lexLt_cons, HT.lexLt_cons]
  rcases h with h | ⟨h, h2⟩
  · rw [if_neg (by omega)]
    simp; omega
  · rw [if_pos (by omega), if_neg (by omega)]
    simp; omega
theorem rowOk_of {ps : List (Nat × Nat)} (h : ∀ p ∈ ps, p.1 < p.2) (h2 : ps.Pairwise plt) : RowOk (ps.map pr) := by
  refine ⟨fun k d hd => ?_, fun k d e hd he => ?_⟩
  · rw [List.getElem?_map] at hd
    obtain ⟨p, hp, rfl⟩ := Option.map_eq_some_iff.mp hd
    exact isStr_pr (h p (List.mem_of_getElem? hp))
  · rw [List.getElem?_map] at hd he
    obtain ⟨p, hp, rfl⟩ := Option.map_eq_some_iff.mp hd
    obtain ⟨q, hq, rfl⟩ := Option.map_eq_some_iff.mp he
    obtain ⟨i1, e1⟩ := List.getElem?_eq_some_iff.mp hp
    obtain ⟨i2, e2⟩ := List.getElem?_eq_some_iff.mp hq
    have := List.pairwise_iff_getElem.mp h2 k (k + 1) i1 i2 (by omega)
    rw [e1, e2] at this
    exact ltD_pr this
theorem eqv_pr {p q : Nat × Nat} : PyData.eqv (pr p) (pr q) = decide (p = q) := by
  have := eqv_ilsT [(p.1 : Int), (p.2 : Int)] [(q.1 : Int), (q.2 : Int)]
  rw [show pr p = .tuple (ils [(p.1 : Int), (p.2 : Int)]) from rfl, show pr q = .tuple (ils [(q.1 : Int), (q.2 : Int)]) from rfl, this]
  apply decide_eq_decide.mpr
  constructor
  · intro h
    simp at h
    apply Prod.ext <;> omega
  · rintro rfl; rfl
theorem sh_prs (ps : List (Nat × Nat)) : SeqAt.shaped (.list (ps.map pr)) = true := by
  have l : ∀ ps : List (Nat × Nat), PyData.canLayAll0 (ps.map pr) = true ∧ PyData.depthAll (ps.map pr) ≤ 1 := fun ps => by
    induction ps with
    | nil => simp [PyData.canLayAll0, PyData.depthAll]
    | cons p t ih => simp [pr, PyData.canLayAll0, PyData.canLay0, PyData.depthAll, PyData.depth, ih.1]; have := ih.2; omega
  have := (l ps).2
  simp [SeqAt.shaped, PyData.canLay0, PyData.depth, (l ps).1]
  omega
theorem sh_pr (p : Nat × Nat) : SeqAt.shaped (pr p) = true := sh_ilsT [(p.1 : Int), (p.2 : Int)]
theorem prs_of_pr : ∀ ps : List (Nat × Nat), (∀ p ∈ ps, p.1 < 64 ∧ p.2 < 64) → prsOf (ps.map pr) = some (ps.map fun p => ((p.1 : Int), (p.2 : Int)))
  | [], _ => rfl
  | p :: t, h => by
    have := prs_of_pr t fun q hq => h q (List.mem_cons_of_mem _ hq)
    have h0 := h p (List.mem_cons_self ..)
    rw [List.map_cons, List.map_cons]
    show (if (in64 (p.1 : Int) && in64 (p.2 : Int)) = true then (prsOf (t.map pr)).map (((p.1 : Int), (p.2 : Int)) :: ·) else none) = _
    have i1 : in64 (p.1 : Int) = true := by simp [in64]; omega
    have i2 : in64 (p.2 : Int) = true := by simp [in64]; omega
    rw [i1, i2, this]
    rfl
theorem insU_len {x : Int} : ∀ l : List Int, (insU x l).length ≤ l.length + 1
  | [] => by simp [insU]
  | y :: r => by
    unfold insU
    split
    · simp
    · split
      · simp
      · simp
        exact insU_len r
theorem uniqI_len : ∀ l : List Int, (uniqI l).length ≤ l.length
  | [] => by simp [uniqI]
  | x :: r => by
    unfold uniqI
    have h1 := insU_len (x := x) (uniqI r)
    have h2 := uniqI_len r
    simp only [List.length_cons]
    omega
theorem set_pairs {n : Nat} (hn : n ≤ 6) (ps : List (Nat × Nat)) (h : bOk n ps) (hl : ps.length ≤ 50) : ∃ rr : List (Nat × Nat), gSetP [.list (ps.map pr)] = some (rr.map pr) ∧ bOk n rr ∧ rr.Pairwise plt ∧ rr.length ≤ ps.length := by
  let cs := uniqI ((ps.map fun p => ((p.1 : Int), (p.2 : Int))).map cdP)
  have mem : ∀ c ∈ cs, ∃ p ∈ ps, c = (p.1 : Int) * 64 + (p.2 : Int) := fun c hc => by
    have := mem_uniqI.mp hc
    rw [List.map_map] at this
    obtain ⟨p, hp, e⟩ := List.mem_map.mp this
    exact ⟨p, hp, e.symm⟩
  refine ⟨cs.map fun c => ((c / 64).toNat, (c % 64).toNat), ?_, fun q hq => ?_, ?_, ?_⟩
  · unfold gSetP
    dsimp only
    rw [prs_of_pr ps fun p hp => by have := h p hp; omega]
    dsimp only
    rw [if_pos (by simp; omega)]
    show some (List.map deP cs) = _
    rw [List.map_map]
    congr 1
    apply List.map_congr_left
    intro c hc
    obtain ⟨p, hp, e⟩ := mem c hc
    unfold deP
    simp only [Function.comp, pr]
    rw [Int.toNat_of_nonneg (by omega), Int.toNat_of_nonneg (by omega)]
  · obtain ⟨c, hc, rfl⟩ := List.mem_map.mp hq
    obtain ⟨p, hp, e⟩ := mem c hc
    have := h p hp
    dsimp only
    omega
  · rw [List.pairwise_map]
    have pw : cs.Pairwise (· < ·) := pw_uniqI _
    refine pw.imp_of_mem fun {c d} hc hd hlt => ?_
    obtain ⟨p, hp, e⟩ := mem c hc
    obtain ⟨q, hq, e2⟩ := mem d hd
    have := h p hp
    have := h q hq
    unfold plt
    dsimp only
    omega
  · rw [List.length_map]
    refine Nat.le_trans (uniqI_len _) ?_
    simp
theorem many_get {k : Nat} (h : k < 8) : ∃ m : Nat, ([.int 0, .int 1, .int 2, .int 3, .int 4, .int 5, .int 4, .int 3] : List PD)[k]? = some (.int (m : Int)) ∧ m ≤ 5 := by
  match k, h with
  | 0, _ => exact ⟨0, rfl, by omega⟩
  | 1, _ => exact ⟨1, rfl, by omega⟩
  | 2, _ => exact ⟨2, rfl, by omega⟩
  | 3, _ => exact ⟨3, rfl, by omega⟩
  | 4, _ => exact ⟨4, rfl, by omega⟩
  | 5, _ => exact ⟨5, rfl, by omega⟩
  | 6, _ => exact ⟨4, rfl, by omega⟩
  | 7, _ => exact ⟨3, rfl, by omega⟩
theorem lo_get {k : Nat} (h : k < 5) : ∃ m : Nat, ([.int 0, .int 0, .int 1, .int 1, .int 2] : List PD)[k]? = some (.int (m : Int)) := by
  match k, h with
  | 0, _ => exact ⟨0, rfl⟩
  | 1, _ => exact ⟨0, rfl⟩
  | 2, _ => exact ⟨1, rfl⟩
  | 3, _ => exact ⟨1, rfl⟩
  | 4, _ => exact ⟨2, rfl⟩
theorem hi_get {k : Nat} (h : k < 5) : ∃ m : Nat, ([.int 0, .int 1, .int 1, .int 2, .int 3] : List PD)[k]? = some (.int (m : Int)) := by
  match k, h with
  | 0, _ => exact ⟨0, rfl⟩
  | 1, _ => exact ⟨1, rfl⟩
  | 2, _ => exact ⟨1, rfl⟩
  | 3, _ => exact ⟨2, rfl⟩
  | 4, _ => exact ⟨3, rfl⟩
theorem asks_l0 {n : Nat} (hn : 2 ≤ n) (h6 : n ≤ 6) (many : PD) (m : Nat) (hm : m ≤ 10) {a b : Int} (ok : OkSt a b) :
    ∃ (ps : List (Nat × Nat)) (x4 x6 : Sl) (a' b' : Int), loopF (gN 6) lp__law_asks_0 (rngD 0 m) [.ow true (st a b), .im (.int (n : Int)), .ow false (.l []), .im many, .un, .un, .un] = some (.ok (.nx, [.ow true (st a' b'), .im (.int (n : Int)), .ow false (.l (ps.map pr)), .im many, x4, .un, x6])) ∧ bOk n ps ∧ ps.length = m ∧ OkSt a' b' := by
  have key := loop_idx (tg := gN 6) (b := lp__law_asks_0) (rngD 0 m)
    (fun k s => ∃ (ps : List (Nat × Nat)) (x4 x6 : Sl) (a b : Int), Fr x4 ∧ Fr x6 ∧ OkSt a b ∧ bOk n ps ∧ ps.length = k ∧ s = [.ow true (st a b), .im (.int (n : Int)), .ow false (.l (ps.map pr)), .im many, x4, .un, x6])
    (fun k d s hd ⟨ps, x4, x6, a, b, h4, h6', ok, hb, hl, hs⟩ => by
      subst hs
      obtain ⟨hk, rfl⟩ := rng_get hd
      obtain ⟨q, a1, b1, e1, h1, k1⟩ := v_dr ok (n : Int) (by omega) (by omega)
      obtain ⟨z, a2, b2, e2, h2, k2⟩ := v_dr k1 ((n : Int) - (q : Int)) (by omega) (by omega)
      refine ⟨[.ow true (st a b), .im (.int (n : Int)), .ow false (.l (ps.map pr)), .im many, x4, .un, .im (.int (0 + (k : Int)))], [.ow true (st a2 b2), .im (.int (n : Int)), .ow false (.l ((ps ++ [(q, q + 1 + z)]).map pr)), .im many, .im (.int (q : Int)), .un, .im (.int (0 + (k : Int)))], by simp [h6'], ?_, _, _, _, a2, b2, fr_im, fr_im, k2, bOk_snoc hb (by dsimp only; omega) (by dsimp only; omega), by simp [hl], rfl⟩
      have lo : ltLine ps.length = true := ltl_ok (by omega)
      simp only [lp__law_asks_0, u_seq, u_set]
      simp [e1, e2, h4, lo, ArI, line_ok, pr, Dl.dist, hasO]) _ ⟨[], .un, .un, a, b, fr_un, fr_un, ok, (by intro p hp; cases hp), rfl, rfl⟩
  obtain ⟨n', e, ps, x4, x6, a', b', h4, h6', ok', hb, hl, hs⟩ := key
  rw [rng_len] at hl
  exact ⟨ps, x4, x6, a', b', by rw [← hs]; exact e, hb, hl, ok'⟩
theorem asks_l1 {n : Nat} (hn : 2 ≤ n) (h6 : n ≤ 6) (many : PD) (m : Nat) (hm : m ≤ 10) {a b : Int} (ok : OkSt a b) :
    ∃ (ps : List (Nat × Nat)) (x4 x5 x6 : Sl) (a' b' : Int), loopF (gN 6) lp__law_asks_1 (rngD 0 m) [.ow true (st a b), .im (.int (n : Int)), .ow false (.l []), .im many, .im (.int 0), .im (.int 1), .un] = some (.ok (.nx, [.ow true (st a' b'), .im (.int (n : Int)), .ow false (.l (ps.map pr)), .im many, x4, x5, x6])) ∧ bOk n ps ∧ ps.Pairwise plt ∧ ps.length ≤ m ∧ OkSt a' b' := by
  have key := loop_idx (tg := gN 6) (b := lp__law_asks_1) (rngD 0 m)
    (fun k s => ∃ (ps : List (Nat × Nat)) (lo hi : Nat) (x6 : Sl) (a b : Int), Fr x6 ∧ OkSt a b ∧ bOk n ps ∧ ps.Pairwise plt ∧ ps.length ≤ k ∧ (∀ p ∈ ps, p.1 ≤ lo ∧ p.2 ≤ hi) ∧ lo + 1 ≤ n ∧ hi ≤ n ∧ s = [.ow true (st a b), .im (.int (n : Int)), .ow false (.l (ps.map pr)), .im many, .im (.int (lo : Int)), .im (.int (hi : Int)), x6])
    (fun k d s hd ⟨ps, lo, hi, x6, a, b, h6', ok, hb, hw, hl, hm', l1, l2, hs⟩ => by
      subst hs
      obtain ⟨hk, rfl⟩ := rng_get hd
      obtain ⟨q, a1, b1, e1, h1, k1⟩ := v_dr ok 5 (by omega) (by omega)
      obtain ⟨z, a2, b2, e2, h2, k2⟩ := v_dr k1 5 (by omega) (by omega)
      obtain ⟨u, g1⟩ := lo_get (k := q) (by omega)
      obtain ⟨v, g2⟩ := hi_get (k := z) (by omega)
      let lo' := min (n - 1) (lo + u)
      let hi' := min n (max (lo' + 1) (hi + v))
      have f1 : (if (lo : Int) + (u : Int) < (n : Int) - 1 then (lo : Int) + (u : Int) else (n : Int) - 1) = (lo' : Int) := by
        show _ = ((min (n - 1) (lo + u) : Nat) : Int)
        split <;> omega
      have f2 : (if (if (hi : Int) + (v : Int) > (lo' : Int) + 1 then (hi : Int) + (v : Int) else (lo' : Int) + 1) < (n : Int) then (if (hi : Int) + (v : Int) > (lo' : Int) + 1 then (hi : Int) + (v : Int) else (lo' : Int) + 1) else (n : Int)) = (hi' : Int) := by
        show _ = ((min n (max (lo' + 1) (hi + v)) : Nat) : Int)
        split <;> split <;> omega
      have c1 : lo ≤ lo' ∧ lo' + 1 ≤ n := by
        show lo ≤ min (n - 1) (lo + u) ∧ min (n - 1) (lo + u) + 1 ≤ n
        omega
      have c2 : hi ≤ hi' ∧ hi' ≤ n ∧ lo' < hi' := by
        show hi ≤ min n (max (lo' + 1) (hi + v)) ∧ min n (max (lo' + 1) (hi + v)) ≤ n ∧ lo' < min n (max (lo' + 1) (hi + v))
        omega
      generalize lo' = lo' at f1 f2 c1 c2
      generalize hi' = hi' at f2 c2
      have an : ((ps.map pr).any fun z => PyData.eqv z (pr (lo', hi'))) = decide ((lo', hi') ∈ ps) := by
        rw [List.any_map, Bool.eq_iff_iff, List.any_eq_true, decide_eq_true_eq]
        simp only [Function.comp, eqv_pr, decide_eq_true_eq]
        constructor
        · rintro ⟨p, hp, rfl⟩; exact hp
        · intro h; exact ⟨_, h, rfl⟩
      have gi : gIn true (.tuple [.int (lo' : Int), .int (hi' : Int)]) (.list (ps.map pr)) = some (.bool (!decide ((lo', hi') ∈ ps))) := by
        show gIn true (pr (lo', hi')) (.list (ps.map pr)) = _
        unfold gIn
        dsimp only
        rw [sh_pr, sh_prs, an]
        simp
      have lo_ok : ltLine ps.length = true := ltl_ok (by omega)
      refine ⟨[.ow true (st a b), .im (.int (n : Int)), .ow false (.l (ps.map pr)), .im many, .im (.int (lo : Int)), .im (.int (hi : Int)), .im (.int (0 + (k : Int)))], [.ow true (st a2 b2), .im (.int (n : Int)), .ow false (.l ((if (lo', hi') ∈ ps then ps else ps ++ [(lo', hi')]).map pr)), .im many, .im (.int (lo' : Int)), .im (.int (hi' : Int)), .im (.int (0 + (k : Int)))], by simp [h6'], ?_, _, lo', hi', _, a2, b2, fr_im, k2, ?_, ?_, ?_, ?_, c1.2, c2.2.1, rfl⟩
      · simp only [lp__law_asks_1, u_seq, u_set]
        by_cases hin : (lo', hi') ∈ ps <;> simp [e1, e2, g1, g2, f1, f2, gi, hin, lo_ok, ArI, line_ok, pr, Dl.dist, hasO]
      · split
        · exact hb
        · exact bOk_snoc hb c2.2.2 c2.2.1
      · split
        · exact hw
        · rename_i hin
          rw [List.pairwise_append]
          refine ⟨hw, by simp, fun p hp q hq => ?_⟩
          simp at hq
          subst hq
          have := hm' p hp
          unfold plt
          dsimp only
          by_cases z1 : p.1 < lo'
          · exact .inl z1
          · by_cases z2 : p.2 < hi'
            · exact .inr ⟨by omega, z2⟩
            · exact absurd (show (lo', hi') = p from Prod.ext (by dsimp only; omega) (by dsimp only; omega)) fun e => hin (e ▸ hp)
      · split
        · omega
        · simp; omega
      · intro p hp
        split at hp
        · have := hm' p hp; omega
        · rcases List.mem_append.mp hp with hp | hp
          · have := hm' p hp; omega
          · simp at hp; subst hp; exact ⟨Nat.le_refl _, Nat.le_refl _⟩) _ ⟨[], 0, 1, .un, a, b, fr_un, ok, (by intro p hp; cases hp), .nil, Nat.le_refl _, (by intro p hp; cases hp), by omega, by omega, rfl⟩
  obtain ⟨n', e, ps, lo, hi, x6, a', b', h6', ok', hb, hw, hl, _, _, _, hs⟩ := key
  rw [rng_len] at hl
  exact ⟨ps, _, _, x6, a', b', by rw [← hs]; exact e, hb, hw, hl, ok'⟩
theorem v_asks {n : Nat} (hn : 2 ≤ n) (h6 : n ≤ 6) {a b : Int} (ok : OkSt a b) :
    ∃ (rr : List (Nat × Nat)) (a' b' : Int), f__law_asks [.ow true (st a b), .im (.int (n : Int))] = okd (rowD rr) [.ow true (st a' b'), .im (.int (n : Int))] ∧ bOk n rr ∧ rr.Pairwise plt ∧ rr.length ≤ 7 ∧ OkSt a' b' := by
  obtain ⟨q, a1, b1, e1, h1, k1⟩ := v_dr ok 8 (by omega) (by omega)
  obtain ⟨z, a2, b2, e2, h2, k2⟩ := v_dr k1 4 (by omega) (by omega)
  obtain ⟨m, g1, hm⟩ := many_get (k := q) (by omega)
  unfold f__law_asks m__law_asks
  by_cases hz : z = 0
  · subst hz
    obtain ⟨ps, x4, x6, a3, b3, e, hb, hl, k3⟩ := asks_l0 hn h6 (.int (m : Int)) (m + 2) (by omega) k2
    obtain ⟨rr, gs, rb, rw', rl⟩ := set_pairs h6 ps hb (by omega)
    refine ⟨rr, a3, b3, ?_, rb, rw', by omega, k3⟩
    have rg : rng1 [.d (.int ((m : Int) + 2))] = fun s => Dl.ret (rngD 0 (m + 2)) s := by
      funext s
      exact u_rng1 (k := m + 2) (by omega)
    simp only [u_ary, u_body, List.length_cons, List.length_nil, List.cons_append, List.nil_append, List.replicate, if_true, Nat.reduceAdd, u_seq, u_new]
    simp [e1, e2, g1, ArI, line_ok, rg, e, gs, Dl.dist, hasO, rowD, mrg]
  · obtain ⟨ps, x4, x5, x6, a3, b3, e, hb, hw, hl, k3⟩ := asks_l1 hn h6 (.int (m : Int)) m (by omega) k2
    refine ⟨ps, a3, b3, ?_, hb, hw, by omega, k3⟩
    have rg : rng1 [.d (.int (m : Int))] = fun s => Dl.ret (rngD 0 m) s := by
      funext s
      exact u_rng1 (k := m) (by omega)
    simp only [u_ary, u_body, List.length_cons, List.length_nil, List.cons_append, List.nil_append, List.replicate, if_true, Nat.reduceAdd, u_seq, u_new]
    simp [e1, e2, g1, hz, ArI, line_ok, rg, e, Dl.dist, hasO, rowD, mrg]
end K6
set_option Elab.async false
set_option linter.all false
set_option maxRecDepth 100000
namespace K6
open PySem Dl
theorem shown_small : ∀ e : Nat, e < 6 → (PyData.shown (.int (e : Int))).length ≤ 10
  | 0, _ => by decide +kernel
  | 1, _ => by decide +kernel
  | 2, _ => by decide +kernel
  | 3, _ => by decide +kernel
  | 4, _ => by decide +kernel
  | 5, _ => by decide +kernel
theorem shownAll_len : ∀ w : List Nat, (∀ e ∈ w, e < 6) → ((PyData.shownAll (ils (iz w))).map (·.length)).sum ≤ 10 * w.length ∧ (PyData.shownAll (ils (iz w))).length = w.length
  | [], _ => by simp [iz, PyData.shownAll]
  | e :: t, h => by
    have ih := shownAll_len t fun x hx => h x (List.mem_cons_of_mem _ hx)
    have := shown_small e (h e (List.mem_cons_self ..))
    simp only [iz, ils, List.map_cons, PyData.shownAll, List.sum_cons, List.length_cons] at ih ⊢
    omega
theorem showAll_ok : ∀ w : List Nat, (∀ e ∈ w, e < 6) → PyData.showableAll (ils (iz w)) = true
  | [], _ => by simp [iz, PyData.showableAll]
  | e :: t, h => by
    have ih := showAll_ok t fun x hx => h x (List.mem_cons_of_mem _ hx)
    have he := h e (List.mem_cons_self ..)
    simp only [iz, ils, List.map_cons] at ih ⊢
    rw [PyData.showableAll, ih]
    have : PyData.showable (.int (e : Int)) = true := by
      rw [PyData.showable, decide_eq_true_eq, Int.natAbs_natCast]
      have := Nat.log2_lt (n := e) (k := 1920)
      have h2 : e.log2 ≤ e := by
        rcases Nat.eq_zero_or_pos e with rfl | h
        · decide
        · exact Nat.le_of_lt ((Nat.log2_lt (by omega)).mpr Nat.lt_two_pow_self)
      omega
    rw [this]
    rfl
def sw (w : List Nat) : Str := PyData.shown (wd w)
theorem gStr_ok {w : List Nat} (h : ∀ e ∈ w, e < 6) (hl : w.length ≤ 24) : gStr [wd w] = some (.str (sw w)) := by
  have s1 := sh_ilsL (iz w)
  have s2 : PyData.showable (.list (ils (iz w))) = true := by rw [PyData.showable]; exact showAll_ok w h
  have s3 : lineB (PyData.shown (.list (ils (iz w)))).length = true := by
    refine line_ok ?_
    rw [PyData.shown]
    have h1 := listText_len_le (PyData.shownAll (ils (iz w)))
    have h2 := shownAll_len w h
    omega
  unfold sw wd gStr
  dsimp only
  rw [s1, s2, s3]
  rfl
theorem len_wd {w : List Nat} : gLen [wd w] = some (.int (w.length : Int)) := by
  unfold wd
  rw [g_lenL]
  simp [iz]
theorem add_wd {u v : List Nat} (h : u.length + v.length ≤ 10000) : gAdd (wd u) (wd v) = some (wd (u ++ v)) := by
  unfold wd
  rw [g_addL (by simpa [iz] using h), iz_app]
  simp
theorem wd_one {e : Nat} : wd [e] = .list [.int (e : Int)] := rfl
def PSt (n : Nat) (js : List (Nat × Nat)) (B : Nat) : Prop := GoodJ n js ∧ WOk n 24 (wordsOf n js) ∧ js.length ≤ B
theorem words_pre (n : Nat) (js : List (Nat × Nat)) : ∃ t, wordsOf n js = sgl n ++ t := by
  have pre : ∀ (l : List (Nat × Nat)) (W : List (List Nat)), ∃ t, l.foldl wstep W = W ++ t := fun l => by
    induction l with
    | nil => intro W; exact ⟨[], by simp⟩
    | cons q r ih =>
      intro W
      obtain ⟨t, ht⟩ := ih (wstep W q)
      exact ⟨[wg W q.1 ++ wg W q.2] ++ t, by rw [List.foldl_cons, ht, wstep, List.append_assoc]⟩
  exact pre js (sgl n)
theorem words_one {n e : Nat} {js : List (Nat × Nat)} (h : e < n) : wg (wordsOf n js) e = [e] := by
  obtain ⟨t, ht⟩ := words_pre n js
  unfold wg
  rw [ht, List.getD_eq_getElem?_getD, List.getElem?_append_left (by rw [sgl_len]; exact h)]
  simp [sgl, h]
theorem pst_snoc {n : Nat} {js : List (Nat × Nat)} {B : Nat} (P : PSt n js B) {x y : Nat} (hx : x < n + js.length) (hy : y < n + js.length) (hl : (wg (wordsOf n js) x ++ wg (wordsOf n js) y).length ≤ 24) : PSt n (js ++ [(x, y)]) (B + 1) := by
  obtain ⟨g, w, l⟩ := P
  have wx := wok_get w (i := x) (by rw [words_len]; exact hx)
  have wy := wok_get w (i := y) (by rw [words_len]; exact hy)
  refine ⟨goodJ_snoc g hx hy, ?_, by simp; omega⟩
  rw [wordsOf_snoc]
  refine wok_snoc w (by simp [wx.1]) hl fun e he => ?_
  rcases List.mem_append.mp he with he | he
  · exact wx.2.2 e he
  · exact wy.2.2 e he
theorem pst_mono {n : Nat} {js : List (Nat × Nat)} {B C : Nat} (P : PSt n js B) (h : B ≤ C) : PSt n js C := ⟨P.1, P.2.1, Nat.le_trans P.2.2 h⟩
theorem at_m1 {l : List PD} (h : l ≠ []) : L2.atI l (-1) = l[l.length - 1]? := by
  have hp : 0 < l.length := List.length_pos_iff.mpr h
  unfold L2.atI L2.ixN
  rw [if_neg (by decide), if_pos (by omega)]
  show l[((-1 : Int) + (l.length : Int)).toNat]? = _
  rw [show ((-1 : Int) + (l.length : Int)).toNat = l.length - 1 by omega]
theorem ix_last {w : List Nat} (h : w ≠ []) : ∃ e ∈ w, gIx (wd w) (.int (-1)) = some (.int (e : Int)) := by
  have hp : 0 < w.length := List.length_pos_iff.mpr h
  have hg : w[w.length - 1]? = some w[w.length - 1] := List.getElem?_eq_getElem (by omega)
  refine ⟨w[w.length - 1], List.getElem_mem _, ?_⟩
  show L2.atI (ils (iz w)) (-1) = _
  rw [at_m1 (by simpa [iz] using h)]
  simp [iz, hg]
theorem v_flawed {n B : Nat} {js : List (Nat × Nat)} (h6 : n ≤ 6) (P : PSt n js B) (hB : B ≤ 500) (fl : Nat) (h1 : 1 ≤ fl) (h4 : fl ≤ 4) (l r : Nat) (hl : l < n + js.length) (hr : r < n + js.length) {a b : Int} (ok : OkSt a b) :
    ∃ (x y : Nat) (js' : List (Nat × Nat)) (a' b' : Int), f__law_flawed [.ow true (st a b), .im (.int (fl : Int)), .ow true (.l ((wordsOf n js).map wd)), .ow true (.l (js.map pr)), .im (.int (l : Int)), .im (.int (r : Int))] =
      okd (pr (x, y)) [.ow true (st a' b'), .im (.int (fl : Int)), .ow true (.l ((wordsOf n js').map wd)), .ow true (.l (js'.map pr)), .im (.int (l : Int)), .im (.int (r : Int))] ∧ PSt n js' (B + 1) ∧ x < n + js'.length ∧ y < n + js'.length ∧ js.length ≤ js'.length ∧ OkSt a' b' := by
  have wl : (wordsOf n js).length = n + js.length := words_len
  have jl := P.2.2
  have al := atI_map (V := wd) (W := wordsOf n js) (i := l) (by omega)
  have ar := atI_map (V := wd) (W := wordsOf n js) (i := r) (by omega)
  have wL := wok_get P.2.1 (i := l) (by omega)
  have wR := wok_get P.2.1 (i := r) (by omega)
  have lo1 : ltLine js.length = true := ltl_ok (by omega)
  have lo2 : ltLine (n + js.length) = true := ltl_ok (by omega)
  unfold f__law_flawed m__law_flawed
  have hfl : fl = 1 ∨ fl = 2 ∨ fl = 3 ∨ fl = 4 := by omega
  rcases hfl with rfl | rfl | rfl | rfl
  · refine ⟨r, l, js, a, b, ?_, pst_mono P (by omega), hr, hl, Nat.le_refl _, ok⟩
    simp [ArI, line_ok, pr, mrg]
  · by_cases hc : (wg (wordsOf n js) l).length + (wg (wordsOf n js) r).length < 16
    · have hc' : ((wg (wordsOf n js) l).length : Int) + ((wg (wordsOf n js) r).length : Int) < 16 := by omega
      have ad := add_wd (u := wg (wordsOf n js) l) (v := wg (wordsOf n js) r) (by omega)
      refine ⟨l, n + js.length, js ++ [(l, r)], a, b, ?_, pst_snoc P hl hr (by simp; omega), by simp; omega, by simp, by simp, ok⟩
      simp [ArI, line_ok, pr, mrg, al, ar, len_wd, hc', ad, lo1, lo2, wordsOf_snoc, wl, -at_k]
    · have hc' : ¬ ((wg (wordsOf n js) l).length : Int) + ((wg (wordsOf n js) r).length : Int) < 16 := by omega
      refine ⟨l, l, js, a, b, ?_, pst_mono P (by omega), hl, hl, Nat.le_refl _, ok⟩
      simp [ArI, line_ok, pr, mrg, al, ar, len_wd, hc', -at_k]
  · obtain ⟨e, he, hx⟩ := ix_last wL.1
    have en := wL.2.2 e he
    by_cases hc : (wg (wordsOf n js) l).length + (wg (wordsOf n js) r).length < 16
    · have hc' : ((wg (wordsOf n js) l).length : Int) + ((wg (wordsOf n js) r).length : Int) < 16 := by omega
      have lp : 0 < (wg (wordsOf n js) l).length := List.length_pos_iff.mpr wL.1
      have ad := add_wd (u := [e]) (v := wg (wordsOf n js) r) (by simp; omega)
      rw [wd_one] at ad
      refine ⟨l, n + js.length, js ++ [(e, r)], a, b, ?_, pst_snoc P (by omega) hr (by rw [words_one en]; simp; omega), by simp; omega, by simp, by simp, ok⟩
      simp [ArI, line_ok, pr, mrg, al, ar, len_wd, hc', hx, ad, lo1, lo2, wordsOf_snoc, words_one en, wl, -at_k]
    · have hc' : ¬ ((wg (wordsOf n js) l).length : Int) + ((wg (wordsOf n js) r).length : Int) < 16 := by omega
      refine ⟨l, e, js, a, b, ?_, pst_mono P (by omega), hl, by omega, Nat.le_refl _, ok⟩
      simp [ArI, line_ok, pr, mrg, al, ar, len_wd, hc', hx, -at_k]
  · obtain ⟨q, a1, b1, e1, k1, ok1⟩ := v_dr ok ((n + js.length : Nat) : Int) (by omega) (by omega)
    refine ⟨l, q, js, a1, b1, ?_, pst_mono P (by omega), hl, by omega, Nat.le_refl _, ok1⟩
    rw [← wl] at e1
    simp [ArI, line_ok, pr, mrg, al, ar, e1, Dl.dist, hasO, -at_k]
end K6
set_option Elab.async false
set_option linter.all false
set_option maxRecDepth 100000
namespace K6
open PySem Dl
def tl0 : Nv → RS := (sSeq (sSet 16 (eBin gAdd (eBin gIx (eV 3) (eBin gIx (eV 14) (eC (.int 0)))) (eBin gIx (eV 3) (eBin gIx (eV 14) (eC (.int 1))))))
    (sSeq (sIf (tVal (eBin gGt (eCb gLen (aCons (eV 16) aNil)) (eC (.int 24)))) (sSeq (sSet 16 (eBin gIx (eV 3) (eBin gIx (eV 10) (eV 13))))
    (sDput 8 (eBin gIx (eV 10) (eV 13)) (eCb gStr (aCons (eV 16) aNil)))) (sIf (tOrF (tVal (eDin true 8 (eCb gStr (aCons (eV 16) aNil)))) (tNotF (tOrF (tVal (eV 6)) (tVal (eBin gGt (eCb gLen (aCons (eV 4) aNil)) (eC (.int 11))))))) (sSeq (sDput 8 (eCb gLen (aCons (eV 3) aNil)) (eCb gStr (aCons (eV 16) aNil)))
    (sSeq (sApp 4 (aCons (eV 14) aNil))
    (sApp 3 (aCons (eV 16) aNil)))) sNext))
    (sSet 10 (eBin gAdd (eBin gAdd (eSl (eV 10) pN (pS (eV 13))) (eOf (oLst (aCons (eDget 8 (eCb gStr (aCons (eV 16) aNil))) aNil)))) (eSl (eV 10) (pS (eBin gAdd (eV 13) (eC (.int 2)))) pN)))))
theorem lp0_eq : lp__law_plan_0 = (sSeq (sSet 13 (eCall f__law_draw (aCons (eV 0) (aCons (eBin Dl.gSub (eCb gLen (aCons (eV 10) aNil)) (eC (.int 1))) aNil))))
    (sSeq (sSet 14 (eTup (aCons (eBin gIx (eV 10) (eV 13)) (aCons (eBin gIx (eV 10) (eBin gAdd (eV 13) (eC (.int 1)))) aNil))))
    (sSeq (sSet 15 (eBin gIx (eV 7) (eCall f__law_draw (aCons (eV 0) (aCons (eCb gLen (aCons (eV 7) aNil)) aNil)))))
    (sSeq (sIf (tVal (eBin gGt (eV 15) (eC (.int 0)))) (sSet 14 (eCall f__law_flawed (aCons (eV 0) (aCons (eV 15) (aCons (eV 3) (aCons (eV 4) (aCons (eBin gIx (eV 14) (eC (.int 0))) (aCons (eBin gIx (eV 14) (eC (.int 1))) aNil)))))))) sNext) tl0)))) := rfl
def KOk (kds : List (L2.Key × PD)) (B L : Nat) : Prop := (∀ k d, valD kds k = some d → ∃ i : Nat, d = .int (i : Int) ∧ i < B) ∧ kds.length ≤ L
theorem kok_mono {kds : List (L2.Key × PD)} {B L C M : Nat} (h : KOk kds B L) (h1 : B ≤ C) (h2 : L ≤ M) : KOk kds C M :=
  ⟨fun k d e => by obtain ⟨i, h3, h4⟩ := h.1 k d e; exact ⟨i, h3, by omega⟩, Nat.le_trans h.2 h2⟩
theorem kok_put {kds : List (L2.Key × PD)} {B L : Nat} (h : KOk kds B L) {k : L2.Key} {i : Nat} (hi : i < B) : KOk (putD kds k (.int (i : Int))) B (L + 1) := by
  refine ⟨fun k' d e => ?_, by have := @put_len k (.int (i : Int)) kds; have := h.2; omega⟩
  rcases val_put e with ⟨_, rfl⟩ | e
  · exact ⟨i, rfl, hi⟩
  · exact h.1 k' d e
theorem at_ils {l : List Nat} {i p : Nat} (h : l[i]? = some p) : L2.atI (ils (iz l)) (i : Int) = some (.int (p : Int)) := by
  rw [at_k]
  simp [iz, h]
theorem at_ils1 {l : List Nat} {i p : Nat} (h : l[i + 1]? = some p) : L2.atI (ils (iz l)) ((i : Int) + 1) = some (.int (p : Int)) := by
  rw [show ((i : Int) + 1) = ((i + 1 : Nat) : Int) by omega]
  exact at_ils h
theorem cut_from2 {ds : List PD} {k : Nat} : cutD ds (some ((k : Int) + 2)) none = ds.drop (k + 2) := by
  rw [show ((k : Int) + 2) = ((k + 2 : Nat) : Int) by omega]
  exact cut_from
theorem take_ils {l : List Nat} {k : Nat} : (ils (iz l)).take k = ils (iz (l.take k)) := by simp [iz]
theorem drop_ils {l : List Nat} {k : Nat} : (ils (iz l)).drop k = ils (iz (l.drop k)) := by simp [iz]
theorem add_ils {u v : List Nat} (h : u.length + v.length ≤ 10000) : gAdd (.list (ils (iz u))) (.list (ils (iz v))) = some (.list (ils (iz (u ++ v)))) := add_wd h
def npart (parts : List Nat) (at_ i : Nat) : List Nat := parts.take at_ ++ [i] ++ parts.drop (at_ + 2)
theorem npart_len {parts : List Nat} {at_ i : Nat} (h : at_ + 1 < parts.length) : (npart parts at_ i).length + 1 = parts.length := by
  simp [npart]
  omega
theorem npart_lt {parts : List Nat} {at_ i B : Nat} (h : ∀ p ∈ parts, p < B) (hi : i < B) : ∀ p ∈ npart parts at_ i, p < B := fun p hp => by
  unfold npart at hp
  rcases List.mem_append.mp hp with hp | hp
  · rcases List.mem_append.mp hp with hp | hp
    · exact h p (List.mem_of_mem_take hp)
    · simp at hp; omega
  · exact h p (List.mem_of_mem_drop hp)
abbrev slots17 (S0 : Ct) (n : Nat) (row : PD) (js : List (Nat × Nat)) (AS : List PD) (keep : Bool) (FL : PD) (kds : List (L2.Key × PD)) (ask : PD) (parts : List Nat) (s11 s13 s14 s15 s16 : Sl) : Nv :=
  [.ow true S0, .im (.int (n : Int)), .im row, .ow false (.l ((wordsOf n js).map wd)), .ow false (.l (js.map pr)), .ow false (.l AS), .im (.bool keep), .im FL, .ow false (.m kds), .im ask, .im (.list (ils (iz parts))), s11, .un, s13, s14, s15, s16]
theorem v_tail {n B L : Nat} {js : List (Nat × Nat)} (h6 : n ≤ 6) (P : PSt n js B) (hB : B ≤ 500) {kds : List (L2.Key × PD)} (hk : KOk kds (n + js.length) L) (hL : L ≤ 500) (S0 : Ct) (row : PD) (AS : List PD) (keep : Bool) (FL ask : PD)
    {parts : List Nat} {at_ : Nat} (ha : at_ + 1 < parts.length) (hp : ∀ p ∈ parts, p < n + js.length) (hpl : parts.length ≤ 100) (s11 s15 : Sl) {x y : Nat} (hx : x < n + js.length) (hy : y < n + js.length) {s16 : Sl} (h16 : Fr s16) :
    ∃ (js' : List (Nat × Nat)) (kds' : List (L2.Key × PD)) (i : Nat) (w : PD), tl0 (slots17 S0 n row js AS keep FL kds ask parts s11 (.im (.int (at_ : Int))) (.im (pr (x, y))) s15 s16) =
      some (.ok (.nx, slots17 S0 n row js' AS keep FL kds' ask (npart parts at_ i) s11 (.im (.int (at_ : Int))) (.im (pr (x, y))) s15 (.im w))) ∧ PSt n js' (B + 1) ∧ KOk kds' (n + js'.length) (L + 1) ∧ i < n + js'.length ∧ js.length ≤ js'.length := by
  have wl : (wordsOf n js).length = n + js.length := words_len
  have jl := P.2.2
  have ax := atI_map (V := wd) (W := wordsOf n js) (i := x) (by omega)
  have ay := atI_map (V := wd) (W := wordsOf n js) (i := y) (by omega)
  have wX := wok_get P.2.1 (i := x) (by omega)
  have wY := wok_get P.2.1 (i := y) (by omega)
  have p0 : gIx (pr (x, y)) (.int 0) = some (.int (x : Int)) := rfl
  have p1 : gIx (pr (x, y)) (.int 1) = some (.int (y : Int)) := rfl
  have ad := add_wd (u := wg (wordsOf n js) x) (v := wg (wordsOf n js) y) (by omega)
  have hpa : parts[at_]? = some (parts[at_]'(by omega)) := List.getElem?_eq_getElem (by omega)
  have hpm := hp _ (List.mem_of_getElem? hpa)
  generalize (parts[at_]'(by omega)) = pa at hpa hpm
  have apa := at_ils hpa
  have apw := atI_map (V := wd) (W := wordsOf n js) (i := pa) (by omega)
  have wP := wok_get P.2.1 (i := pa) (by omega)
  have kl : ltLine kds.length = true := ltl_ok (by have := hk.2; omega)
  have lo1 : ltLine js.length = true := ltl_ok (by omega)
  have lo2 : ltLine (n + js.length) = true := ltl_ok (by omega)
  have c1 : cutD (ils (iz parts)) none (some (at_ : Int)) = ils (iz (parts.take at_)) := by rw [cut_to, take_ils]
  have c2 : cutD (ils (iz parts)) (some ((at_ : Int) + 2)) none = ils (iz (parts.drop (at_ + 2))) := by rw [cut_from2, drop_ils]
  have g1 : ∀ i : Nat, gAdd (.list (ils (iz (parts.take at_)))) (.list [.int (i : Int)]) = some (.list (ils (iz (parts.take at_ ++ [i])))) := fun i => add_ils (u := parts.take at_) (v := [i]) (by simp; omega)
  have g2 : ∀ i : Nat, gAdd (.list (ils (iz (parts.take at_ ++ [i])))) (.list (ils (iz (parts.drop (at_ + 2))))) = some (.list (ils (iz (npart parts at_ i)))) := fun i => add_ils (u := parts.take at_ ++ [i]) (v := parts.drop (at_ + 2)) (by simp; omega)
  by_cases hlen : 24 < (wg (wordsOf n js) x ++ wg (wordsOf n js) y).length
  · have hlI : (24 : Int) < ((wg (wordsOf n js) x ++ wg (wordsOf n js) y).length : Int) := by omega
    have gs := gStr_ok (w := wg (wordsOf n js) pa) (fun e he => by have := wP.2.2 e he; omega) wP.2.1
    refine ⟨js, putD kds (.inr (sw (wg (wordsOf n js) pa))) (.int (pa : Int)), pa, wd (wg (wordsOf n js) pa), ?_, pst_mono P (by omega), kok_put hk hpm, hpm, Nat.le_refl _⟩
    have vs := @val_put_same (.inr (sw (wg (wordsOf n js) pa))) (.int (pa : Int)) kds
    generalize wg (wordsOf n js) x ++ wg (wordsOf n js) y = u at ad hlI
    unfold tl0 slots17
    simp [p0, p1, ax, ay, ad, len_wd, hlI, apa, apw, gs, vs, kl, h16, c1, c2, g1, g2, ArI, line_ok, -at_k]
  · have hlI : ¬ (24 : Int) < ((wg (wordsOf n js) x ++ wg (wordsOf n js) y).length : Int) := by omega
    have gs := gStr_ok (w := wg (wordsOf n js) x ++ wg (wordsOf n js) y) (fun e he => by
      rcases List.mem_append.mp he with he | he
      · have := wX.2.2 e he; omega
      · have := wY.2.2 e he; omega) (by omega)
    by_cases hcond : (valD kds (.inr (sw (wg (wordsOf n js) x ++ wg (wordsOf n js) y)))).isSome = true ∧ (keep = true ∨ (11 : Int) < (js.length : Int))
    · obtain ⟨d, hd⟩ := Option.isSome_iff_exists.mp hcond.1
      obtain ⟨i, rfl, hi⟩ := hk.1 _ _ hd
      refine ⟨js, kds, i, wd (wg (wordsOf n js) x ++ wg (wordsOf n js) y), ?_, pst_mono P (by omega), kok_mono hk (Nat.le_refl _) (by omega), hi, Nat.le_refl _⟩
      generalize wg (wordsOf n js) x ++ wg (wordsOf n js) y = u at ad hlI gs hd
      unfold tl0 slots17
      rcases hcond.2 with hke | hj
      · subst hke
        simp [p0, p1, ax, ay, ad, len_wd, hlI, gs, hd, h16, c1, c2, g1, g2, ArI, line_ok, -at_k]
      · cases keep <;> simp [p0, p1, ax, ay, ad, len_wd, hlI, gs, hd, hj, h16, c1, c2, g1, g2, ArI, line_ok, -at_k]
    · refine ⟨js ++ [(x, y)], putD kds (.inr (sw (wg (wordsOf n js) x ++ wg (wordsOf n js) y))) (.int ((n + js.length : Nat) : Int)), n + js.length, wd (wg (wordsOf n js) x ++ wg (wordsOf n js) y), ?_, pst_snoc P hx hy (by omega), kok_put (kok_mono hk (by simp) (Nat.le_refl _)) (by simp), by simp, by simp⟩
      have vs := @val_put_same (.inr (sw (wg (wordsOf n js) x ++ wg (wordsOf n js) y))) (.int ((n + js.length : Nat) : Int)) kds
      unfold slots17
      rw [wordsOf_snoc]
      dsimp only
      generalize wg (wordsOf n js) x ++ wg (wordsOf n js) y = u at ad hlI gs hcond vs
      unfold tl0
      rw [Int.natCast_add] at vs
      have gg := g2 (n + js.length)
      have gg1 := g1 (n + js.length)
      rw [Int.natCast_add] at gg1
      by_cases hv : (valD kds (.inr (sw u))).isSome = true
      · obtain ⟨d, hd⟩ := Option.isSome_iff_exists.mp hv
        have hke : keep = false := by
          cases keep with
          | false => rfl
          | true => exact absurd ⟨hv, .inl rfl⟩ hcond
        have hj : ¬ (11 : Int) < (js.length : Int) := fun z => hcond ⟨hv, .inr z⟩
        subst hke
        simp [p0, p1, ax, ay, ad, len_wd, hlI, gs, hd, hj, vs, kl, lo1, lo2, wl, h16, c1, c2, gg1, gg, ArI, line_ok, -at_k]
      · have hd : valD kds (.inr (sw u)) = none := by simpa using hv
        simp [p0, p1, ax, ay, ad, len_wd, hlI, gs, hd, vs, kl, lo1, lo2, wl, h16, c1, c2, gg1, gg, ArI, line_ok, -at_k]
theorem get_ok {l : List Nat} {i : Nat} (h : i < l.length) : ∃ p ∈ l, l[i]? = some p := ⟨l[i], List.getElem_mem h, List.getElem?_eq_getElem h⟩
theorem v_lp0 {n B L : Nat} {js : List (Nat × Nat)} (h6 : n ≤ 6) (P : PSt n js B) (hB : B ≤ 498) {kds : List (L2.Key × PD)} (hk : KOk kds (n + js.length) L) (hL : L ≤ 500) {a b : Int} (ok : OkSt a b) (row : PD) (AS : List PD) (keep : Bool) {fl : List Nat} (hf0 : fl ≠ []) (hf1 : fl.length ≤ 10) (hf2 : ∀ f ∈ fl, f ≤ 4) (ask : PD)
    {parts : List Nat} (hp2 : 2 ≤ parts.length) (hp : ∀ p ∈ parts, p < n + js.length) (hpl : parts.length ≤ 100) (s11 : Sl) (h11 : Fr s11) {s13 s14 s15 s16 : Sl} (h13 : Fr s13) (h14 : Fr s14) (h15 : Fr s15) (h16 : Fr s16) :
    ∃ (js' : List (Nat × Nat)) (kds' : List (L2.Key × PD)) (parts' : List Nat) (a' b' : Int) (x13 x14 x15 x16 : PD), lp__law_plan_0 (slots17 (st a b) n row js AS keep (.list (ils (iz fl))) kds ask parts s11 s13 s14 s15 s16) =
      some (.ok (.nx, slots17 (st a' b') n row js' AS keep (.list (ils (iz fl))) kds' ask parts' s11 (.im x13) (.im x14) (.im x15) (.im x16))) ∧ PSt n js' (B + 2) ∧ KOk kds' (n + js'.length) (L + 1) ∧ parts'.length + 1 = parts.length ∧ (∀ p ∈ parts', p < n + js'.length) ∧ js.length ≤ js'.length ∧ OkSt a' b' := by
  have fp : 0 < fl.length := List.length_pos_iff.mpr hf0
  obtain ⟨at_, a1, b1, e1, k1, ok1⟩ := v_dr ok ((parts.length : Int) - 1) (by omega) (by omega)
  obtain ⟨q, a2, b2, e2, k2, ok2⟩ := v_dr ok1 (fl.length : Int) (by omega) (by omega)
  obtain ⟨p0, hp0, g0⟩ := get_ok (l := parts) (i := at_) (by omega)
  obtain ⟨p1, hp1, g1⟩ := get_ok (l := parts) (i := at_ + 1) (by omega)
  obtain ⟨f, hf, gf⟩ := get_ok (l := fl) (i := q) (by omega)
  have i0 := at_ils g0
  have i1 := at_ils1 g1
  have i2 := at_ils gf
  have f4 := hf2 f hf
  have b0 := hp p0 hp0
  have b1' := hp p1 hp1
  have lp : (ils (iz parts)).length = parts.length := by simp [iz]
  have lf : (ils (iz fl)).length = fl.length := by simp [iz]
  by_cases hz : f = 0
  · subst hz
    obtain ⟨js', kds', i, w, e, P', K', hi, hj⟩ := v_tail h6 P (by omega) hk hL (st a2 b2) row AS keep (.list (ils (iz fl))) ask (at_ := at_) (by omega) hp hpl s11 (.im (.int ((0 : Nat) : Int))) b0 b1' h16
    refine ⟨js', kds', npart parts at_ i, a2, b2, .int (at_ : Int), pr (p0, p1), .int ((0 : Nat) : Int), w, ?_, pst_mono P' (by omega), K', npart_len (by omega), npart_lt (fun p h => by have := hp p h; omega) hi, hj, ok2⟩
    rw [lp0_eq]
    simp only [slots17, pr] at e ⊢
    simp [e1, e2, i0, i1, i2, lp, lf, h13, h14, h15, ArI, line_ok, Dl.dist, hasO, -at_k, -List.map_map]
    exact e
  · obtain ⟨x, y, js1, a3, b3, e3, P1, hx, hy, hj1, ok3⟩ := v_flawed h6 P (by omega) f (by omega) f4 p0 p1 b0 b1' ok2
    have hk1 : KOk kds (n + js1.length) L := kok_mono hk (by omega) (Nat.le_refl _)
    obtain ⟨js', kds', i, w, e, P', K', hi, hj⟩ := v_tail h6 P1 (by omega) hk1 hL (st a3 b3) row AS keep (.list (ils (iz fl))) ask (at_ := at_) (by omega) (fun p h => by have := hp p h; omega) hpl s11 (.im (.int (f : Int))) hx hy h16
    refine ⟨js', kds', npart parts at_ i, a3, b3, .int (at_ : Int), pr (x, y), .int (f : Int), w, ?_, pst_mono P' (by omega), K', npart_len (by omega), npart_lt (fun p h => by have := hp p h; omega) hi, by omega, ok3⟩
    rw [lp0_eq]
    have hf0 : 0 < f := by omega
    simp only [slots17, pr] at e e3 ⊢
    simp [e1, e2, i0, i1, i2, e3, hf0, lp, lf, h13, h14, h15, h11, h16, ArI, line_ok, Dl.dist, hasO, u_back, Dl.look, -at_k, -List.map_map]
    exact e
theorem v_inner {n B L : Nat} {js : List (Nat × Nat)} (h6 : n ≤ 6) (P : PSt n js B) {kds : List (L2.Key × PD)} (hk : KOk kds (n + js.length) L) {a b : Int} (ok : OkSt a b) (row : PD) (AS : List PD) (keep : Bool) {fl : List Nat} (hf0 : fl ≠ []) (hf1 : fl.length ≤ 10) (hf2 : ∀ f ∈ fl, f ≤ 4) (ask : PD)
    {parts : List Nat} (m : Nat) (hm : parts.length = m + 1) (hm5 : m ≤ 5) (hB : B ≤ 400) (hL : L ≤ 400) (hp : ∀ p ∈ parts, p < n + js.length) (s11 : Sl) (h11 : Fr s11) {s13 s14 s15 s16 : Sl} (h13 : Fr s13) (h14 : Fr s14) (h15 : Fr s15) (h16 : Fr s16) :
    ∃ (js' : List (Nat × Nat)) (kds' : List (L2.Key × PD)) (p : Nat) (a' b' : Int) (x11 x13 x14 x15 x16 : Sl), loopF (gN 11) lp__law_plan_0 (rngD 0 m) (slots17 (st a b) n row js AS keep (.list (ils (iz fl))) kds ask parts s11 s13 s14 s15 s16) =
      some (.ok (.nx, slots17 (st a' b') n row js' AS keep (.list (ils (iz fl))) kds' ask [p] x11 x13 x14 x15 x16)) ∧ PSt n js' (B + 2 * m) ∧ KOk kds' (n + js'.length) (L + m) ∧ p < n + js'.length ∧ js.length ≤ js'.length ∧ OkSt a' b' ∧ Fr x11 ∧ Fr x13 ∧ Fr x14 ∧ Fr x15 ∧ Fr x16 := by
  have key := loop_idx (tg := gN 11) (b := lp__law_plan_0) (rngD 0 m)
    (fun k s => ∃ (js' : List (Nat × Nat)) (kds' : List (L2.Key × PD)) (parts' : List Nat) (a' b' : Int) (x11 x13 x14 x15 x16 : Sl), PSt n js' (B + 2 * k) ∧ KOk kds' (n + js'.length) (L + k) ∧ parts'.length + k = parts.length ∧ (∀ p ∈ parts', p < n + js'.length) ∧ js.length ≤ js'.length ∧ OkSt a' b' ∧ Fr x11 ∧ Fr x13 ∧ Fr x14 ∧ Fr x15 ∧ Fr x16 ∧
      s = slots17 (st a' b') n row js' AS keep (.list (ils (iz fl))) kds' ask parts' x11 x13 x14 x15 x16)
    (fun k d s hd ⟨js1, kds1, parts1, a1, b1, x11, x13, x14, x15, x16, P1, K1, l1, p1, j1, ok1, f11, f13, f14, f15, f16, hs⟩ => by
      subst hs
      obtain ⟨hk, rfl⟩ := rng_get hd
      obtain ⟨js2, kds2, parts2, a2, b2, y13, y14, y15, y16, e, P2, K2, l2, p2, j2, ok2⟩ := v_lp0 h6 P1 (by omega) K1 (by omega) ok1 row AS keep hf0 hf1 hf2 ask (by omega) p1 (by omega) (.im (.int (0 + (k : Int)))) fr_im f13 f14 f15 f16
      refine ⟨_, _, ?_, e, js2, kds2, parts2, a2, b2, _, _, _, _, _, pst_mono P2 (by omega), kok_mono K2 (Nat.le_refl _) (by omega), by omega, p2, by omega, ok2, fr_im, fr_im, fr_im, fr_im, fr_im, rfl⟩
      simp [slots17, f11])
    _ ⟨js, kds, parts, a, b, s11, s13, s14, s15, s16, pst_mono P (by omega), kok_mono hk (Nat.le_refl _) (by omega), by omega, hp, Nat.le_refl _, ok, h11, h13, h14, h15, h16, rfl⟩
  obtain ⟨n', e, js', kds', parts', a', b', x11, x13, x14, x15, x16, P', K', l', p', j', ok', f11, f13, f14, f15, f16, hs⟩ := key
  rw [rng_len] at P' K' l'
  match parts', (show parts'.length = 1 by omega) with
  | [p], _ =>
  rw [hs] at e
  exact ⟨js', kds', p, a', b', x11, x13, x14, x15, x16, e, P', K', p' p (by simp), j', ok', f11, f13, f14, f15, f16⟩
abbrev slots17u (S0 : Ct) (n : Nat) (row : PD) (js : List (Nat × Nat)) (as : List Nat) (keep : Bool) (FL : PD) (kds : List (L2.Key × PD)) (s9 s10 s11 s13 s14 s15 s16 : Sl) : Nv :=
  [.ow true S0, .im (.int (n : Int)), .im row, .ow false (.l ((wordsOf n js).map wd)), .ow false (.l (js.map pr)), .ow false (.l (ils (iz as))), .im (.bool keep), .im FL, .ow false (.m kds), s9, s10, s11, .un, s13, s14, s15, s16]
theorem v_outer {n : Nat} (hn1 : 1 ≤ n) (h6 : n ≤ 6) (rr : List (Nat × Nat)) (hr : bOk n rr) (hl : rr.length ≤ 7) {a b : Int} (ok : OkSt a b) (row : PD) (keep : Bool) {fl : List Nat} (hf0 : fl ≠ []) (hf1 : fl.length ≤ 10) (hf2 : ∀ f ∈ fl, f ≤ 4) :
    ∃ (js : List (Nat × Nat)) (as : List Nat) (kds : List (L2.Key × PD)) (a' b' : Int) (x9 x10 x11 x13 x14 x15 x16 : Sl), loopF (gN 9) lp__law_plan_1 (rr.map pr) (slots17u (st a b) n row [] [] keep (.list (ils (iz fl))) [] .un .un .un .un .un .un .un) =
      some (.ok (.nx, slots17u (st a' b') n row js as keep (.list (ils (iz fl))) kds x9 x10 x11 x13 x14 x15 x16)) ∧ PSt n js 70 ∧ as.length = rr.length ∧ (∀ p ∈ as, p < n + js.length) ∧ OkSt a' b' := by
  have key := loop_idx (tg := gN 9) (b := lp__law_plan_1) (rr.map pr)
    (fun k s => ∃ (js : List (Nat × Nat)) (as : List Nat) (kds : List (L2.Key × PD)) (a' b' : Int) (x9 x10 x11 x13 x14 x15 x16 : Sl), PSt n js (10 * k) ∧ KOk kds (n + js.length) (5 * k) ∧ as.length = k ∧ (∀ p ∈ as, p < n + js.length) ∧ OkSt a' b' ∧ Fr x9 ∧ Fr x10 ∧ Fr x11 ∧ Fr x13 ∧ Fr x14 ∧ Fr x15 ∧ Fr x16 ∧
      s = slots17u (st a' b') n row js as keep (.list (ils (iz fl))) kds x9 x10 x11 x13 x14 x15 x16)
    (fun k d s hd ⟨js, as, kds, a1, b1, x9, x10, x11, x13, x14, x15, x16, P, K, la, pa, ok1, f9, f10, f11, f13, f14, f15, f16, hs⟩ => by
      subst hs
      have hk : k < rr.length := by have := (List.getElem?_eq_some_iff.mp hd).1; simpa using this
      rw [List.getElem?_map] at hd
      obtain ⟨p, hp, rfl⟩ := Option.map_eq_some_iff.mp hd
      have bp := hr p (List.mem_of_getElem? hp)
      obtain ⟨js2, kds2, q, a2, b2, y11, y13, y14, y15, y16, e, P2, K2, q2, j2, ok2, g11, g13, g14, g15, g16⟩ := v_inner h6 P K ok1 row (ils (iz as)) keep hf0 hf1 hf2 (pr p) (parts := List.range' p.1 (p.2 - p.1)) (p.2 - p.1 - 1) (by simp; omega) (by omega) (by omega) (by omega)
        (fun x hx => by rw [List.mem_range'_1] at hx; omega) x11 f11 f13 f14 f15 f16
      refine ⟨slots17u (st a1 b1) n row js as keep (.list (ils (iz fl))) kds (.im (pr p)) x10 x11 x13 x14 x15 x16, slots17u (st a2 b2) n row js2 (as ++ [q]) keep (.list (ils (iz fl))) kds2 (.im (pr p)) (.im (.list (ils (iz [q])))) y11 y13 y14 y15 y16, by simp [slots17u, f9], ?_,
        js2, as ++ [q], kds2, a2, b2, _, _, _, _, _, _, _, pst_mono P2 (by omega), kok_mono K2 (Nat.le_refl _) (by omega), by simp [la], fun x hx => ?_, ok2, fr_im, fr_im, g11, g13, g14, g15, g16, rfl⟩
      · have p0 : gIx (pr p) (.int 0) = some (.int (p.1 : Int)) := rfl
        have p1 : gIx (pr p) (.int 1) = some (.int (p.2 : Int)) := rfl
        have rg : rg2 (.d (.int (p.1 : Int))) (.d (.int (p.2 : Int))) = fun s => Dl.ret (ils (iz (List.range' p.1 (p.2 - p.1)))) s := by
          funext s
          rw [u_rg2 (by omega) (by omega) (by omega) (by omega), show ((p.2 : Int) - (p.1 : Int)).toNat = p.2 - p.1 by omega, rngD_iz]
        have r1 : rng1 [.d (.int ((p.2 : Int) - (p.1 : Int) - 1))] = fun s => Dl.ret (rngD 0 (p.2 - p.1 - 1)) s := by
          funext s
          rw [show ((p.2 : Int) - (p.1 : Int) - 1) = ((p.2 - p.1 - 1 : Nat) : Int) by omega, u_rng1 (by omega)]
        have lo : ltLine (iz as).length = true := ltl_ok (by simp [iz]; omega)
        have a0 : L2.atI (ils (iz [q])) 0 = some (.int (q : Int)) := at_ils (i := 0) rfl
        have ap : ils (iz (as ++ [q])) = ils (iz as) ++ [.int (q : Int)] := by simp [iz]
        simp only [slots17] at e
        simp only [slots17u, lp__law_plan_1]
        rw [ap]
        simp [p0, p1, rg, r1, f10, e, a0, lo, -at_0, -List.map_map]
      · rcases List.mem_append.mp hx with hx | hx
        · have := pa x hx; omega
        · simp at hx; omega) _ ⟨[], [], [], a, b, .un, .un, .un, .un, .un, .un, .un, ⟨trivial, wok_sgl (by omega), by simp⟩, ⟨fun k d e => by simp [valD] at e, by simp⟩, rfl, (by intro p hp; cases hp), ok, fr_un, fr_un, fr_un, fr_un, fr_un, fr_un, fr_un, rfl⟩
  obtain ⟨n', e, js, as, kds, a', b', x9, x10, x11, x13, x14, x15, x16, P, K, la, pa, ok', _, _, _, _, _, _, _, hs⟩ := key
  rw [hs] at e
  rw [List.length_map] at P la
  exact ⟨js, as, kds, a', b', _, _, _, _, _, _, _, e, pst_mono P (by omega), la, pa, ok'⟩
end K6
set_option Elab.async false
set_option linter.all false
set_option maxRecDepth 100000
namespace K6
open PySem Dl
theorem fl_get {k : Nat} (h : k < 4) : ∃ fl : List Nat, ([.list [.int 0], .list [.int 0, .int 0, .int 0, .int 1], .list [.int 0, .int 1, .int 0, .int 2, .int 3], .list [.int 0, .int 0, .int 0, .int 0, .int 0, .int 0, .int 1, .int 2, .int 3, .int 4]] : List PD)[k]? = some (.list (ils (iz fl))) ∧ fl ≠ [] ∧ fl.length ≤ 10 ∧ ∀ f ∈ fl, f ≤ 4 := by
  match k, h with
  | 0, _ => exact ⟨[0], rfl, by decide, by decide, by decide⟩
  | 1, _ => exact ⟨[0, 0, 0, 1], rfl, by decide, by decide, by decide⟩
  | 2, _ => exact ⟨[0, 1, 0, 2, 3], rfl, by decide, by decide, by decide⟩
  | 3, _ => exact ⟨[0, 0, 0, 0, 0, 0, 1, 2, 3, 4], rfl, by decide, by decide, by decide⟩
theorem v_plan {n : Nat} (hn1 : 1 ≤ n) (h6 : n ≤ 6) (rr : List (Nat × Nat)) (hr : bOk n rr) (hl : rr.length ≤ 7) {a b : Int} (ok : OkSt a b) :
    ∃ (js : List (Nat × Nat)) (as : List Nat) (a' b' : Int), f__law_plan [.ow true (st a b), .im (.int (n : Int)), .im (rowD rr)] = okd (planD n js as) [.ow true (st a' b'), .im (.int (n : Int)), .im (rowD rr)] ∧ PSt n js 70 ∧ as.length = rr.length ∧ (∀ p ∈ as, p < n + js.length) ∧ OkSt a' b' := by
  obtain ⟨q, a1, b1, e1, k1, ok1⟩ := v_dr ok 3 (by omega) (by omega)
  obtain ⟨z, a2, b2, e2, k2, ok2⟩ := v_dr ok1 4 (by omega) (by omega)
  obtain ⟨fl, gf, hf0, hf1, hf2⟩ := fl_get (k := z) (by omega)
  obtain ⟨js, as, kds, a3, b3, x9, x10, x11, x13, x14, x15, x16, e, P, la, pa, ok3⟩ := v_outer hn1 h6 rr hr hl ok2 (rowD rr) (decide (0 < q)) hf0 hf1 hf2
  refine ⟨js, as, a3, b3, ?_, P, la, pa, ok3⟩
  have c := comp_im (fe := eOf (oLst (aCons (eV 12) aNil))) (G := sgD) (i := 12) (n := [.ow true (st a b), .im (.int (n : Int)), .im (rowD rr), .un, .un, .un, .un, .un, .un, .un, .un, .un, .un, .un, .un, .un, .un]) (ds := rngD 0 n) rfl (by rw [rng_len]; omega)
    (fun d hd => by simp [ArI, line_ok, sgD])
  have ce : (rngD 0 n).map sgD = (wordsOf n []).map wd := by
    unfold rngD wordsOf sgl
    rw [List.foldl_nil, List.map_map, List.map_map]
    apply List.map_congr_left
    intro i _
    simp [sgD, wd, iz]
  rw [ce] at c
  have r1 : rng1 [.d (.int (n : Int))] = fun s => Dl.ret (rngD 0 n) s := by
    funext s
    exact u_rng1 (by omega)
  simp only [slots17u] at e
  simp only [List.map_nil, iz, ils] at e
  unfold f__law_plan m__law_plan
  simp only [iz, ils] at gf
  have tk : tupK (.d (rowD rr)) = fun s => Dl.ret (rr.map pr) s := rfl
  simp [r1, c, e1, e2, gf, tk, e, ArI, line_ok, Dl.dist, hasO, planD, iz, mrg, -List.map_map]
theorem size_get {k : Nat} (h : k < 8) : ∃ m : Nat, ([.int 2, .int 3, .int 4, .int 5, .int 6, .int 6, .int 5, .int 4] : List PD)[k]? = some (.int (m : Int)) ∧ 2 ≤ m ∧ m ≤ 6 := by
  match k, h with
  | 0, _ => exact ⟨2, rfl, by omega, by omega⟩
  | 1, _ => exact ⟨3, rfl, by omega, by omega⟩
  | 2, _ => exact ⟨4, rfl, by omega, by omega⟩
  | 3, _ => exact ⟨5, rfl, by omega, by omega⟩
  | 4, _ => exact ⟨6, rfl, by omega, by omega⟩
  | 5, _ => exact ⟨6, rfl, by omega, by omega⟩
  | 6, _ => exact ⟨5, rfl, by omega, by omega⟩
  | 7, _ => exact ⟨4, rfl, by omega, by omega⟩
theorem cut_m1 {ds : List PD} : cutD ds none (some (-1)) = ds.take (ds.length - 1) := by
  have e : HT.sIx ds.length ds.length (some (-1)) = ds.length - 1 := by
    unfold HT.sIx
    dsimp only
    rw [if_pos (by decide)]
    omega
  unfold cutD
  rw [HT.sIx_none, List.drop_zero, Nat.sub_zero, e]
theorem cut_from1 {ds : List PD} {k : Nat} : cutD ds (some ((k : Int) + 1)) none = ds.drop (k + 1) := by
  rw [show ((k : Int) + 1) = ((k + 1 : Nat) : Int) by omega]
  exact cut_from
theorem add_ilsT {u v : List Nat} (h : u.length + v.length ≤ 10000) : gAdd (.tuple (ils (iz u))) (.tuple (ils (iz v))) = some (.tuple (ils (iz (u ++ v)))) := by
  rw [g_addT (by simpa [iz] using h), iz_app]
  simp
theorem sc_hand0 : Sc 3 [(0, 1), (1, 2), (3, 4)] [5] [(0, 3)] := ⟨by decide, by decide, by simp [GoodJ], by decide, by
  have : wordsOf 3 [(0, 1), (1, 2), (3, 4)] = [[0], [1], [2], [0, 1], [1, 2], [0, 1, 1, 2]] := by decide
  rw [this]
  unfold WOk
  decide, by decide, by decide, rowOk_of (by decide) (by simp), by decide, by decide⟩
theorem sc_hand1 : Sc 6 [(2, 3), (1, 6), (0, 7), (6, 4), (9, 5), (8, 10)] [8, 11, 7, 9, 10] [(0, 4), (0, 6), (1, 4), (2, 5), (2, 6)] := ⟨by decide, by decide, by simp [GoodJ], by decide, by
  have : wordsOf 6 [(2, 3), (1, 6), (0, 7), (6, 4), (9, 5), (8, 10)] = [[0], [1], [2], [3], [4], [5], [2, 3], [1, 2, 3], [0, 1, 2, 3], [2, 3, 4], [2, 3, 4, 5], [0, 1, 2, 3, 2, 3, 4, 5]] := by decide
  rw [this]
  unfold WOk
  decide, by decide, by decide, rowOk_of (by decide) (by simp [plt]), by decide, by decide⟩
theorem sc_hand2 {n : Nat} (h1 : 1 ≤ n) (h2 : n ≤ 6) : Sc n [] [] [] := ⟨h1, h2, trivial, by decide, wok_sgl (by decide), by simp, by decide, rowOk_of (by simp) .nil, by decide, by simp⟩
theorem sc_as {n : Nat} {js : List (Nat × Nat)} {as as' : List Nat} {r : List (Nat × Nat)} (S : Sc n js as r) (h : ∀ a ∈ as', a < n + js.length) (hl : as'.length ≤ 100) : Sc n js as' r := ⟨S.n1, S.n2, S.gj, S.jl, S.wk, h, hl, S.ro, S.rl, S.rb⟩
theorem v_scene {a b : Int} (ok : OkSt a b) : ∃ (n : Nat) (js : List (Nat × Nat)) (as : List Nat) (r : List (Nat × Nat)) (a' b' : Int), f__law_scene [.ow true (st a b)] = okd (.tuple [planD n js as, rowD r]) [.ow true (st a' b')] ∧ Sc n js as r ∧ OkSt a' b' := by
  obtain ⟨q, a1, b1, e1, k1, ok1⟩ := v_dr ok 16 (by omega) (by omega)
  unfold f__law_scene m__law_scene
  by_cases h0 : q = 0
  · subst h0
    refine ⟨_, _, _, _, a1, b1, ?_, sc_hand0, ok1⟩
    simp [e1, ArI, line_ok, Dl.dist, hasO, mrg, planD, rowD, pr, iz]
  by_cases h1 : q = 1
  · subst h1
    refine ⟨_, _, _, _, a1, b1, ?_, sc_hand1, ok1⟩
    simp [e1, ArI, line_ok, Dl.dist, hasO, mrg, planD, rowD, pr, iz]
  by_cases h2 : q = 2
  · subst h2
    obtain ⟨z, a2, b2, e2, k2, ok2⟩ := v_dr ok1 3 (by omega) (by omega)
    refine ⟨1 + z, _, _, _, a2, b2, ?_, sc_hand2 (by omega) (by omega), ok2⟩
    simp [e1, e2, ArI, line_ok, Dl.dist, hasO, mrg, planD, rowD, pr, iz]
  have i0 : ¬ (q : Int) = 0 := by omega
  have i1 : ¬ (q : Int) = 1 := by omega
  have i2 : ¬ (q : Int) = 2 := by omega
  obtain ⟨z, a2, b2, e2, k2, ok2⟩ := v_dr ok1 8 (by omega) (by omega)
  obtain ⟨n, gn, n2, n6⟩ := size_get (k := z) (by omega)
  obtain ⟨rr, a3, b3, e3, rb, rw', rl, ok3⟩ := v_asks n2 n6 ok2
  obtain ⟨js, as, a4, b4, e4, P, la, pa, ok4⟩ := v_plan (by omega) n6 rr rb rl ok3
  obtain ⟨t, a5, b5, e5, k5, ok5⟩ := v_dr ok4 9 (by omega) (by omega)
  have base : Sc n js as rr := ⟨by omega, n6, P.1, by have := P.2.2; omega, P.2.1, pa, by omega, rowOk_of (fun p hp => (rb p hp).1) rw', by omega, fun p hp => by have := rb p hp; omega⟩
  have p0 : gIx (planD n js as) (.int 0) = some (.int (n : Int)) := rfl
  have p1 : gIx (planD n js as) (.int 1) = some (.tuple (js.map pr)) := rfl
  have p2 : gIx (planD n js as) (.int 2) = some (.tuple (ils (iz as))) := rfl
  have al : as.length ≤ 7 := by omega
  have jl := P.2.2
  have ht : t = 0 ∨ t = 1 ∨ (2 ≤ t ∧ t ≤ 3) ∨ t = 4 ∨ 5 ≤ t := by omega
  rcases ht with rfl | rfl | ht | rfl | ht
  · refine ⟨n, js, as.take (as.length - 1), rr, a5, b5, ?_, sc_as base (fun x hx => pa x (List.mem_of_mem_take hx)) (by simp; omega), ok5⟩
    have c : cutD (ils (iz as)) none (some (-1)) = ils (iz (as.take (as.length - 1))) := by rw [cut_m1, take_ils]; simp [iz]
    simp [e1, i0, i1, i2, h0, h1, h2, e2, gn, e3, e4, e5, p0, p1, p2, c, ArI, line_ok, Dl.dist, hasO, mrg]
    rfl
  · obtain ⟨u, a6, b6, e6, k6, ok6⟩ := v_dr ok5 (n : Int) (by omega) (by omega)
    refine ⟨n, js, as ++ [u], rr, a6, b6, ?_, sc_as base (fun x hx => ?_) (by simp; omega), ok6⟩
    · have c := add_ilsT (u := as) (v := [u]) (by simp; omega)
      have c : gAdd (.tuple (ils (iz as))) (.tuple [.int (u : Int)]) = some (.tuple (ils (iz (as ++ [u])))) := c
      simp [e1, i0, i1, i2, h0, h1, h2, e2, gn, e3, e4, e5, e6, p0, p1, p2, c, ArI, line_ok, Dl.dist, hasO, mrg]
      rfl
    · rcases List.mem_append.mp hx with hx | hx
      · exact pa x hx
      · simp at hx; omega
  · have t0 : ¬ t = 0 := by omega
    have t1 : ¬ t = 1 := by omega
    have t2 : 1 < t := by omega
    have t3 : t < 4 := by omega
    have t4 : ¬ t = 4 := by omega
    have t0' : ¬ (t : Int) = 0 := by omega
    have t1' : ¬ (t : Int) = 1 := by omega
    have t2' : (1 : Int) < (t : Int) := by omega
    have t3' : (t : Int) < 4 := by omega
    have t4' : ¬ (t : Int) = 4 := by omega
    by_cases ha : 0 < as.length
    · obtain ⟨u, a6, b6, e6, k6, ok6⟩ := v_dr ok5 (as.length : Int) (by omega) (by omega)
      obtain ⟨v, a7, b7, e7, k7, ok7⟩ := v_dr ok6 ((n : Int) + (js.length : Int)) (by omega) (by omega)
      refine ⟨n, js, as.take u ++ [v] ++ as.drop (u + 1), rr, a7, b7, ?_, sc_as base (fun x hx => ?_) (by simp; omega), ok7⟩
      · have c1 : cutD (ils (iz as)) none (some (u : Int)) = ils (iz (as.take u)) := by rw [cut_to, take_ils]
        have c2 : cutD (ils (iz as)) (some ((u : Int) + 1)) none = ils (iz (as.drop (u + 1))) := by rw [cut_from1, drop_ils]
        have g1 : gAdd (.tuple (ils (iz (as.take u)))) (.tuple [.int (v : Int)]) = some (.tuple (ils (iz (as.take u ++ [v])))) := add_ilsT (u := as.take u) (v := [v]) (by simp; omega)
        have g2 := add_ilsT (u := as.take u ++ [v]) (v := as.drop (u + 1)) (by simp; omega)
        simp [e1, i0, i1, i2, h0, h1, h2, e2, gn, e3, e4, e5, e6, e7, p0, p1, p2, t0, t1, t2, t3, t4, t0', t1', t2', t3', t4', ha, iz_len, c1, c2, g1, g2, ArI, line_ok, Dl.dist, hasO, mrg, -List.append_assoc]
        rfl
      · rcases List.mem_append.mp hx with hx | hx
        · rcases List.mem_append.mp hx with hx | hx
          · exact pa x (List.mem_of_mem_take hx)
          · simp at hx; omega
        · exact pa x (List.mem_of_mem_drop hx)
    · refine ⟨n, js, as, rr, a5, b5, ?_, base, ok5⟩
      simp [e1, i0, i1, i2, h0, h1, h2, e2, gn, e3, e4, e5, p0, p1, p2, t0, t1, t2, t3, t4, t0', t1', t2', t3', t4', ha, iz_len, ArI, line_ok, Dl.dist, hasO, mrg]
      rfl
  · rcases List.eq_nil_or_concat rr with rfl | ⟨ri, p, rfl⟩
    · refine ⟨n, js, as, [], a5, b5, ?_, base, ok5⟩
      have r0 : rowD [] = .tuple [] := rfl
      rw [r0] at e3 e4
      simp [e1, i0, i1, i2, h0, h1, h2, e2, gn, e3, e4, e5, p0, p1, p2, r0, ArI, line_ok, Dl.dist, hasO, mrg]
      rfl
    · rw [List.concat_eq_append] at rb rw' rl e3 e4 la base
      obtain ⟨u, a6, b6, e6, k6, ok6⟩ := v_dr ok5 3 (by omega) (by omega)
      refine ⟨n, js, as, ri ++ [(p.1, n + 1 + u)], a6, b6, ?_, ?_, ok6⟩
      · have gl : gLen [rowD (ri ++ [p])] = some (.int ((ri.length + 1 : Nat) : Int)) := by
          unfold rowD
          rw [g_lenT]
          simp
        have c : gSl none (some (-1)) (rowD (ri ++ [p])) = some (.tuple (ri.map pr)) := by
          unfold rowD
          rw [g_slT, cut_m1]
          simp
        have gi : gIx (rowD (ri ++ [p])) (.int (-1)) = some (pr p) := by
          show L2.atI ((ri ++ [p]).map pr) (-1) = _
          rw [at_m1 (by simp)]
          simp
        have q0 : gIx (pr p) (.int 0) = some (.int (p.1 : Int)) := rfl
        have ga : gAdd (.tuple (ri.map pr)) (.tuple [.tuple [.int (p.1 : Int), .int ((n : Int) + 1 + (u : Int))]]) = some (rowD (ri ++ [(p.1, n + 1 + u)])) := by
          rw [g_addT (by simp; have := rl; simp at this; omega)]
          simp [rowD, pr]
        have gp : (0 : Int) < ((ri.length + 1 : Nat) : Int) := by omega
        generalize rowD (ri ++ [p]) = R at e3 e4 gl c gi
        generalize rowD (ri ++ [(p.1, n + 1 + u)]) = R2 at ga
        simp [e1, i0, i1, i2, h0, h1, h2, e2, gn, e3, e4, e5, e6, p0, p1, p2, gl, c, gi, q0, ga, gp, ArI, line_ok, Dl.dist, hasO, mrg]
        rfl
      · have pm : p ∈ ri ++ [p] := by simp
        have bp := rb p pm
        have rl' : ri.length + 1 ≤ 7 := by simpa using rl
        rw [List.pairwise_append] at rw'
        refine ⟨by omega, n6, P.1, by omega, P.2.1, pa, by omega, rowOk_of (fun x hx => ?_) ?_, by simp; omega, fun x hx => ?_⟩
        · rcases List.mem_append.mp hx with hx | hx
          · exact (rb x (List.mem_append_left _ hx)).1
          · simp at hx
            subst hx
            dsimp only
            omega
        · rw [List.pairwise_append]
          refine ⟨rw'.1, by simp, fun x hx y hy => ?_⟩
          have h3 := rw'.2.2 x hx p (by simp)
          simp at hy
          subst hy
          unfold plt at h3 ⊢
          dsimp only
          omega
        · rcases List.mem_append.mp hx with hx | hx
          · have := rb x (List.mem_append_left _ hx)
            omega
          · simp at hx
            subst hx
            dsimp only
            omega
  · refine ⟨n, js, as, rr, a5, b5, ?_, base, ok5⟩
    have t0 : ¬ t = 0 := by omega
    have t1 : ¬ t = 1 := by omega
    have t3 : ¬ t < 4 := by omega
    have t4 : ¬ t = 4 := by omega
    have t0' : ¬ (t : Int) = 0 := by omega
    have t1' : ¬ (t : Int) = 1 := by omega
    have t3' : ¬ (t : Int) < 4 := by omega
    have t4' : ¬ (t : Int) = 4 := by omega
    by_cases t2 : 1 < t <;> simp [e1, i0, i1, i2, h0, h1, h2, e2, gn, e3, e4, e5, p0, p1, p2, t0, t1, t2, t3, t4, t0', t1', t3', t4', ArI, line_ok, Dl.dist, hasO, mrg]
    all_goals rfl
theorem math : ∀ ns : List Int, ns.length ≤ 63 → ∃ s, f_law [.im (.list (ns.map .int))] = some (.ok (.d (.bool true), s)) := fun ns hl => by
  obtain ⟨a, b, e0, ha, hb, hb2⟩ := v_start ns hl
  obtain ⟨n, js, as, r, a1, b1, e1, S, ok1⟩ := v_scene (a := a) (b := b) ⟨ha, hb, hb2⟩
  obtain ⟨q, a2, b2, e2, k2, ok2⟩ := v_dr ok1 2 (by omega) (by omega)
  obtain ⟨o, a3, b3, e3, I3, ok3⟩ := v_idle ok2
  obtain ⟨a4, b4, e4, ok4⟩ := v_refusals S ok3
  obtain ⟨o2, a5, b5, e5, I5, ok5⟩ := v_idle ok4
  have du := v_dues S
  have to := v_told S
  have ri := v_right_idle S I3
  have ri2 := v_right_idle S I5
  have sd := law_same_tup (ds := duesD n js as r) dues_atom (by simp [duesD])
  have sb := law_same_atom (d := .bool (rtB n js as r .S)) rfl
  have d0 : gIx (.tuple (duesD n js as r)) (.int 0) = some (.bool (suitB n as r)) := rfl
  have d3 : gIx (.tuple (duesD n js as r)) (.int 3) = some (.bool (rtB n js as r .S)) := rfl
  generalize duesD n js as r = dues at du to sd d0 d3
  have lp : ∃ x10 : Sl, loopF (gN 8) lp_law_0 [.str "all", .str "commuting", .str "same"] [.im (.list (ns.map .int)), .ow false (st a3 b3), .im (.tuple [planD n js as, rowD r]), .im (planD n js as), .im (rowD r), .im (.tuple dues), .im (.bool (decide (q = 0))), .im o, .un, .un, .un] =
      some (.ok (.nx, [.im (.list (ns.map .int)), .ow false (st a3 b3), .im (.tuple [planD n js as, rowD r]), .im (planD n js as), .im (rowD r), .im (.tuple dues), .im (.bool (decide (q = 0))), .im o, .im (.str "same"), .un, x10])) ∧ Fr x10 := by
    by_cases hs : suitB n as r = true
    · have at_ : ∀ g, isAtom (fwB n js as r g) = true := fun g => by
        rcases fwR_form (pk g.key (wordsOf n js) as r) r.length with h | ⟨k, h⟩
        · unfold fwB; rw [h]; rfl
        · unfold fwB; rw [h]; rfl
      have fA := v_law_fw S .A hs
      have fC := v_law_fw S .C hs
      have fS := v_law_fw S .S hs
      have wA := v_wrong_at S .A hs
      have wC := v_wrong_at S .C hs
      have wS := v_wrong_at S .S hs
      have sA := law_same_atom (at_ .A)
      have sC := law_same_atom (at_ .C)
      have sS := law_same_atom (at_ .S)
      simp only [Gk.w, fwB] at fA fC fS wA wC wS sA sC sS
      refine ⟨.im (fwB n js as r .S), ?_, fr_im⟩
      simp [loopF, Dl.lp, nxt, lp_law_0, d0, hs, fA, fC, fS, wA, wC, wS, sA, sC, sS, Dl.dist, hasO, fwB]
    · simp only [Bool.not_eq_true] at hs
      refine ⟨.un, ?_, fr_un⟩
      simp [loopF, Dl.lp, nxt, lp_law_0, d0, hs]
  obtain ⟨x10, lp, h10⟩ := lp
  have q0 : decide ((q : Int) = 0) = decide (q = 0) := by apply decide_eq_decide.mpr; omega
  refine ⟨[.im (.list (ns.map .int))], ?_⟩
  · unfold f_law m_law
    simp [e0, e1, du, e2, q0, to, sd, e3, ri, d3, sb, ArI, line_ok, lp, e4, e5, ri2, h10, u_back, Dl.look, Dl.dist, hasO, mrg]
    rfl
end K6
theorem PySem.Challenge.cw_underthree_k06_whole_three_ways_of_right_holds : PySem.Challenge.rw_underthree_k06_whole_three_ways_of_right.Holds :=
  k06 fun ns h _ => K6.math ns h
