import PyProof.Rows.All
import HandS.ForMost
import HandS.Exc
import HandS.ExcOwn
import HandS.WordsExc
import HandS.ExcInit
import HandS.IsInst
import HandS.TryOnly
import HandS.TupMul
import HandS.Deep
import HandS.Wide
import HandS.WideBits
import HandS.TupLe
import HandS.TupSets
import HandS.SortInts
import HandS.SetKeys
import HandS.Zip0
import HandS.Conv
import HandS.ExcField
import PyProof.ReprRoads
import HandS.SetFor
import HandS.Strs
import HandS.Nested
import HandS.Zip
import HandS.CallLocal
import HandS.More
import KE.KDictZip
import HandS.ListItems
import HandS.Star
import KE.GoesMore
import HandS.Head2
import HandS.HeadEnd
import HandS.HeadHook4
import HandS.Ends
import HandS.EndBits
import HandS.TryMany
import HandS.Style
import KE.KExcIs
import HandS.RevTup
import Lean
import KE.KStateDown
import PySem.Challenge.RW_underthree_k02_whole_histories_and_calen
set_option Elab.async false
set_option linter.all false
set_option maxRecDepth 100000
namespace Dl
open PySem PySem.Spec PyProof.Rows L2
def oexB (K : PySem.W.Frag) (C : Addr) : Bool := (match K.lookup C with
  | some ⟨.type t, _, .cls cd, sl⟩ => decide (t = "type") && (match cd.mro, sl.toList with
    | .ref c :: bm, [_, _, _, _, some (.builtin n), _] => decide (c = C) && decide (n = "ValueError.__new__") && cd.hasDict && !cd.hasDel && PySem.HandSPX.refsVE bm
    | _, _ => false)
  | _ => false) && He.eqO (PySem.W.findIn K (.ref C) "__setattr__") (some (some (.builtin "object.__setattr__"))) && decide (PySem.W.subIn K (.ref C) (.type "BaseException") = some true) && decide (PySem.W.typeIn K (.ref C) = some (.type "type")) && PySem.W.keepIn K (.ref C)
def exB (K : PySem.W.Frag) (x f g : Str) : Bool := oexB K (He.ga K x) && L2.xfB K (He.ga K x) && He.eqO (PySem.W.findIn K (.ref (He.ga K x)) f) (some none) && He.eqO (PySem.W.findIn K (.ref (He.ga K x)) g) (some none) &&
  He.eqO (PySem.W.findIn K (.ref (He.ga K x)) "__init__") (some (some (.ref (He.ma K (He.ga K x) "__init__")))) && decide (PySem.W.typeIn K (.ref (He.ma K (He.ga K x) "__init__")) = some (.type "function")) && decide (PySem.W.exmOne K (.ref (He.ga K x)) (.ref (He.ga K x)) = some true)
def clsDef (i : Nat) : Stmt → Stmt
  | .ClassDef _ _ _ body _ _ _ _ _ _ _ => body.getD i (.Pass ⟨0, 0, 0, 0⟩)
  | s => s
def exiB (K : PySem.W.Frag) (C : Addr) : Bool := (PySem.W.clsIn K C).isSome && He.eqO (PySem.W.findIn K (.ref C) "__getattribute__") (some (some (.builtin "BaseException.__getattribute__"))) && He.eqO (PySem.W.findIn K (.ref C) "__getattr__") (some none) && decide (PySem.W.subIn K (.ref C) (.type "BaseException") = some true)
  && He.eqO (PySem.W.findIn K (.ref C) "__class__") (some (some (.builtin "object.__class__"))) && He.eqO (PySem.W.specialIn K (.builtin "object.__class__") "__get__") (some (some (.builtin "getset_descriptor.__get__"))) && decide (PySem.W.takesIn K (.builtin "object.__class__") = some true) && decide (PySem.W.mroIn K C (.type "object") = some true)
def obsL (as : List Addr) (fa : List He.Fa) (fn : List He.DefD) (ts : List He.Tab) (ex : PySem.W.Frag → Bool) (g : Addr → Option Obj) : He.AlX := (He.obsT fa fn ts (He.frT g as), ex (He.frT g as))
def hookL (as : List Addr) (fa : List He.Fa) (fn : List He.DefD) (ts : List He.Tab) (ex : PySem.W.Frag → Bool) : PySem.W.Hook where
  α := He.AlX
  obs := fun s => obsL as fa fn ts ex s.heap.get?
  val := fun w => He.valX fn ts w
  says := fun w h => ∃ K : PySem.W.Frag, K.In h ∧ He.SaysX fa fn ts [] ex w h K
  of := fun _ _ e => ⟨_, He.frT_in, congrArg (fun z : He.AlX => z.1) e, congrArg (fun z : He.AlX => z.2) e, (fun _ h => nomatch h), (fun _ h => nomatch h), fun _ h => nomatch h⟩
  keeps := fun _ _ _ ⟨K, hK, c⟩ k => ⟨K, PySem.W.Frag.In.keeps hK k, ⟨c.t, c.more, c.hd, c.out, fun p hp => k _ _ (c.empty p hp)⟩⟩
theorem obsL_eq {as : List Addr} {fa : List He.Fa} {fn : List He.DefD} {ts : List He.Tab} {ex : PySem.W.Frag → Bool} {g : Addr → Option Obj} {s : Shared} (h : ∀ a, g a = s.heap.get? a) : obsL as fa fn ts ex g = (hookL as fa fn ts ex).obs s := by
  have e : g = s.heap.get? := funext h
  rw [e] <;> rfl
def exmB (K : PySem.W.Frag) (xs : List Str) : Bool := xs.all fun x => xs.all fun y => decide (PySem.W.exmOne K (.ref (He.ga K x)) (.ref (He.ga K y)) = some (decide (x = y)))
theorem map2_some {σ α β : Type} {o : Option σ} {f : σ → α} {g : σ → β} {a : α} {b : β} (h1 : o.map f = some a) (h2 : o.map g = some b) : o.map (fun s => (f s, g s)) = some (a, b) := by
  cases o with
  | none => cases h1
  | some s =>
    cases h1
    cases h2
    rfl
theorem map3_some {σ α β γ : Type} {o : Option σ} {f : σ → α} {g : σ → β} {h : σ → γ} {a : α} {b : β} {c : γ} (h1 : o.map f = some a) (h2 : o.map g = some b) (h3 : o.map h = some c) : o.map (fun s => (f s, g s, h s)) = some (a, b, c) := map2_some h1 (map2_some h2 h3)
end Dl
set_option maxHeartbeats 0
namespace K2
open PySem PySem.Spec PyProof.Rows L2 Dl
def top (i : Nat) : Stmt := PySem.Challenge.pw_underthree_k02_whole_histories_and_calen.main.body.getD i (.Pass ⟨0, 0, 0, 0⟩)
abbrev s_is_integer : Stmt := top 8
abbrev s_is_group : Stmt := top 11
abbrev s_crossed_asks : Stmt := top 16
abbrev s__growth : Stmt := top 30
abbrev s__law_nums : Stmt := top 39
abbrev s__law_int : Stmt := top 40
abbrev s__law_events : Stmt := top 42
abbrev s__law_play : Stmt := top 43
abbrev s__law_line : Stmt := top 46
abbrev s__law_fault : Stmt := top 48
abbrev s__law_steady : Stmt := top 57
abbrev s_is_number : Stmt := top 9
abbrev s_is_positive : Stmt := top 10
abbrev s__law_event : Stmt := top 44
abbrev s__law_asks : Stmt := top 47
abbrev s__law_row : Stmt := top 49
abbrev s__law_calendar : Stmt := top 58
abbrev s__law_timed : Stmt := top 59
abbrev s_is_stretch : Stmt := top 12
abbrev s_need : Stmt := top 18
abbrev s_refuse : Stmt := top 21
abbrev s__is_queue_event : Stmt := top 29
abbrev s__are_numbers : Stmt := top 36
abbrev s__law_checked : Stmt := top 45
abbrev s_asks_fault : Stmt := top 13
abbrev s_asks_of : Stmt := top 23
abbrev s__history_fault : Stmt := top 31
abbrev s_steady_asks : Stmt := top 33
abbrev s_calendar_asks : Stmt := top 34
abbrev s__are_times : Stmt := top 37
abbrev s__law_steps : Stmt := top 50
abbrev s__law_spoilt : Stmt := top 54
abbrev s_is_asks : Stmt := top 14
abbrev s_lets_history : Stmt := top 25
abbrev s_is_history : Stmt := top 26
abbrev s_timed_asks : Stmt := top 35
abbrev s_is_queue : Stmt := top 15
abbrev s_asks_by : Stmt := top 27
abbrev s__law_same : Stmt := top 41
abbrev s_need_order : Stmt := top 20
abbrev s__law_calendars : Stmt := top 60
abbrev s_need_queue : Stmt := top 19
abbrev s_history_by : Stmt := top 28
abbrev s__law_call : Stmt := top 51
abbrev s__law_history : Stmt := top 53
abbrev s__law_refused : Stmt := top 52
abbrev s__law_spoilt_histories : Stmt := top 55
abbrev s__law_rows : Stmt := top 56
abbrev s__law_bad_calendars : Stmt := top 61
abbrev s_law : Stmt := top 62
abbrev s_init_NotUsable : Stmt := clsDef 0 (top 5)
def d_init_NotUsable : He.DefD := ⟨("NotUsable", some "__init__"), "__init__", "NotUsable.__init__", defArgs s_init_NotUsable, defBody s_init_NotUsable, defScope s_init_NotUsable, [], []⟩
abbrev s_init_OutOfOrder : Stmt := clsDef 0 (top 6)
def d_init_OutOfOrder : He.DefD := ⟨("OutOfOrder", some "__init__"), "__init__", "OutOfOrder.__init__", defArgs s_init_OutOfOrder, defBody s_init_OutOfOrder, defScope s_init_OutOfOrder, [], []⟩
abbrev s_init_InvalidPaper : Stmt := clsDef 0 (top 4)
def d_init_InvalidPaper : He.DefD := ⟨("InvalidPaper", some "__init__"), "__init__", "InvalidPaper.__init__", defArgs s_init_InvalidPaper, defBody s_init_InvalidPaper, defScope s_init_InvalidPaper, [], []⟩
def d_is_integer : He.DefD := ⟨("is_integer", none), "is_integer", "is_integer", defArgs s_is_integer, defBody s_is_integer, defScope s_is_integer, [], []⟩
def d_is_number : He.DefD := ⟨("is_number", none), "is_number", "is_number", defArgs s_is_number, defBody s_is_number, defScope s_is_number, [], []⟩
def d_is_positive : He.DefD := ⟨("is_positive", none), "is_positive", "is_positive", defArgs s_is_positive, defBody s_is_positive, defScope s_is_positive, [], []⟩
def d_is_group : He.DefD := ⟨("is_group", none), "is_group", "is_group", defArgs s_is_group, defBody s_is_group, defScope s_is_group, [], []⟩
def d_is_stretch : He.DefD := ⟨("is_stretch", none), "is_stretch", "is_stretch", defArgs s_is_stretch, defBody s_is_stretch, defScope s_is_stretch, [], []⟩
def d_asks_fault : He.DefD := ⟨("asks_fault", none), "asks_fault", "asks_fault", defArgs s_asks_fault, defBody s_asks_fault, defScope s_asks_fault, [], []⟩
def d_is_asks : He.DefD := ⟨("is_asks", none), "is_asks", "is_asks", defArgs s_is_asks, defBody s_is_asks, defScope s_is_asks, [], []⟩
def d_is_queue : He.DefD := ⟨("is_queue", none), "is_queue", "is_queue", defArgs s_is_queue, defBody s_is_queue, defScope s_is_queue, [], []⟩
def d_crossed_asks : He.DefD := ⟨("crossed_asks", none), "crossed_asks", "crossed_asks", defArgs s_crossed_asks, defBody s_crossed_asks, defScope s_crossed_asks, [], []⟩
def d_need : He.DefD := ⟨("need", none), "need", "need", defArgs s_need, defBody s_need, defScope s_need, [], []⟩
def d_need_queue : He.DefD := ⟨("need_queue", none), "need_queue", "need_queue", defArgs s_need_queue, defBody s_need_queue, defScope s_need_queue, [], []⟩
def d_need_order : He.DefD := ⟨("need_order", none), "need_order", "need_order", defArgs s_need_order, defBody s_need_order, defScope s_need_order, [], []⟩
def d_refuse : He.DefD := ⟨("refuse", none), "refuse", "refuse", defArgs s_refuse, defBody s_refuse, defScope s_refuse, [], []⟩
def d_asks_of : He.DefD := ⟨("asks_of", none), "asks_of", "asks_of", defArgs s_asks_of, defBody s_asks_of, defScope s_asks_of, [], []⟩
def d_lets_history : He.DefD := ⟨("lets_history", none), "lets_history", "lets_history", defArgs s_lets_history, defBody s_lets_history, defScope s_lets_history, [], []⟩
def d_is_history : He.DefD := ⟨("is_history", none), "is_history", "is_history", defArgs s_is_history, defBody s_is_history, defScope s_is_history, [], []⟩
def d_asks_by : He.DefD := ⟨("asks_by", none), "asks_by", "asks_by", defArgs s_asks_by, defBody s_asks_by, defScope s_asks_by, [], []⟩
def d_history_by : He.DefD := ⟨("history_by", none), "history_by", "history_by", defArgs s_history_by, defBody s_history_by, defScope s_history_by, [], []⟩
def d__is_queue_event : He.DefD := ⟨("_is_queue_event", none), "_is_queue_event", "_is_queue_event", defArgs s__is_queue_event, defBody s__is_queue_event, defScope s__is_queue_event, [], []⟩
def d__growth : He.DefD := ⟨("_growth", none), "_growth", "_growth", defArgs s__growth, defBody s__growth, defScope s__growth, [], []⟩
def d__history_fault : He.DefD := ⟨("_history_fault", none), "_history_fault", "_history_fault", defArgs s__history_fault, defBody s__history_fault, defScope s__history_fault, [], []⟩
def d_steady_asks : He.DefD := ⟨("steady_asks", none), "steady_asks", "steady_asks", defArgs s_steady_asks, defBody s_steady_asks, defScope s_steady_asks, [], []⟩
def d_calendar_asks : He.DefD := ⟨("calendar_asks", none), "calendar_asks", "calendar_asks", defArgs s_calendar_asks, defBody s_calendar_asks, defScope s_calendar_asks, [], []⟩
def d_timed_asks : He.DefD := ⟨("timed_asks", none), "timed_asks", "timed_asks", defArgs s_timed_asks, defBody s_timed_asks, defScope s_timed_asks, [], []⟩
def d__are_numbers : He.DefD := ⟨("_are_numbers", none), "_are_numbers", "_are_numbers", defArgs s__are_numbers, defBody s__are_numbers, defScope s__are_numbers, [], []⟩
def d__are_times : He.DefD := ⟨("_are_times", none), "_are_times", "_are_times", defArgs s__are_times, defBody s__are_times, defScope s__are_times, [], []⟩
def d__law_nums : He.DefD := ⟨("_law_nums", none), "_law_nums", "_law_nums", defArgs s__law_nums, defBody s__law_nums, defScope s__law_nums, [], []⟩
def d__law_int : He.DefD := ⟨("_law_int", none), "_law_int", "_law_int", defArgs s__law_int, defBody s__law_int, defScope s__law_int, [], []⟩
def d__law_same : He.DefD := ⟨("_law_same", none), "_law_same", "_law_same", defArgs s__law_same, defBody s__law_same, defScope s__law_same, [], []⟩
def d__law_events : He.DefD := ⟨("_law_events", none), "_law_events", "_law_events", defArgs s__law_events, defBody s__law_events, defScope s__law_events, [], []⟩
def d__law_play : He.DefD := ⟨("_law_play", none), "_law_play", "_law_play", defArgs s__law_play, defBody s__law_play, defScope s__law_play, [], []⟩
def d__law_event : He.DefD := ⟨("_law_event", none), "_law_event", "_law_event", defArgs s__law_event, defBody s__law_event, defScope s__law_event, [], []⟩
def d__law_checked : He.DefD := ⟨("_law_checked", none), "_law_checked", "_law_checked", defArgs s__law_checked, defBody s__law_checked, defScope s__law_checked, [], []⟩
def d__law_line : He.DefD := ⟨("_law_line", none), "_law_line", "_law_line", defArgs s__law_line, defBody s__law_line, defScope s__law_line, [], []⟩
def d__law_asks : He.DefD := ⟨("_law_asks", none), "_law_asks", "_law_asks", defArgs s__law_asks, defBody s__law_asks, defScope s__law_asks, [], []⟩
def d__law_fault : He.DefD := ⟨("_law_fault", none), "_law_fault", "_law_fault", defArgs s__law_fault, defBody s__law_fault, defScope s__law_fault, [], []⟩
def d__law_row : He.DefD := ⟨("_law_row", none), "_law_row", "_law_row", defArgs s__law_row, defBody s__law_row, defScope s__law_row, [], []⟩
def d__law_steps : He.DefD := ⟨("_law_steps", none), "_law_steps", "_law_steps", defArgs s__law_steps, defBody s__law_steps, defScope s__law_steps, [], []⟩
def d__law_call : He.DefD := ⟨("_law_call", none), "_law_call", "_law_call", defArgs s__law_call, defBody s__law_call, defScope s__law_call, [], []⟩
def d__law_refused : He.DefD := ⟨("_law_refused", none), "_law_refused", "_law_refused", defArgs s__law_refused, defBody s__law_refused, defScope s__law_refused, [], []⟩
def d__law_history : He.DefD := ⟨("_law_history", none), "_law_history", "_law_history", defArgs s__law_history, defBody s__law_history, defScope s__law_history, [], []⟩
def d__law_spoilt : He.DefD := ⟨("_law_spoilt", none), "_law_spoilt", "_law_spoilt", defArgs s__law_spoilt, defBody s__law_spoilt, defScope s__law_spoilt, [], []⟩
def d__law_spoilt_histories : He.DefD := ⟨("_law_spoilt_histories", none), "_law_spoilt_histories", "_law_spoilt_histories", defArgs s__law_spoilt_histories, defBody s__law_spoilt_histories, defScope s__law_spoilt_histories, [], []⟩
def d__law_rows : He.DefD := ⟨("_law_rows", none), "_law_rows", "_law_rows", defArgs s__law_rows, defBody s__law_rows, defScope s__law_rows, [], []⟩
def d__law_steady : He.DefD := ⟨("_law_steady", none), "_law_steady", "_law_steady", defArgs s__law_steady, defBody s__law_steady, defScope s__law_steady, [], []⟩
def d__law_calendar : He.DefD := ⟨("_law_calendar", none), "_law_calendar", "_law_calendar", defArgs s__law_calendar, defBody s__law_calendar, defScope s__law_calendar, [], []⟩
def d__law_timed : He.DefD := ⟨("_law_timed", none), "_law_timed", "_law_timed", defArgs s__law_timed, defBody s__law_timed, defScope s__law_timed, [], []⟩
def d__law_calendars : He.DefD := ⟨("_law_calendars", none), "_law_calendars", "_law_calendars", defArgs s__law_calendars, defBody s__law_calendars, defScope s__law_calendars, [], []⟩
def d__law_bad_calendars : He.DefD := ⟨("_law_bad_calendars", none), "_law_bad_calendars", "_law_bad_calendars", defArgs s__law_bad_calendars, defBody s__law_bad_calendars, defScope s__law_bad_calendars, [], []⟩
def d_law : He.DefD := ⟨("law", none), "law", "law", defArgs s_law, defBody s_law, defScope s_law, [], []⟩
def fn0 : List He.DefD := [d_init_NotUsable, d_init_OutOfOrder, d_init_InvalidPaper, d_is_integer, d_is_number, d_is_positive, d_is_group, d_is_stretch, d_asks_fault, d_is_asks, d_is_queue, d_crossed_asks, d_need, d_need_queue, d_need_order, d_refuse, d_asks_of, d_lets_history, d_is_history, d_asks_by, d_history_by, d__is_queue_event, d__growth, d__history_fault, d_steady_asks, d_calendar_asks, d_timed_asks, d__are_numbers, d__are_times, d__law_nums, d__law_int, d__law_same, d__law_events, d__law_play, d__law_event]
def fn1 : List He.DefD := [d__law_checked, d__law_line, d__law_asks, d__law_fault, d__law_row, d__law_steps, d__law_call, d__law_refused, d__law_history, d__law_spoilt, d__law_spoilt_histories, d__law_rows, d__law_steady, d__law_calendar, d__law_timed, d__law_calendars, d__law_bad_calendars, d_law]
def fn : List He.DefD := fn0 ++ fn1
def fa0 : List He.Fa := [.glo "is_integer", .glo "is_number", .glo "is_positive", .glo "is_group", .glo "is_stretch", .glo "asks_fault", .glo "is_asks", .glo "is_queue", .glo "crossed_asks", .glo "need", .glo "need_queue", .glo "need_order", .glo "refuse", .glo "asks_of", .glo "lets_history", .glo "is_history", .glo "asks_by", .glo "history_by", .glo "_is_queue_event", .glo "_growth", .glo "_history_fault", .glo "steady_asks", .glo "calendar_asks", .glo "timed_asks", .glo "_are_numbers", .glo "_are_times", .glo "_law_nums", .glo "_law_int", .glo "_law_same", .glo "_law_events", .glo "_law_play", .glo "_law_event", .glo "_law_checked", .glo "_law_line", .glo "_law_asks"]
def fa1 : List He.Fa := [.glo "_law_fault", .glo "_law_row", .glo "_law_steps", .glo "_law_call", .glo "_law_refused", .glo "_law_history", .glo "_law_spoilt", .glo "_law_spoilt_histories", .glo "_law_rows", .glo "_law_steady", .glo "_law_calendar", .glo "_law_timed", .glo "_law_calendars", .glo "_law_bad_calendars", .glo "law", .glo "NotUsable", .glo "OutOfOrder", .glo "InvalidPaper", .glo "AskError", .glo "PaperError", .glo "UnderError", .free "isinstance", .free "int", .free "bool", .free "str", .free "tuple", .free "list", .free "len", .free "range", .free "enumerate", .free "zip", .free "all", .free "any", .free "sum", .free "max"]
def fa2 : List He.Fa := [.free "min", .free "sorted", .free "set", .free "ValueError"]
def fa : List He.Fa := fa0 ++ fa1 ++ fa2
def ts : List He.Tab := []
def ex (K : PySem.W.Frag) : Bool := exB K "NotUsable" "word" "at" && exB K "OutOfOrder" "one" "other" && exB K "InvalidPaper" "word" "at" && exiB K (He.ga K "InvalidPaper") && exiB K (He.ga K "NotUsable") && exiB K (He.ga K "OutOfOrder") && decide (PySem.W.kitOne K (.ref (He.ga K "InvalidPaper")) (.ref (He.ga K "PaperError")) = some true) && decide (PySem.W.kitOne K (.ref (He.ga K "InvalidPaper")) (.ref (He.ga K "UnderError")) = some true) && decide (PySem.W.kitOne K (.ref (He.ga K "NotUsable")) (.ref (He.ga K "AskError")) = some true) && decide (PySem.W.kitOne K (.ref (He.ga K "NotUsable")) (.ref (He.ga K "PaperError")) = some false) && decide (PySem.W.kitOne K (.ref (He.ga K "OutOfOrder")) (.ref (He.ga K "AskError")) = some true) && decide (PySem.W.kitOne K (.ref (He.ga K "OutOfOrder")) (.type "ValueError") = some true) && exmB K ["NotUsable", "OutOfOrder", "InvalidPaper"]
def adl : List Addr := [3, 6, 4, 24, 37, 49, 68, 87, 106, 115, 122, 129, 136, 143, 150, 157, 162, 169, 176, 183, 190, 197, 204, 209, 216, 223, 230, 237, 244, 251, 256, 261, 266, 271, 276, 283, 290, 295, 302, 309, 316, 323, 330, 337, 344, 351, 358, 365, 372, 379, 386, 393, 400, 407, 414, 419, 424, 431, 438, 0, 23, 36, 48, 67, 86, 105, 114, 121, 128, 135, 142, 149, 156, 161, 168, 175, 182, 189, 196, 203, 208, 215, 222, 229, 236, 243, 250, 255, 260, 265, 270, 275, 282, 289, 294, 301, 308, 315, 322, 329, 336, 343, 350, 357, 364, 371, 378, 385, 392, 399, 406, 413, 418, 423, 430, 437, 22, 25, 35, 47, 65, 66, 84, 85, 103, 104, 109, 110, 111, 112, 113, 116, 117, 118, 119, 120, 123, 124, 125, 126, 127, 130, 131, 132, 133, 134, 137, 138, 139, 140, 141, 144, 145, 146, 147, 148, 151, 152, 153, 154, 155, 158, 159, 160, 163, 164, 165, 166, 167, 170, 171, 172, 173, 174, 177, 178, 179, 180, 181, 184, 185, 186, 187, 188, 191, 192, 193, 194, 195, 198, 199, 200, 201, 202, 205, 206, 207, 210, 211, 212, 213, 214, 217, 218, 219, 220, 221, 224, 225, 226, 227, 228, 231, 232, 233, 234, 235, 238, 239, 240, 241, 242, 245, 246, 247, 248, 249, 252, 253, 254, 257, 258, 259, 262, 263, 264, 267, 268, 269, 272, 273, 274, 277, 278, 279, 280, 281, 284, 285, 286, 287, 288, 291, 292, 293, 296, 297, 298, 299, 300, 303, 304, 305, 306, 307, 310, 311, 312, 313, 314, 317, 318, 319, 320, 321, 324, 325, 326, 327, 328, 331, 332, 333, 334, 335, 338, 339, 340, 341, 342, 345, 346, 347, 348, 349, 352, 353, 354, 355, 356, 359, 360, 361, 362, 363, 366, 367, 368, 369, 370, 373, 374, 375, 376, 377, 380, 381, 382, 383, 384, 387, 388, 389, 390, 391, 394, 395, 396, 397, 398, 401, 402, 403, 404, 405, 408, 409, 410, 411, 412, 415, 416, 417, 420, 421, 422, 425, 426, 427, 428, 429, 432, 433, 434, 435, 436, 64, 83, 102, 59, 60, 61, 62, 63, 78, 79, 80, 81, 82, 97, 98, 99, 100, 101]
abbrev R : PySem.W.OpenRow := PySem.W.OpenLaw.row PySem.Challenge.rw_underthree_k02_whole_histories_and_calen
abbrev hk : PySem.W.Hook := hookL adl fa fn ts ex
def ob (s : PySem.W.SharedT) : He.AlX := obsL adl fa fn ts ex (HandSHeadRun.getT s)
theorem ob_eq (s : PySem.W.SharedT) : ob s = hk.obs s.abs := obsL_eq (HandSHeadRun.getT_eq s)
def loose0 : List Str := [("is_integer" : Str), ("is_number" : Str), ("is_positive" : Str), ("is_group" : Str), ("is_stretch" : Str), ("asks_fault" : Str), ("is_asks" : Str), ("is_queue" : Str), ("crossed_asks" : Str), ("need" : Str), ("need_queue" : Str), ("need_order" : Str), ("refuse" : Str), ("asks_of" : Str), ("lets_history" : Str), ("is_history" : Str), ("asks_by" : Str), ("history_by" : Str), ("_is_queue_event" : Str), ("_growth" : Str), ("_history_fault" : Str), ("steady_asks" : Str), ("calendar_asks" : Str), ("timed_asks" : Str), ("_are_numbers" : Str), ("_are_times" : Str), ("_law_nums" : Str), ("_law_int" : Str), ("_law_same" : Str), ("_law_events" : Str), ("_law_play" : Str), ("_law_event" : Str), ("_law_checked" : Str), ("_law_line" : Str), ("_law_asks" : Str)]
def loose1 : List Str := [("_law_fault" : Str), ("_law_row" : Str), ("_law_steps" : Str), ("_law_call" : Str), ("_law_refused" : Str), ("_law_history" : Str), ("_law_spoilt" : Str), ("_law_spoilt_histories" : Str), ("_law_rows" : Str), ("_law_steady" : Str), ("_law_calendar" : Str), ("_law_timed" : Str), ("_law_calendars" : Str), ("_law_bad_calendars" : Str), ("UnderError" : Str), ("PaperError" : Str), ("AskError" : Str), ("InvalidPaper" : Str), ("NotUsable" : Str), ("OutOfOrder" : Str), ("__name__" : Str)]
def loose : List Str := loose0 ++ loose1
abbrev vw : Program := PySem.W.view R.prog [62]
section
open PySem.W HandSHeadRun
def RunP {β : Type} (g : SharedT → β) (v : β) (w : World) : Prop := ∀ os : OsState, (endF (stepQ (denQ tabQ) R.prog w) 6000 R.prog w os).map g = some v
theorem run_of {w : World} (h1 : RunP (fun s => looksF R.prog (boot_heap w.params) s.abs) true w) (h2 : RunP (fun s => seenQ vw loose (importedModules R.prog.main.body) (fun s => xlAt vw [] s && recOk R.toRowW.records s) s.abs) (openGood vw loose) w) (h3 : RunP ob (hk.val w) w) : RunEq R vw hk ob 6000 loose w :=
  fun os => map3_some (h1 os) (h2 os) (h3 os)
theorem run_f1 (w : World) : RunP (fun s => looksF R.prog (boot_heap (w.withFollow "special-get-raises" false).params) s.abs) true (w.withFollow "special-get-raises" false) := by
  intro os
  kernel_rfl
theorem run_f2 (w : World) : RunP (fun s => seenQ vw loose (importedModules R.prog.main.body) (fun s => xlAt vw [] s && recOk R.toRowW.records s) s.abs) (openGood vw loose) (w.withFollow "special-get-raises" false) := by
  intro os
  kernel_rfl
theorem run_f3 (w : World) : RunP ob (hk.val (w.withFollow "special-get-raises" false)) (w.withFollow "special-get-raises" false) := by
  intro os
  kernel_rfl
theorem run_f (w : World) : RunEq R vw hk ob 6000 loose (w.withFollow "special-get-raises" false) := run_of (run_f1 w) (run_f2 w) (run_f3 w)
theorem run_t1 (w : World) : RunP (fun s => looksF R.prog (boot_heap (w.withFollow "special-get-raises" true).params) s.abs) true (w.withFollow "special-get-raises" true) := by
  intro os
  kernel_rfl
theorem run_t2 (w : World) : RunP (fun s => seenQ vw loose (importedModules R.prog.main.body) (fun s => xlAt vw [] s && recOk R.toRowW.records s) s.abs) (openGood vw loose) (w.withFollow "special-get-raises" true) := by
  intro os
  kernel_rfl
theorem run_t3 (w : World) : RunP ob (hk.val (w.withFollow "special-get-raises" true)) (w.withFollow "special-get-raises" true) := by
  intro os
  kernel_rfl
theorem run_t (w : World) : RunEq R vw hk ob 6000 loose (w.withFollow "special-get-raises" true) := run_of (run_t1 w) (run_t2 w) (run_t3 w)
end
theorem run (w : World) : HandSHeadRun.RunEq R vw hk ob 6000 loose w := PySem.W.byRow2 "special-get-raises" (P := fun w => HandSHeadRun.RunEq R vw hk ob 6000 loose w) run_f run_t w
end K2
set_option maxHeartbeats 1000000
set_option Elab.async false
set_option linter.all false
set_option maxRecDepth 100000
namespace Dl
open PySem PySem.Spec PyProof.Rows L2
abbrev AS := Addr → Prop
abbrev Sg := L2.St
abbrev PD := PyData
def KLs (K : PySem.W.Frag) (a : Addr) (xs : List V) : Prop :=
  ∃ (o : Obj) (its : Array Value) (n : Nat), K.lookup a = some o ∧ o.cls = .type "list" ∧ o.dict = none ∧ o.data = .seq its n ∧ its.size ≤ sizeLine ∧ Vals xs its.toList
def KTp (K : PySem.W.Frag) (a : Addr) (xs : List V) : Prop :=
  ∃ (o : Obj) (its : Array Value) (n : Nat), K.lookup a = some o ∧ o.cls = .type "tuple" ∧ o.data = .seq its n ∧ its.size ≤ sizeLine ∧ Vals xs its.toList
def LA (K : PySem.W.Frag) (H : Hp) (A : AS) (a : Addr) (xs : List V) : Prop := (Rd H a (.lst xs) ∧ ¬ A a) ∨ KLs K a xs
def TAv (K : PySem.W.Frag) (H : Hp) (A : AS) (a : Addr) (xs : List V) : Prop := (Rd H a (.tup xs) ∧ ¬ A a) ∨ KTp K a xs
theorem LA.sq {K H A a xs} (h : LA K H A a xs) : SqL K H a xs := h.elim (fun x => .inl x.1) .inr
theorem TAv.sq {K H A a xs} (h : TAv K H A a xs) : SqT K H a xs := h.elim (fun x => .inl x.1) .inr
mutual
inductive Dv (K : PySem.W.Frag) (H : Hp) (A : AS) : V → PD → Prop
  | non : Dv K H A .non .none
  | bl (b : Bool) : Dv K H A (.bl b) (.bool b)
  | int (i : Int) : Dv K H A (.int i) (.int i)
  | str (x : Str) : Dv K H A (.str x) (.str x)
  | lst {a : Addr} {xs : List V} {ds : List PD} : LA K H A a xs → DvA K H A xs ds → Dv K H A (.ref a) (.list ds)
  | tup {a : Addr} {xs : List V} {ds : List PD} : TAv K H A a xs → DvA K H A xs ds → Dv K H A (.ref a) (.tuple ds)
inductive DvA (K : PySem.W.Frag) (H : Hp) (A : AS) : List V → List PD → Prop
  | nil : DvA K H A [] []
  | cons {v : V} {vs : List V} {d : PD} {ds : List PD} : Dv K H A v d → DvA K H A vs ds → DvA K H A (v :: vs) (d :: ds)
end
def Ext (S : AS) (H H' : Hp) : Prop := ∀ a o, ¬ S a → H a = some o → H' a = some o
theorem rd_ext {S : AS} {H H' : Hp} {a : Addr} {u : HO} (e : Ext S H H') (n : ¬ S a) (r : Rd H a u) : Rd H' a u :=
  r.elim (fun x => .inl (e _ _ n x)) fun ⟨o, x⟩ => .inr ⟨o, e _ _ n x⟩
theorem rd_some {H : Hp} {a : Addr} {u : HO} (r : Rd H a u) : H a ≠ none := fun z => by
  rcases r with x | ⟨o, x⟩ <;> rw [z] at x <;> cases x
section
variable {K : PySem.W.Frag} {H H' : Hp} {S A A' : AS}
theorem LA.mono {a xs} (e : Ext S H H') (sa : ∀ a, S a → A a) (s : ∀ a, A' a → A a ∨ H a = none) (h : LA K H A a xs) : LA K H' A' a xs := by
  rcases h with ⟨r, n⟩ | h
  · refine .inl ⟨rd_ext e (fun z => n (sa _ z)) r, fun z => ?_⟩
    rcases s _ z with q | q
    · exact n q
    · exact rd_some r q
  · exact .inr h
theorem TAv.mono {a xs} (e : Ext S H H') (sa : ∀ a, S a → A a) (s : ∀ a, A' a → A a ∨ H a = none) (h : TAv K H A a xs) : TAv K H' A' a xs := by
  rcases h with ⟨r, n⟩ | h
  · refine .inl ⟨rd_ext e (fun z => n (sa _ z)) r, fun z => ?_⟩
    rcases s _ z with q | q
    · exact n q
    · exact rd_some r q
  · exact .inr h
mutual
theorem Dv.mono (e : Ext S H H') (sa : ∀ a, S a → A a) (s : ∀ a, A' a → A a ∨ H a = none) : ∀ {v : V} {d : PD}, Dv K H A v d → Dv K H' A' v d
  | _, _, .non => .non
  | _, _, .bl b => .bl b
  | _, _, .int i => .int i
  | _, _, .str x => .str x
  | _, _, .lst h t => .lst (h.mono e sa s) (DvA.mono e sa s t)
  | _, _, .tup h t => .tup (h.mono e sa s) (DvA.mono e sa s t)
theorem DvA.mono (e : Ext S H H') (sa : ∀ a, S a → A a) (s : ∀ a, A' a → A a ∨ H a = none) : ∀ {vs : List V} {ds : List PD}, DvA K H A vs ds → DvA K H' A' vs ds
  | _, _, .nil => .nil
  | _, _, .cons h t => .cons (Dv.mono e sa s h) (DvA.mono e sa s t)
end
mutual
theorem Dv.dp : ∀ {v : V} {d : PD}, Dv K H A v d → Dp K H v d
  | _, _, .non => .non
  | _, _, .bl b => .bl b
  | _, _, .int i => .int i
  | _, _, .str x => .str x
  | _, _, .lst h t => .lst h.sq (DvA.dp t)
  | _, _, .tup h t => .tup h.sq (DvA.dp t)
theorem DvA.dp : ∀ {vs : List V} {ds : List PD}, DvA K H A vs ds → DpAll K H vs ds
  | _, _, .nil => .nil
  | _, _, .cons h t => .cons (Dv.dp h) (DvA.dp t)
end
theorem Ext.refl : Ext S H H := fun _ _ _ h => h
theorem Ext.new {p : Addr} {o : HO} (np : H p = none) : Ext S H (upd H p o) := fun a u _ e => by rw [upd_ne (ne_of_none e np)]; exact e
theorem Dv.weak {v d} (h : Dv K H A v d) (s : ∀ a, A' a → A a) : Dv K H A' v d := h.mono (S := fun _ => False) Ext.refl (fun _ z => z.elim) fun a z => .inl (s a z)
theorem DvA.weak {v d} (h : DvA K H A v d) (s : ∀ a, A' a → A a) : DvA K H A' v d := h.mono (S := fun _ => False) Ext.refl (fun _ z => z.elim) fun a z => .inl (s a z)
theorem DvA.len : ∀ {vs : List V} {ds : List PD}, DvA K H A vs ds → vs.length = ds.length
  | _, _, .nil => rfl
  | _, _, .cons _ t => by simp [DvA.len t]
theorem DvA.get : ∀ {vs : List V} {ds : List PD} {i : Nat} {d : PD}, DvA K H A vs ds → ds[i]? = some d → ∃ v, vs[i]? = some v ∧ Dv K H A v d
  | _, _, _, _, .nil, e => by simp at e
  | _, _, 0, _, .cons h _, e => by simp at e; subst e; exact ⟨_, rfl, h⟩
  | _, _, i + 1, _, .cons _ t, e => by
    obtain ⟨v, h1, h2⟩ := DvA.get (i := i) t (by simpa using e)
    exact ⟨v, by simpa using h1, h2⟩
theorem DvA.getV : ∀ {vs : List V} {ds : List PD} {i : Nat} {v : V}, DvA K H A vs ds → vs[i]? = some v → ∃ d, ds[i]? = some d ∧ Dv K H A v d
  | _, _, _, _, .nil, e => by simp at e
  | _, _, 0, _, .cons h _, e => by simp at e; subst e; exact ⟨_, rfl, h⟩
  | _, _, i + 1, _, .cons _ t, e => by
    obtain ⟨v, h1, h2⟩ := DvA.getV (i := i) t (by simpa using e)
    exact ⟨v, by simpa using h1, h2⟩
theorem DvA.append : ∀ {vs us : List V} {ds es : List PD}, DvA K H A vs ds → DvA K H A us es → DvA K H A (vs ++ us) (ds ++ es)
  | _, _, _, _, .nil, s => s
  | _, _, _, _, .cons h t, s => .cons h (DvA.append t s)
theorem DvA.take : ∀ {vs : List V} {ds : List PD} (n : Nat), DvA K H A vs ds → DvA K H A (vs.take n) (ds.take n)
  | _, _, 0, _ => .nil
  | _, _, _ + 1, .nil => .nil
  | _, _, n + 1, .cons h t => .cons h (DvA.take n t)
theorem DvA.drop : ∀ {vs : List V} {ds : List PD} (n : Nat), DvA K H A vs ds → DvA K H A (vs.drop n) (ds.drop n)
  | _, _, 0, r => r
  | _, _, _ + 1, .nil => .nil
  | _, _, n + 1, .cons _ t => DvA.drop n t
theorem DvA.set {v : V} {d : PD} (h : Dv K H A v d) : ∀ {vs : List V} {ds : List PD} (i : Nat), DvA K H A vs ds → DvA K H A (vs.set i v) (ds.set i d)
  | _, _, _, .nil => .nil
  | _, _, 0, .cons _ t => .cons h t
  | _, _, i + 1, .cons q t => .cons q (DvA.set h i t)
theorem DvA.one {v : V} {d : PD} (h : Dv K H A v d) : DvA K H A [v] [d] := .cons h .nil
end
inductive Ct where
  | l (ds : List PD) | m (kds : List (Key × PD))
def CtV (K : PySem.W.Frag) (H : Hp) (A : AS) : HO → Ct → Prop
  | .lst vs, .l ds => DvA K H A vs ds
  | .dK kvs, .m kds => kvs.map (·.1) = kds.map (·.1) ∧ DvA K H A (kvs.map (·.2)) (kds.map (·.2))
  | _, _ => False
section
variable {K : PySem.W.Frag} {H H' : Hp} {S A A' : AS} {o : HO}
theorem CtV.mono {ct : Ct} (h : CtV K H A o ct) (e : Ext S H H') (sa : ∀ a, S a → A a) (s : ∀ a, A' a → A a ∨ H a = none) : CtV K H' A' o ct := by
  cases o <;> cases ct <;> first
    | exact DvA.mono e sa s h
    | exact ⟨h.1, DvA.mono e sa s h.2⟩
    | exact h
theorem CtV.weak {ct : Ct} (h : CtV K H A o ct) (s : ∀ a, A' a → A a) : CtV K H A' o ct := h.mono (S := fun _ => False) Ext.refl (fun _ z => z.elim) fun a z => .inl (s a z)
theorem CtV.lst {ds : List PD} (h : CtV K H A o (.l ds)) : ∃ vs, o = .lst vs ∧ DvA K H A vs ds := by
  cases o <;> first
    | exact ⟨_, rfl, h⟩
    | exact False.elim h
theorem CtV.dct {kds : List (Key × PD)} (h : CtV K H A o (.m kds)) : ∃ kvs, o = .dK kvs ∧ kvs.map (·.1) = kds.map (·.1) ∧ DvA K H A (kvs.map (·.2)) (kds.map (·.2)) := by
  cases o <;> first
    | exact ⟨_, rfl, h⟩
    | exact False.elim h
end
inductive Sl where
  | im (d : PD) | ow (pm : Bool) (ct : Ct) | un
abbrev Nv := List Sl
def Own (σ : Sg) (n : Nv) : AS := fun a => ∃ (i : Nat) (pm : Bool) (ds : Ct), n[i]? = some (.ow pm ds) ∧ σ[i]? = some (some (.ref a))
def AV (S : AS) (σ : Sg) (n : Nv) : AS := fun a => S a ∨ Own σ n a
structure Rel (K : PySem.W.Frag) (S : AS) (H : Hp) (σ : Sg) (n : Nv) : Prop where
  len : n.length = σ.length
  im : ∀ (i : Nat) (d : PD), n[i]? = some (.im d) → ∃ v, σ[i]? = some (some v) ∧ Dv K H (AV S σ n) v d
  ow : ∀ (i : Nat) (pm : Bool) (ds : Ct), n[i]? = some (.ow pm ds) → ∃ (p : Addr) (vs : HO), σ[i]? = some (some (.ref p)) ∧ H p = some vs ∧ CtV K H (AV S σ n) vs ds ∧ (pm = false → ¬ S p)
  inj : ∀ (i j : Nat) (pm qm : Bool) (ds es : Ct) (p : Addr), n[i]? = some (.ow pm ds) → n[j]? = some (.ow qm es) → σ[i]? = some (some (.ref p)) → σ[j]? = some (some (.ref p)) → i = j
  trk : ∀ a, S a → H a ≠ none
structure Stp (σ : Sg) (n : Nv) (H : Hp) (σ' : Sg) (n' : Nv) (H' : Hp) : Prop where
  ext : ∀ a o, ¬ Own σ n a → H a = some o → H' a = some o
  own : ∀ a, Own σ' n' a → Own σ n a ∨ H a = none
  dom : ∀ a, H a ≠ none → H' a ≠ none
  pmk : ∀ (i : Nat) (ds : Ct), n[i]? = some (.ow true ds) → σ'[i]? = σ[i]? ∧ ∃ es, n'[i]? = some (.ow true es)
section
variable {K : PySem.W.Frag} {S : AS} {H H' H1 H2 : Hp} {σ σ' σ1 σ2 : Sg} {n n' n1 n2 : Nv}
theorem Stp.refl : Stp σ n H σ n H := ⟨fun _ _ _ h => h, fun _ h => .inl h, fun _ h => h, fun _ ds h => ⟨rfl, ds, h⟩⟩
theorem Stp.trans (a : Stp σ n H σ1 n1 H1) (b : Stp σ1 n1 H1 σ2 n2 H2) : Stp σ n H σ2 n2 H2 where
  ext := fun c o h e => b.ext c o (fun z => (a.own c z).elim h fun q => by rw [q] at e; cases e) (a.ext c o h e)
  own := fun c h => (b.own c h).elim (fun z => a.own c z) fun q => .inr (Classical.byContradiction fun z => a.dom c z q)
  dom := fun c h => b.dom c (a.dom c h)
  pmk := fun i ds h => by
    obtain ⟨e1, es, h1⟩ := a.pmk i ds h
    obtain ⟨e2, fs, h2⟩ := b.pmk i es h1
    exact ⟨e2.trans e1, fs, h2⟩
theorem Stp.av (s : Stp σ n H σ' n' H') : ∀ a, AV S σ' n' a → AV S σ n a ∨ H a = none := fun a z => z.elim (fun q => .inl (.inl q)) fun q => (s.own a q).elim (fun r => .inl (.inr r)) .inr
theorem Stp.dv {v d} (s : Stp σ n H σ' n' H') (h : Dv K H (AV S σ n) v d) : Dv K H' (AV S σ' n') v d := h.mono s.ext (fun _ z => .inr z) s.av
theorem Stp.dvA {v d} (s : Stp σ n H σ' n' H') (h : DvA K H (AV S σ n) v d) : DvA K H' (AV S σ' n') v d := h.mono s.ext (fun _ z => .inr z) s.av
theorem Stp.ctV {v d} (s : Stp σ n H σ' n' H') (h : CtV K H (AV S σ n) v d) : CtV K H' (AV S σ' n') v d := h.mono s.ext (fun _ z => .inr z) s.av
def NewH (H H' : Hp) : Prop := ∀ a o, H a = some o → H' a = some o
theorem NewH.refl : NewH H H := fun _ _ h => h
theorem NewH.upd {p : Addr} {o : HO} (np : H p = none) : NewH H (upd H p o) := fun a u e => by rw [upd_ne (ne_of_none e np)]; exact e
theorem NewH.trans (a : NewH H H1) (b : NewH H1 H2) : NewH H H2 := fun c o h => b c o (a c o h)
theorem NewH.dom (e : NewH H H') : ∀ a, H a ≠ none → H' a ≠ none := fun a h z => by
  cases w : H a with
  | none => exact h w
  | some o => rw [e a o w] at z; cases z
theorem Stp.grown (e : NewH H H') : Stp σ n H σ n H' :=
  ⟨fun a o _ h => e a o h, fun _ h => .inl h, e.dom, fun _ ds h => ⟨rfl, ds, h⟩⟩
theorem Stp.new {p : Addr} {o : HO} (np : H p = none) : Stp σ n H σ n (upd H p o) := .grown (.upd np)
theorem Stp.non (st : Stp σ n H σ' n' H') {p : Addr} (h : H' p = none) : H p = none := Classical.byContradiction fun z => st.dom p z h
theorem Rel.ownSome (r : Rel K S H σ n) : ∀ a, Own σ n a → H a ≠ none := fun a ⟨i, pm, ds, e1, e2⟩ z => by
  obtain ⟨p, vs, e3, h, _⟩ := r.ow i pm ds e1
  rw [e2] at e3
  cases e3
  rw [z] at h; cases h
theorem Rel.avSome (r : Rel K S H σ n) : ∀ a, AV S σ n a → H a ≠ none := fun a z => z.elim (r.trk a) (r.ownSome a)
theorem Rel.nav (r : Rel K S H σ n) {p : Addr} (np : H p = none) : ¬ AV S σ n p := fun z => r.avSome p z np
theorem Rel.ext (r : Rel K S H σ n) (e : ∀ a o, H a = some o → H' a = some o) : Rel K S H' σ n where
  len := r.len
  im := fun i d h => by
    obtain ⟨v, h1, h2⟩ := r.im i d h
    exact ⟨v, h1, h2.mono (S := fun _ => False) (fun a o _ q => e a o q) (fun _ z => z.elim) fun _ z => .inl z⟩
  ow := fun i pm ds h => by
    obtain ⟨p, vs, h1, h2, h3, h4⟩ := r.ow i pm ds h
    exact ⟨p, vs, h1, e _ _ h2, h3.mono (S := fun _ => False) (fun a o _ q => e a o q) (fun _ z => z.elim) (fun _ z => .inl z), h4⟩
  inj := r.inj
  trk := fun a z q => by
    have h := r.trk a z
    cases w : H a with
    | none => exact h w
    | some o => rw [e a o w] at q; cases q
theorem Rel.new (r : Rel K S H σ n) {p : Addr} {o : HO} (np : H p = none) : Rel K S (upd H p o) σ n := r.ext fun a u e => by rw [upd_ne (ne_of_none e np)]; exact e
end
section
variable {K : PySem.W.Frag} {S : AS} {H H' : Hp} {σ : Sg} {n : Nv} {i : Nat}
theorem get_set_ne {α : Type} {l : List α} {i j : Nat} {x : α} (h : i ≠ j) : (l.set i x)[j]? = l[j]? := List.getElem?_set_ne h
theorem get_set_at {α : Type} {l : List α} {i : Nat} {x y : α} (h : (l.set i x)[i]? = some y) : y = x ∧ i < l.length := by
  by_cases q : i < l.length
  · rw [List.getElem?_set_self q] at h
    cases h
    exact ⟨rfl, q⟩
  · rw [List.getElem?_eq_none (by simpa using q)] at h
    cases h
theorem own_set {s : Sl} (hs : ∀ pm ds, s ≠ .ow pm ds) {x : Option V} : ∀ a, Own (σ.set i x) (n.set i s) a → Own σ n a := fun a ⟨j, pm, ds, e1, e2⟩ => by
  by_cases q : i = j
  · subst q
    exact (hs _ _ (get_set_at e1).1.symm).elim
  · rw [get_set_ne q] at e1 e2
    exact ⟨j, pm, ds, e1, e2⟩
def Fre (n : Nv) (i : Nat) : Prop := ∀ ds, n[i]? ≠ some (.ow true ds)
theorem pmk_set {s : Sl} {x : Option V} (hf : Fre n i) : ∀ (j : Nat) (ds : Ct), n[j]? = some (.ow true ds) → (σ.set i x)[j]? = σ[j]? ∧ ∃ es, (n.set i s)[j]? = some (.ow true es) := fun j ds h => by
  have q : i ≠ j := fun z => by subst z; exact hf ds h
  rw [get_set_ne q, get_set_ne q]
  exact ⟨rfl, ds, h⟩
theorem Stp.setN {s : Sl} (hs : ∀ pm ds, s ≠ .ow pm ds) {x : Option V} (hf : Fre n i) : Stp σ n H (σ.set i x) (n.set i s) H :=
  ⟨fun _ _ _ h => h, fun a h => .inl (own_set hs a h), fun _ h => h, pmk_set hf⟩
theorem Rel.setN (r : Rel K S H σ n) {s : Sl} {x : Option V} (hs : ∀ pm ds, s ≠ .ow pm ds) (hd : ∀ d, s = .im d → ∃ v, x = some v ∧ Dv K H (AV S σ n) v d) (hf : Fre n i) : Rel K S H (σ.set i x) (n.set i s) where
  len := by simp [r.len]
  im := fun j d h => by
    have st : Stp σ n H (σ.set i x) (n.set i s) H := Stp.setN hs hf
    by_cases q : i = j
    · subst q
      obtain ⟨e, hl⟩ := get_set_at h
      obtain ⟨v, e2, hv⟩ := hd d e.symm
      exact ⟨v, by rw [List.getElem?_set_self (by rw [← r.len]; exact hl), e2], st.dv hv⟩
    · rw [get_set_ne q] at h
      obtain ⟨v, h1, h2⟩ := r.im j d h
      exact ⟨v, by rw [get_set_ne q]; exact h1, st.dv h2⟩
  ow := fun j pm ds h => by
    have st : Stp σ n H (σ.set i x) (n.set i s) H := Stp.setN hs hf
    by_cases q : i = j
    · subst q
      exact (hs _ _ (get_set_at h).1.symm).elim
    · rw [get_set_ne q] at h
      obtain ⟨p, vs, h1, h2, h3, h4⟩ := r.ow j pm ds h
      exact ⟨p, vs, by rw [get_set_ne q]; exact h1, h2, st.ctV h3, h4⟩
  inj := fun j k pm qm ds es p h1 h2 h3 h4 => by
    by_cases q : i = j
    · subst q
      exact (hs _ _ (get_set_at h1).1.symm).elim
    · by_cases q2 : i = k
      · subst q2
        exact (hs _ _ (get_set_at h2).1.symm).elim
      · rw [get_set_ne q] at h1 h3
        rw [get_set_ne q2] at h2 h4
        exact r.inj j k pm qm ds es p h1 h2 h3 h4
  trk := r.trk
theorem Rel.setIm (r : Rel K S H σ n) {v : V} {d : PD} (hf : Fre n i) (h : Dv K H (AV S σ n) v d) : Rel K S H (σ.set i (some v)) (n.set i (.im d)) :=
  r.setN (fun _ _ z => by cases z) (fun d' e => by cases e; exact ⟨v, rfl, h⟩) hf
theorem Stp.setIm {v : V} {d : PD} (hf : Fre n i) : Stp σ n H (σ.set i (some v)) (n.set i (.im d)) H := Stp.setN (fun _ _ z => by cases z) hf
theorem Rel.setUn (r : Rel K S H σ n) {x : Option V} (hf : Fre n i) : Rel K S H (σ.set i x) (n.set i .un) := r.setN (fun _ _ z => by cases z) (fun d' e => by cases e) hf
theorem Stp.setUn {x : Option V} (hf : Fre n i) : Stp σ n H (σ.set i x) (n.set i .un) H := Stp.setN (fun _ _ z => by cases z) hf
end
section
variable {K : PySem.W.Frag} {S : AS} {H H' : Hp} {σ : Sg} {n : Nv} {i : Nat}
theorem own_setO {p : Addr} {pm : Bool} {ds : Ct} : ∀ a, Own (σ.set i (some (.ref p))) (n.set i (.ow pm ds)) a → Own σ n a ∨ a = p := fun a ⟨j, qm, es, e1, e2⟩ => by
  by_cases q : i = j
  · subst q
    have z := (get_set_at e2).1
    cases z
    exact .inr rfl
  · rw [get_set_ne q] at e1 e2
    exact .inl ⟨j, qm, es, e1, e2⟩
structure Frs (K : PySem.W.Frag) (S : AS) (σ : Sg) (n : Nv) (H : Hp) (p : Addr) (ds : Ct) : Prop where
  rel : Rel K S H σ n
  nav : ¬ AV S σ n p
  av : ∃ vs, H p = some vs ∧ CtV K H (fun a => AV S σ n a ∨ a = p) vs ds
  imn : ∀ (i : Nat) (d : PD), n[i]? = some (.im d) → ∃ v, σ[i]? = some (some v) ∧ Dv K H (fun a => AV S σ n a ∨ a = p) v d
  own : ∀ (i : Nat) (pm : Bool) (es : Ct), n[i]? = some (.ow pm es) → ∃ (q : Addr) (vs : HO), σ[i]? = some (some (.ref q)) ∧ H q = some vs ∧ CtV K H (fun a => AV S σ n a ∨ a = p) vs es
variable {p : Addr} {ds : Ct}
theorem Frs.new {vs : HO} (r : Rel K S H σ n) (np : H p = none) (h : CtV K H (AV S σ n) vs ds) : Frs K S σ n (upd H p vs) p ds := by
  have mv : ∀ {v d}, Dv K H (AV S σ n) v d → Dv K (upd H p vs) (fun a => AV S σ n a ∨ a = p) v d := fun z => z.mono (S := fun _ => False) (Ext.new np) (fun _ z => z.elim) fun a z => z.elim .inl fun q => .inr (q ▸ np)
  have mvA : ∀ {v d}, CtV K H (AV S σ n) v d → CtV K (upd H p vs) (fun a => AV S σ n a ∨ a = p) v d := fun z => z.mono (S := fun _ => False) (Ext.new np) (fun _ z => z.elim) fun a z => z.elim .inl fun q => .inr (q ▸ np)
  refine ⟨r.new np, r.nav np, ⟨vs, upd_same, mvA h⟩, fun i d e => ?_, fun i pm es e => ?_⟩
  · obtain ⟨v, h1, h2⟩ := r.im i d e
    exact ⟨v, h1, mv h2⟩
  · obtain ⟨q, us, h1, h2, h3, _⟩ := r.ow i pm es e
    exact ⟨q, us, h1, NewH.upd np _ _ h2, mvA h3⟩
theorem Frs.dv {ds : List PD} (r : Frs K S σ n H p (.l ds)) : Dv K H (AV S σ n) (.ref p) (.list ds) := by
  obtain ⟨o, h1, h2⟩ := r.av
  obtain ⟨vs, rfl, h2⟩ := h2.lst
  exact .lst (.inl ⟨.inl h1, r.nav⟩) (h2.weak fun a z => .inl z)
theorem Stp.setOw {σ0 : Sg} {n0 : Nv} {H0 : Hp} (st : Stp σ0 n0 H0 σ n H) (np : H0 p = none) (hf : Fre n i) : Stp σ0 n0 H0 (σ.set i (some (.ref p))) (n.set i (.ow false ds)) H where
  ext := st.ext
  own := fun a h => (own_setO a h).elim (st.own a) fun q => .inr (q ▸ np)
  dom := st.dom
  pmk := fun j es h => by
    obtain ⟨e, fs, h1⟩ := st.pmk j es h
    have q : i ≠ j := fun z => by subst z; exact hf fs h1
    rw [get_set_ne q, get_set_ne q]
    exact ⟨e, fs, h1⟩
theorem Rel.setOw (r : Frs K S σ n H p ds) : Rel K S H (σ.set i (some (.ref p))) (n.set i (.ow false ds)) where
  len := by simp [r.rel.len]
  im := fun j d h => by
    by_cases q : i = j
    · subst q
      exact nomatch (get_set_at h).1
    · rw [get_set_ne q] at h
      obtain ⟨v, h1, h2⟩ := r.imn j d h
      exact ⟨v, by rw [get_set_ne q]; exact h1, h2.weak fun a z => z.elim (fun q => .inl (.inl q)) fun q => (own_setO a q).elim (fun z => .inl (.inr z)) .inr⟩
  ow := fun j pm es h => by
    by_cases q : i = j
    · subst q
      obtain ⟨e, hl⟩ := get_set_at h
      cases e
      obtain ⟨vs, h1, h2⟩ := r.av
      exact ⟨p, vs, by rw [List.getElem?_set_self (by rw [← r.rel.len]; exact hl)], h1, h2.weak fun a z => z.elim (fun q => .inl (.inl q)) fun q => (own_setO a q).elim (fun z => .inl (.inr z)) .inr, fun _ z => r.nav (.inl z)⟩
    · rw [get_set_ne q] at h
      obtain ⟨p', vs, h1, h2, h3⟩ := r.own j pm es h
      obtain ⟨p2, vs2, g1, g2, g3, g4⟩ := r.rel.ow j pm es h
      rw [h1] at g1
      cases g1
      exact ⟨p', vs, by rw [get_set_ne q]; exact h1, h2, h3.weak fun a z => z.elim (fun q => .inl (.inl q)) fun q => (own_setO a q).elim (fun z => .inl (.inr z)) .inr, g4⟩
  inj := fun j k pm qm ds' es p' h1 h2 h3 h4 => by
    by_cases q : i = j
    · subst q
      by_cases q2 : i = k
      · exact q2
      · rw [get_set_ne q2] at h2 h4
        have z := (get_set_at h3).1
        cases z
        exact (r.nav (.inr ⟨k, qm, es, h2, h4⟩)).elim
    · by_cases q2 : i = k
      · subst q2
        rw [get_set_ne q] at h1 h3
        have z := (get_set_at h4).1
        cases z
        exact (r.nav (.inr ⟨j, pm, ds', h1, h3⟩)).elim
      · rw [get_set_ne q] at h1 h3
        rw [get_set_ne q2] at h2 h4
        exact r.rel.inj j k pm qm ds' es p' h1 h2 h3 h4
  trk := r.rel.trk
end
end Dl
set_option Elab.async false
set_option linter.all false
set_option maxRecDepth 100000
namespace Dl
open PySem PySem.Spec PyProof.Rows L2
structure Er where
  nm : Str
  fs : List (Str × PD)
inductive Ar where | d (x : PD) | o (i : Nat)
abbrev Rs (α : Type) := Option (Except (Er × Nv) (α × Nv))
def bnd {α β : Type} (r : Rs α) (k : α → Nv → Rs β) : Rs β := match r with
  | none => none
  | some (.error e) => some (.error e)
  | some (.ok (a, n)) => k a n
def ret {α : Type} (a : α) (n : Nv) : Rs α := some (.ok (a, n))
def lft {α β : Type} (x : Option α) (k : α → Rs β) : Rs β := match x with
  | none => none
  | some a => k a
@[simp] theorem bnd_ret {α β : Type} {a : α} {n : Nv} {k : α → Nv → Rs β} : bnd (ret a n) k = k a n := (rfl)
@[simp] theorem bnd_none {α β : Type} {k : α → Nv → Rs β} : bnd none k = none := (rfl)
@[simp] theorem bnd_err {α β : Type} {e : Er × Nv} {k : α → Nv → Rs β} : bnd (some (.error e)) k = some (.error e) := (rfl)
@[simp] theorem lft_some {α β : Type} {a : α} {k : α → Rs β} : lft (some a) k = k a := (rfl)
@[simp] theorem lft_none {α β : Type} {k : α → Rs β} : lft none k = none := (rfl)
structure Cz where
  K : PySem.W.Frag
  cl : Str → Option Value
  E : Sg → XK
def ErrV (c : Cz) (H : Hp) (A : AS) (e : Er) (C : Value) (od : Option Addr) : Prop :=
  c.cl e.nm = some C ∧ ∃ (d : Addr) (vs : List (Str × V)), od = some d ∧ H d = some (.xd vs) ∧ vs.map (·.1) = e.fs.map (·.1) ∧ DvA c.K H A (vs.map (·.2)) (e.fs.map (·.2))
def Rz (c : Cz) (S : AS) (σ : Sg) (n : Nv) (H : Hp) (e : Er) : Prop :=
  ∀ C od H', (∀ a o, ¬ Own σ n a → H a = some o → H' a = some o) → (∀ a, H a ≠ none → H' a ≠ none) → ErrV c H' (AV S σ n) e C od → c.E σ C od H'
def Knd (n n' : Nv) : Prop := ∀ (i : Nat) (pm : Bool) (ds : Ct), n[i]? = some (.ow pm ds) → ∃ es, n'[i]? = some (.ow pm es)
theorem Knd.refl {n : Nv} : Knd n n := fun _ _ ds h => ⟨ds, h⟩
theorem Knd.trans {n n1 n2 : Nv} (a : Knd n n1) (b : Knd n1 n2) : Knd n n2 := fun i pm ds h => let ⟨_, h1⟩ := a i pm ds h; b i pm _ h1
theorem ErrV.weak {c : Cz} {H : Hp} {A A' : AS} {e : Er} {C od} (h : ErrV c H A e C od) (s : ∀ a, A' a → A a) : ErrV c H A' e C od :=
  let ⟨h1, d, vs, h2, h3, h4, h5⟩ := h
  ⟨h1, d, vs, h2, h3, h4, h5.weak s⟩
theorem Rz.move {c : Cz} {S : AS} {σ σ' : Sg} {n n' : Nv} {H H' : Hp} {e : Er} (hE : c.E σ' = c.E σ) (st : Stp σ n H σ' n' H') (sub : ∀ a, AV S σ n a → AV S σ' n' a) (h : Rz c S σ n H e) : Rz c S σ' n' H' e := fun C od H2 x d z => by
  rw [hE]
  exact h C od H2 (fun a o na ha => x a o (fun q => (st.own a q).elim na fun w => by rw [w] at ha; cases ha) (st.ext a o na ha)) (fun a ha => d a (st.dom a ha)) (z.weak sub)
def OkG {α β : Type} (c : Cz) (S : AS) (W : Nv → Hp → β → α → Prop) (r : Rs α) (σ : Sg) (n : Nv) (H : Hp) (Q : β → Hp → Prop) : Prop := match r with
  | none => False
  | some (.error (e, n')) => ∀ H', Stp σ n H σ n' H' → Knd n n' → Rel c.K S H' σ n' → Rz c S σ n' H' e
  | some (.ok (a, n')) => ∀ v H', Stp σ n H σ n' H' → Knd n n' → Rel c.K S H' σ n' → W n' H' v a → Q v H'
section
variable {α β γ δ : Type} {c : Cz} {S : AS} {W : Nv → Hp → β → α → Prop} {W2 : Nv → Hp → δ → γ → Prop} {σ : Sg} {n n1 : Nv} {H H1 : Hp} {r : Rs α} {k : α → Nv → Rs γ}
theorem OkG.move {Q : β → Hp → Prop} (st : Stp σ n H σ n1 H1) (kn : Knd n n1) (h : OkG c S W r σ n H Q) : OkG c S W r σ n1 H1 Q := by
  match r, h with
  | some (.error (e, n')), h => exact fun H' s k2 R => h H' (st.trans s) (kn.trans k2) R
  | some (.ok (a, n')), h => exact fun v H' s k2 R w => h v H' (st.trans s) (kn.trans k2) R w
theorem OkG.bind {Q : β → Hp → Prop} {Q2 : δ → Hp → Prop} (h : OkG c S W2 (bnd r k) σ n H Q2)
    (f : ∀ v a n1 H1, Stp σ n H σ n1 H1 → Knd n n1 → Rel c.K S H1 σ n1 → W n1 H1 v a → OkG c S W2 (k a n1) σ n1 H1 Q2 → Q v H1) : OkG c S W r σ n H Q := by
  match r, h with
  | some (.error e), h => exact h
  | some (.ok (a, n')), h => exact fun v H' s k2 R w => f v a n' H' s k2 R w (OkG.move s k2 h)
theorem OkG.ret {a : α} {Q : β → Hp → Prop} (h : OkG c S W (ret a n) σ n H Q) {v : β} {H' : Hp} (g : NewH H H') (R : Rel c.K S H' σ n) (w : W n H' v a) : Q v H' := h v H' (.grown g) .refl R w
theorem OkG.lft {x : Option α} {k : α → Rs γ} {Q2 : δ → Hp → Prop} (h : OkG c S W2 (lft x k) σ n H Q2) : ∃ a, x = some a ∧ OkG c S W2 (k a) σ n H Q2 := by
  cases x with
  | none => exact h.elim
  | some a => exact ⟨a, rfl, h⟩
end
def ArV (K : PySem.W.Frag) (S : AS) (σ : Sg) (n : Nv) (H : Hp) (v : V) : Ar → Prop
  | .d x => Dv K H (AV S σ n) v x
  | .o i => σ[i]? = some (some v) ∧ ∃ pm ds, n[i]? = some (.ow pm ds)
def ArD (n : Nv) : Ar → Option PD
  | .d x => some x
  | .o i => match n[i]? with
    | some (.ow _ (.l ds)) => some (.list ds)
    | _ => none
@[simp] theorem ArD_d {n : Nv} {x : PD} : ArD n (.d x) = some x := (rfl)
inductive ArVs (K : PySem.W.Frag) (S : AS) (σ : Sg) (n : Nv) (H : Hp) : List V → List Ar → Prop
  | nil : ArVs K S σ n H [] []
  | cons {v vs a as} : ArV K S σ n H v a → ArVs K S σ n H vs as → ArVs K S σ n H (v :: vs) (a :: as)
def Dw (K : PySem.W.Frag) (H : Hp) (A : AS) (v : V) (d : PD) : Prop :=
  Dv K H A v d ∨ ∃ p vs ds, v = .ref p ∧ d = .list ds ∧ H p = some (.lst vs) ∧ DvA K H A vs ds
section
variable {K : PySem.W.Frag} {S : AS} {H H1 : Hp} {σ : Sg} {n n1 : Nv} {A : AS} {v : V} {d : PD}
theorem ArV.move (st : Stp σ n H σ n1 H1) (kn : Knd n n1) : ∀ {a : Ar}, ArV K S σ n H v a → ArV K S σ n1 H1 v a
  | .d _, h => st.dv h
  | .o _, ⟨h1, pm, ds, h2⟩ => ⟨h1, pm, kn _ _ _ h2⟩
theorem ArVs.move (st : Stp σ n H σ n1 H1) (kn : Knd n n1) : ∀ {vs : List V} {as : List Ar}, ArVs K S σ n H vs as → ArVs K S σ n1 H1 vs as
  | _, _, .nil => .nil
  | _, _, .cons h t => .cons (h.move st kn) (ArVs.move st kn t)
theorem ArV.dw (R : Rel K S H σ n) : ∀ {a : Ar}, ArV K S σ n H v a → ArD n a = some d → Dw K H (AV S σ n) v d
  | .d x, h, e => by cases e; exact .inl h
  | .o i, ⟨h1, pm, ds, h2⟩, e => by
    unfold ArD at e
    simp only [h2] at e
    cases ds with
    | m _ => cases e
    | l ds =>
      cases e
      obtain ⟨p, o, e1, e2, e3, _⟩ := R.ow i pm _ h2
      obtain ⟨vs, rfl, e3⟩ := e3.lst
      rw [h1] at e1
      cases e1
      exact .inr ⟨p, vs, ds, rfl, rfl, e2, e3⟩
theorem Dw.dp (h : Dw K H A v d) : Dp K H v d := by
  rcases h with h | ⟨p, vs, ds, rfl, rfl, h, t⟩
  · exact h.dp
  · exact .lst (.inl (.inl h)) t.dp
theorem Dw.lst {ds : List PD} (h : Dw K H A v (.list ds)) : ∃ p vs, v = .ref p ∧ SqL K H p vs ∧ DvA K H A vs ds := by
  rcases h with h | ⟨p, vs, ds', rfl, e, h, t⟩
  · cases h with
    | lst h t => exact ⟨_, _, rfl, h.sq, t⟩
  · cases e
    exact ⟨_, _, rfl, .inl (.inl h), t⟩
theorem Dw.tup {ds : List PD} (h : Dw K H A v (.tuple ds)) : ∃ p vs, v = .ref p ∧ SqT K H p vs ∧ DvA K H A vs ds := by
  rcases h with h | ⟨p, vs, ds', rfl, e, h, t⟩
  · cases h with
    | tup h t => exact ⟨_, _, rfl, h.sq, t⟩
  · cases e
theorem Dw.int {i : Int} (h : Dw K H A v (.int i)) : v = .int i := by
  rcases h with h | ⟨p, vs, ds', rfl, e, h, t⟩
  · cases h; rfl
  · cases e
theorem Dw.bl {i : Bool} (h : Dw K H A v (.bool i)) : v = .bl i := by
  rcases h with h | ⟨p, vs, ds', rfl, e, h, t⟩
  · cases h; rfl
  · cases e
theorem Dw.str {i : Str} (h : Dw K H A v (.str i)) : v = .str i := by
  rcases h with h | ⟨p, vs, ds', rfl, e, h, t⟩
  · cases h; rfl
  · cases e
theorem Dw.non (h : Dw K H A v .none) : v = .non := by
  rcases h with h | ⟨p, vs, ds', rfl, e, h, t⟩
  · cases h; rfl
  · cases e
theorem Dv.isNone (h : Dv K H A v d) : decide (v = .non) = match d with | .none => true | _ => false := by cases h <;> simp
end
def DE (c : Cz) (t : TE) (f : Nv → Rs Ar) : Prop := ∀ S σ H n Q, Rel c.K S H σ n → OkG c S (fun n' H' v a => ArV c.K S σ n' H' v a) (f n) σ n H Q → t σ H Q
def DT (c : Cz) (t : TT) (f : Nv → Rs Bool) : Prop := ∀ S σ H n Q, Rel c.K S H σ n → OkG c S (fun _ _ (v : Bool) a => v = a) (f n) σ n H Q → t σ H Q
def DA (c : Cz) (t : TA) (f : Nv → Rs (List Ar)) : Prop := ∀ S σ H n Q, Rel c.K S H σ n → OkG c S (fun n' H' v a => ArVs c.K S σ n' H' v a) (f n) σ n H Q → t σ H Q
def DO (c : Cz) (t : TE) (f : Nv → Rs (List PD)) : Prop := ∀ S σ H n Q, Rel c.K S H σ n →
  OkG c S (fun n' H' v ds => ∃ p, v = .ref p ∧ H p = none ∧ Frs c.K S σ n' H' p (.l ds)) (f n) σ n H Q → t σ H Q
section
variable {c : Cz} {t ta tb tc : TE} {fa fb fc : Nv → Rs Ar}
def eC (x : PD) : Nv → Rs Ar := fun n => ret (.d x) n
def eV (i : Nat) : Nv → Rs Ar := fun n => match n[i]? with
  | some (.im d) => ret (.d d) n
  | some (.ow _ _) => ret (.o i) n
  | _ => none
theorem de_var {i : Nat} : DE c (tVar i) (eV i) := fun S σ H n Q R h => by
  unfold eV at h
  split at h
  · rename_i d e
    obtain ⟨v, e1, hv⟩ := R.im _ _ e
    exact ⟨v, e1, h.ret .refl R hv⟩
  · rename_i pm ds e
    obtain ⟨p, vs, e1, _⟩ := R.ow _ _ _ e
    exact ⟨_, e1, h.ret .refl R ⟨e1, pm, ds, e⟩⟩
  · exact h.elim
theorem de_int {i : Int} : DE c (tC (.int i)) (eC (.int i)) := fun S σ H n Q R h => h.ret .refl R (.int i)
theorem de_bl {i : Bool} : DE c (tC (.bl i)) (eC (.bool i)) := fun S σ H n Q R h => h.ret .refl R (.bl i)
theorem de_non : DE c (tC .non) (eC .none) := fun S σ H n Q R h => h.ret .refl R .non
theorem de_str {i : Str} : DE c (tC (.str i)) (eC (.str i)) := fun S σ H n Q R h => h.ret .refl R (.str i)
theorem de_glob {v : V} {d : PD} (h : ∀ H A, Dv c.K H A v d) : DE c (tC v) (eC d) := fun S σ H n Q R q => q.ret .refl R (h _ _)
def BopOk (K : PySem.W.Frag) (r : R2) (g : PD → PD → Option PD) : Prop := ∀ (A : AS) (H : Hp) (Q : VK) (x y : V) (dx dy d : PD), (∀ a, A a → H a ≠ none) → Dw K H A x dx → Dw K H A y dy → g dx dy = some d →
  (∀ v H', NewH H H' → Dv K H' A v d → Q v H') → r x y H Q
theorem BopOk.or {K r r' g g'} (h : BopOk K r g) (h' : BopOk K r' g') : BopOk K (fun x y H Q => r x y H Q ∨ r' x y H Q) (fun a b => (g a b).or (g' a b)) := fun A H Q x y dx dy d na wx wy e k => by
  dsimp only at e
  cases q : g dx dy with
  | some z =>
    rw [q] at e
    exact .inl (h A H Q x y dx dy d na wx wy (by rw [q]; exact e) k)
  | none =>
    rw [q] at e
    exact .inr (h' A H Q x y dx dy d na wx wy e k)
def eBin (g : PD → PD → Option PD) (fa fb : Nv → Rs Ar) : Nv → Rs Ar := fun n => bnd (fa n) fun a n1 => bnd (fb n1) fun b n2 =>
  lft (ArD n2 a) fun x => lft (ArD n2 b) fun y => lft (g x y) fun d => ret (.d d) n2
theorem de_bin {r : R2} {g : PD → PD → Option PD} (hr : BopOk c.K r g) (ha : DE c ta fa) (hb : DE c tb fb) : DE c (tOp r ta tb) (eBin g fa fb) := fun S σ H n Q R h => by
  refine ha S σ H n _ R (OkG.bind h fun v a n1 H1 s1 k1 R1 va h1 => ?_)
  refine hb S σ H1 n1 _ R1 (OkG.bind h1 fun u b n2 H2 s2 k2 R2' vb h2 => ?_)
  obtain ⟨x, ex, h2⟩ := h2.lft
  obtain ⟨y, ey, h2⟩ := h2.lft
  obtain ⟨d, ed, h2⟩ := h2.lft
  exact hr (AV S σ n2) H2 Q v u x y d R2'.avSome (ArV.dw R2' (va.move s2 k2) ex) (ArV.dw R2' vb ey) ed fun v' H' g' hv => h2.ret g' (R2'.ext g') hv
def UopOk (K : PySem.W.Frag) (r : V → Hp → VK → Prop) (g : PD → Option PD) : Prop := ∀ (A : AS) (H : Hp) (Q : VK) (x : V) (dx d : PD), (∀ a, A a → H a ≠ none) → Dw K H A x dx → g dx = some d →
  (∀ v H', NewH H H' → Dv K H' A v d → Q v H') → r x H Q
def eUn (g : PD → Option PD) (fa : Nv → Rs Ar) : Nv → Rs Ar := fun n => bnd (fa n) fun a n1 => lft (ArD n1 a) fun x => lft (g x) fun d => ret (.d d) n1
theorem de_un {r : V → Hp → VK → Prop} {g : PD → Option PD} (hr : UopOk c.K r g) (ha : DE c ta fa) : DE c (tUn r ta) (eUn g fa) := fun S σ H n Q R h => by
  refine ha S σ H n _ R (OkG.bind h fun v a n1 H1 s1 k1 R1 va h1 => ?_)
  obtain ⟨x, ex, h2⟩ := h1.lft
  obtain ⟨d, ed, h2⟩ := h2.lft
  exact hr (AV S σ n1) H1 Q v x d R1.avSome (ArV.dw R1 va ex) ed fun v' H' g' hv => h2.ret g' (R1.ext g') hv
def aNil : Nv → Rs (List Ar) := fun n => ret [] n
def aCons (fa : Nv → Rs Ar) (fr : Nv → Rs (List Ar)) : Nv → Rs (List Ar) := fun n => bnd (fa n) fun a n1 => bnd (fr n1) fun as n2 => ret (a :: as) n2
theorem da_nil : DA c tNil aNil := fun S σ H n Q R h => h.ret .refl R .nil
theorem da_cons {tr : TA} {fr : Nv → Rs (List Ar)} (ha : DE c ta fa) (hr : DA c tr fr) : DA c (tCons ta tr) (aCons fa fr) := fun S σ H n Q R h => by
  refine ha S σ H n _ R (OkG.bind h fun v a n1 H1 s1 k1 R1 va h1 => ?_)
  refine hr S σ H1 n1 _ R1 (OkG.bind h1 fun vs as n2 H2 s2 k2 R2' vr h2 => ?_)
  exact h2.ret .refl R2' (.cons (va.move s2 k2) vr)
def ArDs (n : Nv) (as : List Ar) : Option (List PD) := as.mapM (ArD n)
def ArI : List Ar → Option (List PD)
  | [] => some []
  | .d x :: r => (ArI r).map (x :: ·)
  | .o _ :: _ => none
@[simp] theorem ArI_nil : ArI [] = some [] := (rfl)
@[simp] theorem ArI_cons {x : PD} {r : List Ar} : ArI (.d x :: r) = (ArI r).map (x :: ·) := (rfl)
theorem ArVs.dvA {K S σ n H} : ∀ {vs : List V} {as : List Ar} {ds : List PD}, ArVs K S σ n H vs as → ArI as = some ds → DvA K H (AV S σ n) vs ds
  | _, _, ds, .nil, e => by cases e; exact .nil
  | _, _, ds, .cons (a := .d x) h t, e => by
    rw [ArI_cons] at e
    obtain ⟨r, e1, e2⟩ := Option.map_eq_some_iff.mp e
    subst e2
    exact .cons h (ArVs.dvA t e1)
  | _, _, ds, .cons (a := .o i) h t, e => by cases e
inductive Dws (K : PySem.W.Frag) (H : Hp) (A : AS) : List V → List PD → Prop
  | nil : Dws K H A [] []
  | cons {v vs d ds} : Dw K H A v d → Dws K H A vs ds → Dws K H A (v :: vs) (d :: ds)
theorem ArDs_nil {n : Nv} : ArDs n [] = some [] := rfl
theorem ArDs_cons {n : Nv} {a : Ar} {as : List Ar} : ArDs n (a :: as) = (ArD n a).bind fun x => (ArDs n as).bind fun xs => some (x :: xs) := by
  unfold ArDs
  rw [List.mapM_cons]
  rfl
theorem ArVs.dws {K S σ n H} (R : Rel K S H σ n) : ∀ {vs : List V} {as : List Ar} {ds : List PD}, ArVs K S σ n H vs as → ArDs n as = some ds → Dws K H (AV S σ n) vs ds
  | _, _, ds, .nil, e => by cases e; exact .nil
  | _, _, ds, .cons h t, e => by
    rw [ArDs_cons] at e
    obtain ⟨x, e1, e⟩ := Option.bind_eq_some_iff.mp e
    obtain ⟨xs, e2, e⟩ := Option.bind_eq_some_iff.mp e
    cases e
    exact .cons (ArV.dw R h e1) (ArVs.dws R t e2)
def lineB (n : Nat) : Bool := decide (n ≤ sizeLine)
def eTup (fr : Nv → Rs (List Ar)) : Nv → Rs Ar := fun n => bnd (fr n) fun as n1 => lft (ArI as) fun ds => if lineB ds.length = true then ret (.d (.tuple ds)) n1 else none
theorem de_tup {tr : TA} {fr : Nv → Rs (List Ar)} (hr : DA c tr fr) : DE c (tTup tr) (eTup fr) := fun S σ H n Q R h => by
  refine hr S σ H n _ R (OkG.bind h fun vs as n1 H1 s1 k1 R1 va h1 => ?_)
  obtain ⟨ds, e, h1⟩ := h1.lft
  have w := va.dvA e
  split at h1
  · rename_i q
    refine ⟨by rw [w.len]; exact of_decide_eq_true q, fun p np => h1.ret (.upd np) (R1.new np) ?_⟩
    exact .tup (.inl ⟨.inl upd_same, R1.nav np⟩) (w.mono (S := fun _ => False) (Ext.new np) (fun _ z => z.elim) fun _ z => .inl z)
  · exact h1.elim
def oLst (fr : Nv → Rs (List Ar)) : Nv → Rs (List PD) := fun n => bnd (fr n) fun as n1 => lft (ArI as) fun ds => if lineB ds.length = true then ret ds n1 else none
theorem do_lst {tr : TA} {fr : Nv → Rs (List Ar)} (hr : DA c tr fr) : DO c (tLst tr) (oLst fr) := fun S σ H n Q R h => by
  refine hr S σ H n _ R (OkG.bind h fun vs as n1 H1 s1 k1 R1 va h1 => ?_)
  obtain ⟨ds, e, h1⟩ := h1.lft
  have w := va.dvA e
  split at h1
  · rename_i q
    refine ⟨by rw [w.len]; exact of_decide_eq_true q, fun p np => h1.ret (.upd np) (R1.new np) ⟨p, rfl, s1.non np, .new R1 np w⟩⟩
  · exact h1.elim
end
end Dl
set_option Elab.async false
set_option linter.all false
set_option maxRecDepth 100000
namespace Dl
open PySem PySem.Spec PyProof.Rows L2
section
variable {c : Cz} {t ta tb : TE} {fa fb : Nv → Rs Ar} {tt uu : TT} {ft fu : Nv → Rs Bool}
def arB (n : Nv) (a : Ar) : Option Bool := match a with
  | .d (.bool b) => some b
  | _ => none
@[simp] theorem arB_d {n : Nv} {b : Bool} : arB n (.d (.bool b)) = some b := (rfl)
theorem ArV.bool {K S σ n H v b} {a : Ar} (h : ArV K S σ n H v a) (e : arB n a = some b) : v = .bl b := by
  cases a with
  | o i => cases e
  | d x =>
    cases x with
    | bool b' => cases e; cases h; rfl
    | _ => cases e
def tVal (fa : Nv → Rs Ar) : Nv → Rs Bool := fun n => bnd (fa n) fun a n1 => lft (arB n1 a) fun b => ret b n1
theorem dt_val (ha : DE c ta fa) : DT c (tB ta) (tVal fa) := fun S σ H n Q R h => by
  refine ha S σ H n _ R (OkG.bind h fun v a n1 H1 s1 k1 R1 va h1 => ?_)
  obtain ⟨b, e, h1⟩ := h1.lft
  exact ⟨b, va.bool e, h1.ret .refl R1 rfl⟩
theorem dt_test (ha : DE c ta fa) : DT c (tTest ta) (tVal fa) := dt_val ha
def tAndF (f g : Nv → Rs Bool) : Nv → Rs Bool := fun n => bnd (f n) fun b n1 => if b = true then g n1 else ret false n1
def tOrF (f g : Nv → Rs Bool) : Nv → Rs Bool := fun n => bnd (f n) fun b n1 => if b = true then ret true n1 else g n1
def tNotF (f : Nv → Rs Bool) : Nv → Rs Bool := fun n => bnd (f n) fun b n1 => ret (!b) n1
theorem dt_and (h1 : DT c tt ft) (h2 : DT c uu fu) : DT c (tAnd tt uu) (tAndF ft fu) := fun S σ H n Q R h => by
  refine h1 S σ H n _ R (OkG.bind h fun v a n1 H1 s1 k1 R1 va h1 => ?_)
  subst va
  cases v with
  | true => exact h2 S σ H1 n1 _ R1 h1
  | false => exact h1.ret .refl R1 rfl
theorem dt_or (h1 : DT c tt ft) (h2 : DT c uu fu) : DT c (tOr tt uu) (tOrF ft fu) := fun S σ H n Q R h => by
  refine h1 S σ H n _ R (OkG.bind h fun v a n1 H1 s1 k1 R1 va h1 => ?_)
  subst va
  cases v with
  | true => exact h1.ret .refl R1 rfl
  | false => exact h2 S σ H1 n1 _ R1 h1
theorem dt_not (h1 : DT c tt ft) : DT c (tNot tt) (tNotF ft) := fun S σ H n Q R h => by
  refine h1 S σ H n _ R (OkG.bind h fun v a n1 H1 s1 k1 R1 va h1 => ?_)
  subst va
  exact h1.ret .refl R1 rfl
def eAnd (f g : Nv → Rs Ar) : Nv → Rs Ar := fun n => bnd (f n) fun a n1 => lft (arB n1 a) fun b => if b = true then g n1 else ret (.d (.bool false)) n1
def eOr (f g : Nv → Rs Ar) : Nv → Rs Ar := fun n => bnd (f n) fun a n1 => lft (arB n1 a) fun b => if b = true then ret (.d (.bool true)) n1 else g n1
def eNot (f : Nv → Rs Ar) : Nv → Rs Ar := fun n => bnd (f n) fun a n1 => lft (arB n1 a) fun b => ret (.d (.bool (!b))) n1
def eIf (ft : Nv → Rs Bool) (f g : Nv → Rs Ar) : Nv → Rs Ar := fun n => bnd (ft n) fun b n1 => if b = true then f n1 else g n1
theorem de_and (h1 : DE c ta fa) (h2 : DE c tb fb) : DE c (tAndV ta tb) (eAnd fa fb) := fun S σ H n Q R h => by
  refine h1 S σ H n _ R (OkG.bind h fun v a n1 H1 s1 k1 R1 va h1 => ?_)
  obtain ⟨b, e, h1⟩ := h1.lft
  refine ⟨b, va.bool e, ?_⟩
  cases b with
  | true => exact h2 S σ H1 n1 _ R1 h1
  | false => exact h1.ret .refl R1 (Dv.bl _)
theorem de_or (h1 : DE c ta fa) (h2 : DE c tb fb) : DE c (tOrV ta tb) (eOr fa fb) := fun S σ H n Q R h => by
  refine h1 S σ H n _ R (OkG.bind h fun v a n1 H1 s1 k1 R1 va h1 => ?_)
  obtain ⟨b, e, h1⟩ := h1.lft
  refine ⟨b, va.bool e, ?_⟩
  cases b with
  | true => exact h1.ret .refl R1 (Dv.bl _)
  | false => exact h2 S σ H1 n1 _ R1 h1
theorem de_not (h1 : DE c ta fa) : DE c (tNotV ta) (eNot fa) := fun S σ H n Q R h => by
  refine h1 S σ H n _ R (OkG.bind h fun v a n1 H1 s1 k1 R1 va h1 => ?_)
  obtain ⟨b, e, h1⟩ := h1.lft
  exact ⟨b, va.bool e, h1.ret .refl R1 (Dv.bl _)⟩
theorem de_if (h0 : DT c tt ft) (h1 : DE c ta fa) (h2 : DE c tb fb) : DE c (tIf tt ta tb) (eIf ft fa fb) := fun S σ H n Q R h => by
  refine h0 S σ H n _ R (OkG.bind h fun v a n1 H1 s1 k1 R1 va h3 => ?_)
  subst va
  cases v with
  | true => exact h1 S σ H1 n1 _ R1 h3
  | false => exact h2 S σ H1 n1 _ R1 h3
def gIsN : PD → Bool | .none => true | _ => false
def eIsN (neg : Bool) (f : Nv → Rs Ar) : Nv → Rs Ar := fun n => bnd (f n) fun a n1 => lft (ArI [a]) fun ds => ret (.d (.bool (xor neg (ds.any gIsN)))) n1
theorem Dv.gIsN {K H A v d} (h : Dv K H A v d) : decide (v = .non) = Dl.gIsN d := by cases h <;> simp [Dl.gIsN]
theorem arI1 {K S σ n H v a ds} (h : ArV K S σ n H v a) (e : ArI [a] = some ds) : ∃ d, a = .d d ∧ ds = [d] ∧ Dv K H (AV S σ n) v d := by
  cases a with
  | d x => cases e; exact ⟨x, rfl, rfl, h⟩
  | o i => cases e
theorem de_isN (h1 : DE c ta fa) : DE c (tIsN ta) (eIsN false fa) := fun S σ H n Q R h => by
  refine h1 S σ H n _ R (OkG.bind h fun v a n1 H1 s1 k1 R1 va h1 => ?_)
  obtain ⟨ds, e, h1⟩ := h1.lft
  obtain ⟨d, rfl, rfl, w⟩ := arI1 va e
  refine h1.ret .refl R1 ?_
  rw [w.gIsN]
  simp
  exact Dv.bl _
theorem de_notN (h1 : DE c ta fa) : DE c (tNotN ta) (eIsN true fa) := fun S σ H n Q R h => by
  refine h1 S σ H n _ R (OkG.bind h fun v a n1 H1 s1 k1 R1 va h1 => ?_)
  obtain ⟨ds, e, h1⟩ := h1.lft
  obtain ⟨d, rfl, rfl, w⟩ := arI1 va e
  refine h1.ret .refl R1 ?_
  rw [w.gIsN]
  simp
  exact Dv.bl _
end
inductive Rv where | d (x : PD) | l (ds : List PD)
inductive Oc where | nx | bk | ct | rt (r : Rv)
abbrev RS := Option (Except (Er × Nv) (Oc × Nv))
def RvV (K : PySem.W.Frag) (S : AS) (σ : Sg) (n : Nv) (H : Hp) (fr : Addr → Prop) (v : V) : Rv → Prop
  | .d x => Dv K H (AV S σ n) v x
  | .l ds => ∃ p vs, v = .ref p ∧ fr p ∧ H p = some (.lst vs) ∧ DvA K H (AV S σ n) vs ds ∧ Own σ n p
def Ent (S : AS) (H0 : Hp) (σ : Sg) (n : Nv) (H : Hp) : Prop := ∃ (σ0 : Sg) (n0 : Nv), (∀ a, Own σ0 n0 a → S a) ∧ Stp σ0 n0 H0 σ n H
theorem Ent.trans {S H0 H H1 σ σ1 n n1} (e : Ent S H0 σ n H) (s : Stp σ n H σ1 n1 H1) : Ent S H0 σ1 n1 H1 := let ⟨σ0, n0, h, t⟩ := e; ⟨σ0, n0, h, t.trans s⟩
def OkS (c : Cz) (S : AS) (H0 : Hp) (r : RS) (σ : Sg) (n : Nv) (H : Hp) (D : Ends) : Prop := match r with
  | none => False
  | some (.error (e, n')) => ∀ σ' H', Stp σ n H σ' n' H' → Rel c.K S H' σ' n' → Rz c S σ' n' H' e
  | some (.ok (.nx, n')) => ∀ σ' H', Stp σ n H σ' n' H' → Rel c.K S H' σ' n' → D.nx σ' H'
  | some (.ok (.bk, n')) => ∀ σ' H', Stp σ n H σ' n' H' → Rel c.K S H' σ' n' → D.bk σ' H'
  | some (.ok (.ct, n')) => ∀ σ' H', Stp σ n H σ' n' H' → Rel c.K S H' σ' n' → D.ct σ' H'
  | some (.ok (.rt x, n')) => ∀ v σ' H', Stp σ n H σ' n' H' → Rel c.K S H' σ' n' → RvV c.K S σ' n' H' (fun p => H0 p = none) v x → D.rt v H'
def DS (c : Cz) (t : TS) (f : Nv → RS) : Prop := ∀ S H0 σ H n D, Rel c.K S H σ n → Ent S H0 σ n H → OkS c S H0 (f n) σ n H D → t D σ H
def sbn {α : Type} (r : Rs α) (k : α → Nv → RS) : RS := match r with
  | none => none
  | some (.error e) => some (.error e)
  | some (.ok (a, n)) => k a n
@[simp] theorem sbn_ret {α : Type} {a : α} {n : Nv} {k : α → Nv → RS} : sbn (ret a n) k = k a n := (rfl)
@[simp] theorem sbn_none {α : Type} {k : α → Nv → RS} : sbn none k = none := (rfl)
@[simp] theorem sbn_err {α : Type} {e : Er × Nv} {k : α → Nv → RS} : sbn (some (.error e)) k = some (.error e) := (rfl)
def nxt (n : Nv) : RS := some (.ok (.nx, n))
section
variable {c : Cz} {S : AS} {H0 H H1 : Hp} {σ σ1 : Sg} {n n1 : Nv} {r : RS} {D D' : Ends}
theorem OkS.move (st : Stp σ n H σ1 n1 H1) (h : OkS c S H0 r σ n H D) : OkS c S H0 r σ1 n1 H1 D := by
  match r, h with
  | some (.error (e, n')), h => exact fun σ' H' s R => h σ' H' (st.trans s) R
  | some (.ok (.nx, n')), h => exact fun σ' H' s R => h σ' H' (st.trans s) R
  | some (.ok (.bk, n')), h => exact fun σ' H' s R => h σ' H' (st.trans s) R
  | some (.ok (.ct, n')), h => exact fun σ' H' s R => h σ' H' (st.trans s) R
  | some (.ok (.rt x, n')), h => exact fun v σ' H' s R w => h v σ' H' (st.trans s) R w
theorem OkS.bind {α β : Type} {W : Nv → Hp → β → α → Prop} {q : Rs α} {k : α → Nv → RS} {Q : β → Hp → Prop} (h : OkS c S H0 (sbn q k) σ n H D)
    (f : ∀ v a n1 H1, Stp σ n H σ n1 H1 → Knd n n1 → Rel c.K S H1 σ n1 → W n1 H1 v a → OkS c S H0 (k a n1) σ n1 H1 D → Q v H1) : OkG c S W q σ n H Q := by
  match q, h with
  | some (.error (e, n')), h => exact fun H' s k2 R => h σ H' s R
  | some (.ok (a, n')), h => exact fun v H' s k2 R w => f v a n' H' s k2 R w (OkS.move s h)
theorem OkS.lft {α : Type} {x : Option α} {k : α → RS} (h : OkS c S H0 (match x with | none => none | some a => k a) σ n H D) : ∃ a, x = some a ∧ OkS c S H0 (k a) σ n H D := by
  cases x with
  | none => exact h.elim
  | some a => exact ⟨a, rfl, h⟩
end
def sNext : Nv → RS := nxt
def sSeq (f g : Nv → RS) : Nv → RS := fun n => match f n with
  | some (.ok (.nx, n')) => g n'
  | r => r
section
variable {c : Cz} {t u : TS} {f g : Nv → RS} {te : TE} {fe : Nv → Rs Ar} {tt : TT} {ft : Nv → Rs Bool}
theorem ds_next : DS c tNext sNext := fun S H0 σ H n D R hd h => h σ H .refl R
theorem ds_seq (h1 : DS c t f) (h2 : DS c u g) : DS c (tSeq t u) (sSeq f g) := fun S H0 σ H n D R hd h => by
  refine h1 S H0 σ H n { D with nx := u D } R hd ?_
  unfold sSeq at h
  match f n, h with
  | some (.error e), h => exact h
  | some (.ok (.nx, n')), h => exact fun σ' H' s R' => h2 S H0 σ' H' n' D R' (hd.trans s) (OkS.move s h)
  | some (.ok (.bk, n')), h => exact h
  | some (.ok (.ct, n')), h => exact h
  | some (.ok (.rt x, n')), h => exact h
def sBrk : Nv → RS := fun n => some (.ok (.bk, n))
def sCnt : Nv → RS := fun n => some (.ok (.ct, n))
theorem ds_brk : DS c tBreak sBrk := fun S H0 σ H n D R hd h => h σ H .refl R
theorem ds_cnt : DS c tCont sCnt := fun S H0 σ H n D R hd h => h σ H .refl R
def sExpr (fe : Nv → Rs Ar) : Nv → RS := fun n => sbn (fe n) fun _ n1 => nxt n1
theorem ds_expr (h1 : DE c te fe) : DS c (tDrop te) (sExpr fe) := fun S H0 σ H n D R hd h => by
  refine h1 S σ H n _ R (OkS.bind h fun v a n1 H1 s1 k1 R1 va h2 => ?_)
  exact h2 σ H1 .refl R1
def sIf (ft : Nv → Rs Bool) (f g : Nv → RS) : Nv → RS := fun n => sbn (ft n) fun b n1 => if b = true then f n1 else g n1
theorem ds_if (h0 : DT c tt ft) (h1 : DS c t f) (h2 : DS c u g) : DS c (tIfS tt t u) (sIf ft f g) := fun S H0 σ H n D R hd h => by
  refine h0 S σ H n _ R (OkS.bind h fun v a n1 H1 s1 k1 R1 va h3 => ?_)
  subst va
  cases v with
  | true => exact h1 S H0 σ H1 n1 D R1 (hd.trans s1) h3
  | false => exact h2 S H0 σ H1 n1 D R1 (hd.trans s1) h3
def sRet (fe : Nv → Rs Ar) : Nv → RS := fun n => sbn (fe n) fun a n1 => match a with
  | .d x => some (.ok (.rt (.d x), n1))
  | .o i => match n1[i]? with
    | some (.ow false (.l ds)) => some (.ok (.rt (.l ds), n1))
    | _ => none
theorem ds_ret (h1 : DE c te fe) : DS c (tRet te) (sRet fe) := fun S H0 σ H n D R hd h => by
  refine h1 S σ H n _ R (OkS.bind h fun v a n1 H1 s1 k1 R1 va h2 => ?_)
  cases a with
  | d x => exact h2 v σ H1 .refl R1 va
  | o i =>
    dsimp only at h2
    split at h2
    · rename_i ds e
      obtain ⟨p, o, e1, e2, e3, e4⟩ := R1.ow _ _ _ e
      obtain ⟨vs, rfl, e3⟩ := e3.lst
      rw [va.1] at e1
      cases e1
      obtain ⟨σ0, n0, q1, q2⟩ := hd.trans s1
      refine h2 _ σ H1 .refl R1 ⟨p, vs, rfl, ?_, e2, e3, i, false, _, e, va.1⟩
      rcases q2.own p ⟨i, false, _, e, va.1⟩ with z | z
      · exact (e4 rfl (q1 p z)).elim
      · exact z
    · exact h2.elim
theorem ds_retN : DS c tRetN (fun n => some (.ok (.rt (.d .none), n))) := fun S H0 σ H n D R hd h => h .non σ H .refl R .non
def free? (n : Nv) (i : Nat) : Bool := match n[i]? with
  | some (.ow true _) => false
  | _ => true
theorem free_of {n : Nv} {i : Nat} (h : free? n i = true) : Fre n i := fun ds e => by
  unfold free? at h
  rw [e] at h
  cases h
def sSet (i : Nat) (fe : Nv → Rs Ar) : Nv → RS := fun n => sbn (fe n) fun a n1 => match a with
  | .d x => if free? n1 i = true then nxt (n1.set i (.im x)) else none
  | .o _ => none
theorem ds_set {i : Nat} (h1 : DE c te fe) : DS c (tAsg te (gName i)) (sSet i fe) := fun S H0 σ H n D R hd h => by
  refine h1 S σ H n _ R (OkS.bind h fun v a n1 H1 s1 k1 R1 va h2 => ?_)
  cases a with
  | o j => exact h2.elim
  | d x =>
    dsimp only at h2
    split at h2
    · rename_i hf
      exact h2 _ H1 (.setIm (free_of hf)) (R1.setIm (free_of hf) va)
    · exact h2.elim
def sNew (i : Nat) (fo : Nv → Rs (List PD)) : Nv → RS := fun n => sbn (fo n) fun ds n1 => if free? n1 i = true then nxt (n1.set i (.ow false (.l ds))) else none
theorem ds_new {i : Nat} {fo : Nv → Rs (List PD)} (h1 : DO c te fo) : DS c (tAsg te (gName i)) (sNew i fo) := fun S H0 σ H n D R hd h => by
  refine h1 S σ H n _ R ?_
  unfold sNew at h
  match fo n, h with
  | some (.error (e, n')), h => exact fun H' s k2 R => h σ H' s R
  | some (.ok (ds, n1)), h =>
    rintro v H1 s1 k1 R1 ⟨p, rfl, np, fr⟩
    simp only [sbn] at h
    split at h
    · rename_i hf
      exact h _ H1 (Stp.setOw s1 np (free_of hf)) (.setOw fr)
    · exact h.elim
def frz (i : Nat) (n : Nv) : Nv := match n[i]? with
  | some (.ow false (.l ds)) => n.set i (.im (.list ds))
  | _ => n
end
end Dl
set_option Elab.async false
set_option linter.all false
set_option maxRecDepth 100000
namespace Dl
open PySem PySem.Spec PyProof.Rows L2
def OkF (c : Cz) (S : AS) (r : Rs Rv) (σ : Sg) (n : Nv) (H : Hp) (Q : VK) : Prop := match r with
  | none => False
  | some (.error (e, _)) => Rz c S σ n H e
  | some (.ok (.d x, n')) => ∀ v H', Stp σ n H σ n' H' → Rel c.K S H' σ n' → Dv c.K H' (AV S σ n') v x → Q v H'
  | some (.ok (.l ds, n')) => ∀ p vs H', Stp σ n H σ n' H' → Rel c.K (fun a => S a ∨ a = p) H' σ n' → H p = none → H' p = some (.lst vs) → DvA c.K H' (AV (fun a => S a ∨ a = p) σ n') vs ds → Q (.ref p) H'
def spM (K : PySem.W.Frag) (cl : Str → Option Value) (k : Nat) (f : Nv → Rs Rv) : Sp := fun vs H Q E => vs.length = k ∧ ∃ (S : AS) (as : Nv), Rel K S H (vs.map some) as ∧ (∀ a, Own (vs.map some) as a → S a) ∧ (∀ (i : Nat) (ds : Ct), as[i]? ≠ some (.ow false ds)) ∧ OkF ⟨K, cl, fun _ => E⟩ S (f as) (vs.map some) as H Q
def mrg : Nv → Nv → Nv
  | .ow true ds :: r, .ow true es :: r' => .ow true es :: mrg r r'
  | x :: r, _ :: r' => x :: mrg r r'
  | x, [] => x
  | [], _ => []
theorem mrg_len : ∀ a b : Nv, (mrg a b).length = a.length
  | [], [] => rfl
  | [], _ :: _ => rfl
  | x :: r, [] => by cases x with
    | ow pm ds => cases pm <;> rfl
    | _ => rfl
  | x :: r, y :: r' => by
    have h := mrg_len r r'
    cases x with
    | im d => simp [mrg, h]
    | un => simp [mrg, h]
    | ow pm ds =>
      cases pm with
      | false => simp [mrg, h]
      | true =>
        cases y with
        | im d => simp [mrg, h]
        | un => simp [mrg, h]
        | ow qm es => cases qm <;> simp [mrg, h]
theorem mrg_get : ∀ (a b : Nv) (i : Nat), (mrg a b)[i]? = match a[i]?, b[i]? with
    | some (.ow true ds), some (.ow true es) => some (.ow true es)
    | x, _ => x
  | [], [], i => by simp [mrg]
  | [], _ :: _, i => by simp [mrg]
  | x :: r, [], i => by
    have e : mrg (x :: r) [] = x :: r := by
      cases x with
      | ow pm ds => cases pm <;> rfl
      | _ => rfl
    rw [e]
    simp only [List.getElem?_nil]
    split <;> simp_all
  | x :: r, y :: r', 0 => by
    cases x with
    | im d => simp [mrg]
    | un => simp [mrg]
    | ow pm ds =>
      cases pm with
      | false => simp [mrg]
      | true =>
        cases y with
        | im d => simp [mrg]
        | un => simp [mrg]
        | ow qm es => cases qm <;> simp [mrg]
  | x :: r, y :: r', i + 1 => by
    have h := mrg_get r r' i
    have e : (mrg (x :: r) (y :: r'))[i + 1]? = (mrg r r')[i]? := by
      cases x with
      | im d => simp [mrg]
      | un => simp [mrg]
      | ow pm ds =>
        cases pm with
        | false => simp [mrg]
        | true =>
          cases y with
          | im d => simp [mrg]
          | un => simp [mrg]
          | ow qm es => cases qm <;> simp [mrg]
    rw [e, h]
    simp
def fin (as : Nv) (r : RS) : Rs Rv := match r with
  | none => none
  | some (.error e) => some (.error e)
  | some (.ok (.nx, n)) => some (.ok (.d .none, mrg as n))
  | some (.ok (.rt x, n)) => some (.ok (x, mrg as n))
  | some (.ok (_, _)) => none
def body (k : Nat) (g : Nv → RS) : Nv → Rs Rv := fun as => fin as (g (as ++ List.replicate k .un))
section
variable {c : Cz} {S : AS} {H H' : Hp} {σ σ' : Sg} {as n' : Nv} {vs : List V} {k : Nat}
theorem own_app {σa σb : Sg} {na : Nv} (hl : na.length = σa.length) : ∀ a, Own (σa ++ σb) (na ++ List.replicate k .un) a → Own σa na a := fun a ⟨i, pm, ds, e1, e2⟩ => by
  by_cases h : i < na.length
  · rw [List.getElem?_append_left h] at e1
    rw [List.getElem?_append_left (by omega)] at e2
    exact ⟨i, pm, ds, e1, e2⟩
  · rw [List.getElem?_append_right (by omega)] at e1
    rw [List.getElem?_replicate] at e1
    split at e1 <;> cases e1
theorem app_own {σa σb : Sg} {na nb : Nv} (hl : na.length = σa.length) : ∀ a, Own σa na a → Own (σa ++ σb) (na ++ nb) a := fun a ⟨i, pm, ds, e1, e2⟩ => by
  have h : i < na.length := (List.getElem?_eq_some_iff.mp e1).1
  exact ⟨i, pm, ds, by rw [List.getElem?_append_left h]; exact e1, by rw [List.getElem?_append_left (by omega)]; exact e2⟩
theorem rep_get {m i : Nat} {s : Sl} (h : (List.replicate m Sl.un)[i]? = some s) : s = .un := by
  rw [List.getElem?_replicate] at h
  split at h <;> cases h
  rfl
theorem Rel.start (R : Rel c.K S H σ as) : Rel c.K S H (σ ++ List.replicate k none) (as ++ List.replicate k .un) where
  len := by simp [R.len]
  im := fun i d h => by
    by_cases q : i < as.length
    · rw [List.getElem?_append_left q] at h
      obtain ⟨v, h1, h2⟩ := R.im i d h
      refine ⟨v, by rw [List.getElem?_append_left (by rw [← R.len]; exact q)]; exact h1, h2.weak fun a z => z.elim .inl fun w => .inr (own_app R.len a w)⟩
    · rw [List.getElem?_append_right (by omega)] at h
      cases rep_get h
  ow := fun i pm ds h => by
    by_cases q : i < as.length
    · rw [List.getElem?_append_left q] at h
      obtain ⟨p, vs, h1, h2, h3, h4⟩ := R.ow i pm ds h
      refine ⟨p, vs, by rw [List.getElem?_append_left (by rw [← R.len]; exact q)]; exact h1, h2, h3.weak fun a z => z.elim .inl fun w => .inr (own_app R.len a w), h4⟩
    · rw [List.getElem?_append_right (by omega)] at h
      cases rep_get h
  inj := fun i j pm qm ds es p h1 h2 h3 h4 => by
    have lt : ∀ {i pm ds}, (as ++ List.replicate k Sl.un)[i]? = some (.ow pm ds) → i < as.length := fun {i pm ds} h => by
      by_cases q : i < as.length
      · exact q
      · rw [List.getElem?_append_right (by omega)] at h
        cases rep_get h
    have q1 := lt h1
    have q2 := lt h2
    rw [List.getElem?_append_left q1] at h1
    rw [List.getElem?_append_left q2] at h2
    rw [List.getElem?_append_left (by rw [← R.len]; exact q1)] at h3
    rw [List.getElem?_append_left (by rw [← R.len]; exact q2)] at h4
    exact R.inj i j pm qm ds es p h1 h2 h3 h4
  trk := R.trk
theorem mrg_own (st : Stp (σ ++ List.replicate k none) (as ++ List.replicate k .un) H σ' n' H') (hl : as.length = σ.length) (nf : ∀ (i : Nat) (ds : Ct), as[i]? ≠ some (.ow false ds)) : ∀ a, Own σ (mrg as n') a → Own σ' n' a := fun a ⟨i, pm, ds, e1, e2⟩ => by
  rw [mrg_get] at e1
  have go : ∀ es, as[i]? = some (.ow true es) → Own σ' n' a := fun es h => by
    have hi : i < as.length := (List.getElem?_eq_some_iff.mp h).1
    obtain ⟨q1, fs, q2⟩ := st.pmk i es (by rw [List.getElem?_append_left hi]; exact h)
    exact ⟨i, true, fs, q2, by rw [q1, List.getElem?_append_left (by omega)]; exact e2⟩
  split at e1
  · rename_i es fs h1 h2
    exact go _ h1
  · rename_i x y h
    cases pm with
    | true => exact go _ e1
    | false => exact (nf _ _ e1).elim
theorem Rel.fin (R : Rel c.K S H σ as) (nf : ∀ (i : Nat) (ds : Ct), as[i]? ≠ some (.ow false ds)) (st : Stp (σ ++ List.replicate k none) (as ++ List.replicate k .un) H σ' n' H') (R' : Rel c.K S H' σ' n') (T : AS)
    (hT : ∀ a, T a → S a ∨ Own σ' n' a) (tk : ∀ a, T a → H' a ≠ none) (tp : ∀ a, T a → S a ∨ H a = none) : Rel c.K T H' σ (mrg as n') ∧ Stp σ as H σ (mrg as n') H' := by
  have ow0 : ∀ a, Own (σ ++ List.replicate k none) (as ++ List.replicate k .un) a → Own σ as a := own_app R.len
  have mo := mrg_own (k := k) st R.len nf
  have own' : ∀ a, Own σ (mrg as n') a → Own σ as a := fun a ⟨i, pm, ds, e1, e2⟩ => by
    rw [mrg_get] at e1
    split at e1
    · rename_i es fs h1 h2
      exact ⟨i, true, _, h1, e2⟩
    · exact ⟨i, pm, ds, e1, e2⟩
  refine ⟨⟨by rw [mrg_len]; exact R.len, fun i d h => ?_, fun i pm ds h => ?_, fun i j pm qm ds es p h1 h2 h3 h4 => ?_, tk⟩, ⟨fun a o h e => st.ext a o (fun z => h (ow0 a z)) e, fun a h => .inl (own' a h), st.dom, fun i ds h => ⟨rfl, ?_⟩⟩⟩
  · rw [mrg_get] at h
    have h' : as[i]? = some (.im d) := by
      split at h
      · cases h
      · exact h
    obtain ⟨v, h1, h2⟩ := R.im i d h'
    refine ⟨v, h1, h2.mono (S := Own σ as) (fun a o z e => st.ext a o (fun w => z (ow0 a w)) e) (fun a z => .inr z) fun a z => ?_⟩
    rcases z with z | z
    · rcases tp a z with w | w
      · exact .inl (.inl w)
      · exact .inr w
    · exact .inl (.inr (own' a z))
  · have q : ∃ es, as[i]? = some (.ow true es) ∧ pm = true ∧ n'[i]? = some (.ow true ds) := by
      rw [mrg_get] at h
      split at h
      · rename_i es fs h1 h2
        cases h
        exact ⟨_, h1, rfl, h2⟩
      · rename_i x y hh
        cases pm with
        | false => exact (nf _ _ h).elim
        | true =>
          have hi : i < as.length := (List.getElem?_eq_some_iff.mp h).1
          obtain ⟨_, fs, q2⟩ := st.pmk i ds (by rw [List.getElem?_append_left hi]; exact h)
          exact (hh _ _ h q2).elim
    obtain ⟨es, h1, rfl, h2⟩ := q
    have hi : i < as.length := (List.getElem?_eq_some_iff.mp h1).1
    obtain ⟨q1, fs, q2⟩ := st.pmk i es (by rw [List.getElem?_append_left hi]; exact h1)
    rw [List.getElem?_append_left (by rw [← R.len]; exact hi)] at q1
    obtain ⟨p, vs, g1, g2, g3, g4⟩ := R'.ow i true ds h2
    refine ⟨p, vs, by rw [← q1]; exact g1, g2, g3.weak fun a z => ?_, fun z => by cases z⟩
    rcases z with z | z
    · exact hT a z
    · exact .inr (mo a z)
  · have g : ∀ {i : Nat} {pm : Bool} {ds : Ct}, (mrg as n')[i]? = some (.ow pm ds) → ∃ (qm : Bool) (es : Ct), as[i]? = some (.ow qm es) := fun {i pm ds} h => by
      rw [mrg_get] at h
      split at h
      · rename_i es fs h1 h2
        exact ⟨_, _, h1⟩
      · exact ⟨_, _, h⟩
    obtain ⟨_, _, w1⟩ := g h1
    obtain ⟨_, _, w2⟩ := g h2
    exact R.inj i j _ _ _ _ p w1 w2 h3 h4
  · rw [mrg_get, h]
    split
    · rename_i es fs h1 h2
      exact ⟨_, rfl⟩
    · exact ⟨_, rfl⟩
theorem OkF.body {g : Nv → RS} {Q : VK} (hE : ∀ σ σ', c.E σ = c.E σ') (R : Rel c.K S H σ as) (sub : ∀ a, Own σ as a → S a) (nf : ∀ (i : Nat) (ds : Ct), as[i]? ≠ some (.ow false ds)) (h : OkF c S (body k g as) σ as H Q) :
    OkS c S H (g (as ++ List.replicate k .un)) (σ ++ List.replicate k none) (as ++ List.replicate k .un) H { nx := fun _ H' => Q .non H', rt := Q } := by
  unfold Dl.body at h
  generalize g (as ++ List.replicate k .un) = r at h
  match r, h with
  | some (.error (e, n')), h =>
    have h' : Rz c S σ as H e := h
    intro σ' H' st R'
    have s0 : Stp σ as H (σ ++ List.replicate k none) (as ++ List.replicate k .un) H := ⟨fun a o z e => e, fun a z => .inl (own_app R.len a z), fun a z => z, fun i ds e => by
      have hi : i < as.length := (List.getElem?_eq_some_iff.mp e).1
      exact ⟨by rw [List.getElem?_append_left (by rw [← R.len]; exact hi)], ds, by rw [List.getElem?_append_left hi]; exact e⟩⟩
    refine Rz.move (hE _ _) (s0.trans st) (fun a z => z.elim .inl fun ⟨i, pm, ds, e1, e2⟩ => ?_) h'
    cases pm with
    | false => exact (nf _ _ e1).elim
    | true =>
      obtain ⟨q1, es, q2⟩ := (s0.trans st).pmk i ds e1
      exact .inr ⟨i, true, es, q2, by rw [q1]; exact e2⟩
  | some (.ok (.nx, n')), h =>
    intro σ' H' st R'
    obtain ⟨r1, r2⟩ := R.fin nf st R' S (fun a z => .inl z) R'.trk fun a z => .inl z
    exact h _ _ r2 r1 .non
  | some (.ok (.rt (.d x), n')), h =>
    intro v σ' H' st R' w
    obtain ⟨r1, r2⟩ := R.fin nf st R' S (fun a z => .inl z) R'.trk fun a z => .inl z
    exact h v _ r2 r1 (Dv.weak w fun a z => z.elim .inl fun q => .inr (mrg_own st R.len nf a q))
  | some (.ok (.rt (.l ds), n')), h =>
    rintro v σ' H' st R' ⟨p, vs, rfl, h0, h1, h2, h3⟩
    obtain ⟨r1, r2⟩ := R.fin nf st R' (fun a => S a ∨ a = p) (fun a z => z.elim .inl fun q => .inr (q ▸ h3)) (fun a z => z.elim (R'.trk a) fun q => by rw [q, h1]; simp) fun a z => z.elim .inl fun q => .inr (q ▸ h0)
    exact h p vs _ r2 r1 h0 h1 (h2.weak fun a z => z.elim (fun q => q.elim .inl fun w => .inr (w ▸ h3)) fun q => .inr (mrg_own st R.len nf a q))
  | none, h => exact h.elim
  | some (.ok (.bk, n')), h => exact h.elim
  | some (.ok (.ct, n')), h => exact h.elim
end
theorem fn_dl {P : Program} {w : World} {K : PySem.W.Frag} {mg : Str → Option Value} {base : Heap} {x qual : Str} {st : Stmt} {f : Addr} {fd : FuncData} {N ps : List Str} {k : Nat} {cl : Str → Option Value} {g : Nv → RS} {m : Nat}
    (F : Fun K x qual st f fd) (Sc : FnScope N ps (defScope st)) (hN : N.length = ps.length + m)
    (hbody : ∀ (cdv : Value) (A : Around) (outer : List Env) (s : Shared) (H : Hp) (E : XK), Room k (A.deeper (envOfC qual (defScope st) s.heap.objs.size f cdv)) →
      ∃ t, PSs (cxOf (L2.CX P w) P w K mg base N qual (defScope st) f cdv A outer s H E) (defBody st) t ∧ DS ⟨K, cl, fun _ => E⟩ t g) : FnOk P w K mg base (L2.CX P w) (k + 1) f fd ps (spM K cl ps.length (body m g)) := by
  refine F.okX Sc (fun vs H Q E h => h.1) fun cdv A outer s H vs Q E hr hsp => ?_
  obtain ⟨t, h1, h2⟩ := hbody cdv A outer s H E hr
  obtain ⟨hl, S, as, R, sub, nf, hf⟩ := hsp
  refine ⟨t, h1, ?_⟩
  have e : L2.start N vs = vs.map some ++ List.replicate m none := by
    unfold L2.start
    rw [hN, hl]
    congr 2
    omega
  rw [e]
  refine h2 S H _ H _ _ (Rel.start (c := ⟨K, cl, fun _ => E⟩) R) ⟨vs.map some, as, sub, ⟨fun a o z q => q, fun a z => .inl (own_app R.len a z), fun a z => z, fun i ds q => ?_⟩⟩ (OkF.body (c := ⟨K, cl, fun _ => E⟩) (fun _ _ => rfl) R sub nf hf)
  have hi : i < as.length := (List.getElem?_eq_some_iff.mp q).1
  exact ⟨by rw [List.getElem?_append_left (by rw [← R.len]; exact hi)], ds, by rw [List.getElem?_append_left hi]; exact q⟩
end Dl
set_option Elab.async false
set_option linter.all false
set_option maxRecDepth 100000
namespace Dl
open PySem PySem.Spec PyProof.Rows L2
def slots (n : Nv) : List Ar → Option Nv
  | [] => some []
  | .d x :: r => (slots n r).map (.im x :: ·)
  | .o i :: r => match n[i]? with
    | some (.ow _ ds) => (slots n r).map (.ow true ds :: ·)
    | _ => none
def hasO (i : Nat) : List Ar → Bool
  | [] => false
  | .o j :: r => decide (j = i) || hasO i r
  | .d _ :: r => hasO i r
def dist : List Ar → Bool
  | [] => true
  | .o i :: r => !hasO i r && dist r
  | .d _ :: r => dist r
def look : List Ar → Nv → Nat → Option Ct
  | .o j :: r, .ow _ es :: m, i => if j = i then some es else look r m i
  | _ :: r, _ :: m, i => look r m i
  | _, _, _ => none
def back (as : List Ar) (m n : Nv) : Nv := n.mapIdx fun i s => match s with
  | .ow pm ds => .ow pm ((look as m i).getD ds)
  | s => s
theorem slots_len {n : Nv} : ∀ {as : List Ar} {m : Nv}, slots n as = some m → m.length = as.length
  | [], m, h => by cases h; rfl
  | .d x :: r, m, h => by
    obtain ⟨m', h1, h2⟩ := Option.map_eq_some_iff.mp h
    subst h2
    simp [slots_len h1]
  | .o i :: r, m, h => by
    unfold slots at h
    split at h
    · obtain ⟨m', h1, h2⟩ := Option.map_eq_some_iff.mp h
      subst h2
      simp [slots_len h1]
    · cases h
theorem slots_o {n : Nv} : ∀ {as : List Ar} {m : Nv} {j i : Nat}, slots n as = some m → as[j]? = some (.o i) → ∃ pm ds, n[i]? = some (.ow pm ds) ∧ m[j]? = some (.ow true ds)
  | [], m, j, i, h, e => by simp at e
  | .d x :: r, m, 0, i, h, e => by simp at e
  | .d x :: r, m, j + 1, i, h, e => by
    obtain ⟨m', h1, h2⟩ := Option.map_eq_some_iff.mp h
    subst h2
    simpa using slots_o h1 (by simpa using e)
  | .o k :: r, m, 0, i, h, e => by
    simp at e
    subst e
    unfold slots at h
    split at h
    · rename_i pm ds q
      obtain ⟨m', h1, h2⟩ := Option.map_eq_some_iff.mp h
      subst h2
      exact ⟨pm, ds, q, rfl⟩
    · cases h
  | .o k :: r, m, j + 1, i, h, e => by
    unfold slots at h
    split at h
    · obtain ⟨m', h1, h2⟩ := Option.map_eq_some_iff.mp h
      subst h2
      simpa using slots_o h1 (by simpa using e)
    · cases h
theorem slots_m {n : Nv} : ∀ {as : List Ar} {m : Nv} {j : Nat} {s : Sl}, slots n as = some m → m[j]? = some s → (∃ x, s = .im x ∧ as[j]? = some (.d x)) ∨ ∃ i pm ds, s = .ow true ds ∧ as[j]? = some (.o i) ∧ n[i]? = some (.ow pm ds)
  | [], m, j, s, h, e => by cases h; simp at e
  | .d x :: r, m, 0, s, h, e => by
    obtain ⟨m', h1, h2⟩ := Option.map_eq_some_iff.mp h
    subst h2
    simp at e
    exact .inl ⟨x, e.symm, rfl⟩
  | .d x :: r, m, j + 1, s, h, e => by
    obtain ⟨m', h1, h2⟩ := Option.map_eq_some_iff.mp h
    subst h2
    simpa using slots_m h1 (by simpa using e)
  | .o k :: r, m, 0, s, h, e => by
    unfold slots at h
    split at h
    · rename_i pm ds q
      obtain ⟨m', h1, h2⟩ := Option.map_eq_some_iff.mp h
      subst h2
      simp at e
      exact .inr ⟨k, pm, ds, e.symm, rfl, q⟩
    · cases h
  | .o k :: r, m, j + 1, s, h, e => by
    unfold slots at h
    split at h
    · obtain ⟨m', h1, h2⟩ := Option.map_eq_some_iff.mp h
      subst h2
      simpa using slots_m h1 (by simpa using e)
    · cases h
theorem hasO_of : ∀ {as : List Ar} {i j : Nat}, as[j]? = some (.o i) → hasO i as = true
  | [], i, j, e => by simp at e
  | .d x :: r, i, 0, e => by simp at e
  | .d x :: r, i, j + 1, e => hasO_of (as := r) (by simpa using e)
  | .o k :: r, i, 0, e => by simp at e; simp [hasO, e]
  | .o k :: r, i, j + 1, e => by simp [hasO, hasO_of (as := r) (by simpa using e)]
theorem dist_ix : ∀ {as : List Ar} {i j k : Nat}, dist as = true → as[j]? = some (.o i) → as[k]? = some (.o i) → j = k
  | [], i, j, k, d, e, f => by simp at e
  | .d x :: r, i, 0, k, d, e, f => by simp at e
  | .d x :: r, i, j + 1, 0, d, e, f => by simp at f
  | .d x :: r, i, j + 1, k + 1, d, e, f => congrArg (· + 1) (dist_ix (as := r) (i := i) (j := j) (k := k) d (by simpa using e) (by simpa using f))
  | .o q :: r, i, 0, 0, d, e, f => rfl
  | .o q :: r, i, 0, k + 1, d, e, f => by
    simp at e
    subst e
    have h := hasO_of (as := r) (by simpa using f)
    simp [dist, h] at d
  | .o q :: r, i, j + 1, 0, d, e, f => by
    simp at f
    subst f
    have h := hasO_of (as := r) (by simpa using e)
    simp [dist, h] at d
  | .o q :: r, i, j + 1, k + 1, d, e, f => by
    simp [dist] at d
    exact congrArg (· + 1) (dist_ix (as := r) (i := i) (j := j) (k := k) d.2 (by simpa using e) (by simpa using f))
theorem look_some : ∀ {as : List Ar} {m : Nv} {i : Nat} {es : Ct}, look as m i = some es → ∃ (j : Nat) (b : Bool), as[j]? = some (.o i) ∧ m[j]? = some (.ow b es)
  | [], m, i, es, h => by cases m <;> cases h
  | a :: r, [], i, es, h => by
    cases a <;> cases h
  | .d x :: r, y :: m, i, es, h => by
    obtain ⟨j, b, h1, h2⟩ := look_some (as := r) (m := m) (by cases y <;> exact h)
    exact ⟨j + 1, b, by simpa using h1, by simpa using h2⟩
  | .o k :: r, .im y :: m, i, es, h => by
    obtain ⟨j, b, h1, h2⟩ := look_some (as := r) (m := m) h
    exact ⟨j + 1, b, by simpa using h1, by simpa using h2⟩
  | .o k :: r, .un :: m, i, es, h => by
    obtain ⟨j, b, h1, h2⟩ := look_some (as := r) (m := m) h
    exact ⟨j + 1, b, by simpa using h1, by simpa using h2⟩
  | .o k :: r, .ow b0 ds :: m, i, es, h => by
    simp only [look] at h
    split at h
    · rename_i q
      cases h
      exact ⟨0, b0, by simp [q], rfl⟩
    · obtain ⟨j, b, h1, h2⟩ := look_some (as := r) (m := m) h
      exact ⟨j + 1, b, by simpa using h1, by simpa using h2⟩
theorem look_none : ∀ {as : List Ar} {m : Nv} {i j : Nat} {b : Bool} {es : Ct}, look as m i = none → as[j]? = some (.o i) → m[j]? ≠ some (.ow b es)
  | [], m, i, j, b, es, h, e => by simp at e
  | a :: r, [], i, j, b, es, h, e => by simp
  | .d x :: r, y :: m, i, 0, b, es, h, e => by simp at e
  | .d x :: r, y :: m, i, j + 1, b, es, h, e => by simpa using look_none (as := r) (m := m) (by cases y <;> exact h) (by simpa using e)
  | .o k :: r, .im y :: m, i, 0, b, es, h, e => by simp
  | .o k :: r, .un :: m, i, 0, b, es, h, e => by simp
  | .o k :: r, .ow b0 ds :: m, i, 0, b, es, h, e => by
    simp at e
    simp [look, e] at h
  | .o k :: r, .im y :: m, i, j + 1, b, es, h, e => by simpa using look_none (as := r) (m := m) h (by simpa using e)
  | .o k :: r, .un :: m, i, j + 1, b, es, h, e => by simpa using look_none (as := r) (m := m) h (by simpa using e)
  | .o k :: r, .ow b0 ds :: m, i, j + 1, b, es, h, e => by
    simp only [look] at h
    split at h
    · cases h
    · simpa using look_none (as := r) (m := m) h (by simpa using e)
theorem back_get {as : List Ar} {m n : Nv} {i : Nat} : (back as m n)[i]? = match n[i]? with
    | some (.ow pm ds) => some (.ow pm ((look as m i).getD ds))
    | s => s := by
  unfold back
  rw [List.getElem?_mapIdx]
  cases n[i]? with
  | none => rfl
  | some s => cases s <;> rfl
theorem back_len {as : List Ar} {m n : Nv} : (back as m n).length = n.length := by simp [back]
theorem ArVs.get {K S σ n H} : ∀ {vs : List V} {as : List Ar} {j : Nat} {a : Ar}, ArVs K S σ n H vs as → as[j]? = some a → ∃ v, vs[j]? = some v ∧ ArV K S σ n H v a
  | _, _, _, _, .nil, e => by simp at e
  | _, _, 0, _, .cons h _, e => by simp at e; subst e; exact ⟨_, rfl, h⟩
  | _, _, j + 1, _, .cons _ t, e => by
    obtain ⟨v, h1, h2⟩ := ArVs.get (j := j) t (by simpa using e)
    exact ⟨v, by simpa using h1, h2⟩
theorem ArVs.len {K S σ n H} : ∀ {vs : List V} {as : List Ar}, ArVs K S σ n H vs as → vs.length = as.length
  | _, _, .nil => rfl
  | _, _, .cons _ t => by simp [ArVs.len t]
section
variable {K : PySem.W.Frag} {S : AS} {H H' : Hp} {σ : Sg} {n m m' : Nv} {vs : List V} {as : List Ar}
theorem map_some_get {j : Nat} {v : V} : (vs.map some)[j]? = some (some v) ↔ vs[j]? = some v := by
  rw [List.getElem?_map]
  cases vs[j]? <;> simp
theorem own_callee (av : ArVs K S σ n H vs as) (hs : slots n as = some m) : ∀ a, Own (vs.map some) m a → ∃ (i j : Nat) (pm : Bool) (ds : Ct), as[j]? = some (.o i) ∧ n[i]? = some (.ow pm ds) ∧ σ[i]? = some (some (.ref a)) ∧ vs[j]? = some (.ref a) := fun a ⟨j, b, ds, e1, e2⟩ => by
  have e2' := map_some_get.mp e2
  rcases slots_m hs e1 with ⟨x, q, _⟩ | ⟨i, pm, ds', q, h1, h2⟩
  · cases q
  · obtain ⟨v, h3, h4⟩ := av.get h1
    rw [e2'] at h3
    cases h3
    exact ⟨i, j, pm, ds', h1, h2, h4.1, e2'⟩
theorem call_pre (R : Rel K S H σ n) (av : ArVs K S σ n H vs as) (hs : slots n as = some m) (hd : dist as = true) :
    Rel K (AV S σ n) H (vs.map some) m ∧ (∀ a, Own (vs.map some) m a → AV S σ n a) ∧ ∀ (i : Nat) (ds : Ct), m[i]? ≠ some (.ow false ds) := by
  have sub : ∀ a, Own (vs.map some) m a → AV S σ n a := fun a h => by
    obtain ⟨i, j, pm, ds, h1, h2, h3, _⟩ := own_callee av hs a h
    exact .inr ⟨i, pm, ds, h2, h3⟩
  refine ⟨⟨by rw [slots_len hs, List.length_map, av.len], fun j d e => ?_, fun j b ds e => ?_, fun j k b b' ds es p h1 h2 h3 h4 => ?_, R.avSome⟩, sub, fun j ds e => ?_⟩
  · rcases slots_m hs e with ⟨x, q, h1⟩ | ⟨i, pm, ds', q, h1, h2⟩
    · cases q
      obtain ⟨v, h3, h4⟩ := av.get h1
      exact ⟨v, map_some_get.mpr h3, Dv.weak h4 fun a z => z.elim id (sub a)⟩
    · cases q
  · rcases slots_m hs e with ⟨x, q, h1⟩ | ⟨i, pm, ds', q, h1, h2⟩
    · cases q
    · cases q
      obtain ⟨v, h3, h4, _⟩ := av.get h1
      obtain ⟨p, us, g1, g2, g3, g4⟩ := R.ow _ _ _ h2
      rw [h4] at g1
      cases g1
      exact ⟨p, us, map_some_get.mpr h3, g2, g3.weak fun a z => z.elim id (sub a), fun z => by cases z⟩
  · rcases slots_m hs h1 with ⟨x, q, _⟩ | ⟨i, pm, ds', q, g1, g2⟩
    · cases q
    · rcases slots_m hs h2 with ⟨x, q', _⟩ | ⟨i', pm', ds'', q', g1', g2'⟩
      · cases q'
      · obtain ⟨v, a1, a2, _⟩ := av.get g1
        obtain ⟨v', b1, b2, _⟩ := av.get g1'
        rw [map_some_get.mp h3] at a1
        cases a1
        rw [map_some_get.mp h4] at b1
        cases b1
        have e := R.inj i i' _ _ _ _ p g2 g2' a2 b2
        subst e
        exact dist_ix hd g1 g1'
  · rcases slots_m hs e with ⟨x, q, _⟩ | ⟨i, pm, ds', q, g1, g2⟩
    · cases q
    · cases q
theorem call_post (R : Rel K S H σ n) (av : ArVs K S σ n H vs as) (hs : slots n as = some m) (hd : dist as = true) {T B : AS} (st : Stp (vs.map some) m H (vs.map some) m' H') (R' : Rel K T H' (vs.map some) m')
    (hT : ∀ a, B a → T a) (hB : ∀ a, B a → AV S σ n a ∨ H a = none) :
    (∀ (i : Nat) (d : PD), (back as m' n)[i]? = some (.im d) → ∃ v, σ[i]? = some (some v) ∧ Dv K H' B v d) ∧
    (∀ (i : Nat) (pm : Bool) (es : Ct), (back as m' n)[i]? = some (.ow pm es) → ∃ p us, σ[i]? = some (some (.ref p)) ∧ H' p = some us ∧ CtV K H' B us es ∧ (pm = false → ¬ S p)) := by
  have oc := own_callee av hs
  have sub : ∀ a, Own (vs.map some) m a → AV S σ n a := fun a h => by
    obtain ⟨i, j, pm, ds, h1, h2, h3, _⟩ := oc a h
    exact .inr ⟨i, pm, ds, h2, h3⟩
  refine ⟨fun i d e => ?_, fun i pm es e => ?_⟩
  · rw [back_get] at e
    have e' : n[i]? = some (.im d) := by
      cases q : n[i]? with
      | none => rw [q] at e; cases e
      | some s => rw [q] at e; cases s <;> simp_all
    obtain ⟨v, h1, h2⟩ := R.im i d e'
    exact ⟨v, h1, h2.mono (S := Own (vs.map some) m) st.ext sub hB⟩
  · rw [back_get] at e
    have e' : ∃ ds, n[i]? = some (.ow pm ds) ∧ es = (look as m' i).getD ds := by
      cases q : n[i]? with
      | none => rw [q] at e; cases e
      | some s =>
        rw [q] at e
        cases s with
        | ow b ds =>
          cases e
          exact ⟨ds, rfl, rfl⟩
        | _ => cases e
    obtain ⟨ds, e1, e2⟩ := e'
    obtain ⟨p, us, h1, h2, h3, h4⟩ := R.ow _ _ _ e1
    cases lk : look as m' i with
    | some fs =>
      rw [lk] at e2
      have e2 : es = fs := e2
      subst e2
      obtain ⟨j, b, g1, g2⟩ := look_some lk
      obtain ⟨v, a1, a2, _⟩ := av.get g1
      rw [h1] at a2
      cases a2
      obtain ⟨p', us', c1, c2, c3, _⟩ := R'.ow j b _ g2
      rw [map_some_get.mpr a1] at c1
      cases c1
      exact ⟨p, us', h1, c2, c3.weak fun a z => .inl (hT a z), h4⟩
    | none =>
      rw [lk] at e2
      have e2 : es = ds := e2
      subst e2
      refine ⟨p, us, h1, st.ext _ _ (fun z => ?_) h2, h3.mono (S := Own (vs.map some) m) st.ext sub hB, h4⟩
      obtain ⟨i', j, pm', ds', q1, q2, q3, q4⟩ := oc p z
      have e := R.inj i i' _ _ _ _ p e1 q2 h1 q3
      subst e
      obtain ⟨pm2, ds2, w1, w2⟩ := slots_o hs q1
      obtain ⟨_, fs, w3⟩ := st.pmk j ds2 w2
      exact look_none lk q1 w3
theorem back_own : ∀ a, Own σ (back as m' n) a ↔ Own σ n a := fun a => by
  constructor
  · rintro ⟨i, pm, ds, e1, e2⟩
    rw [back_get] at e1
    cases q : n[i]? with
    | none => rw [q] at e1; cases e1
    | some s =>
      rw [q] at e1
      cases s with
      | ow b fs => cases e1; exact ⟨i, pm, fs, q, e2⟩
      | _ => cases e1
  · rintro ⟨i, pm, ds, e1, e2⟩
    exact ⟨i, pm, _, by rw [back_get, e1], e2⟩
theorem back_inj (R : Rel K S H σ n) (i j : Nat) (pm qm : Bool) (ds es : Ct) (p : Addr) (h1 : (back as m' n)[i]? = some (.ow pm ds)) (h2 : (back as m' n)[j]? = some (.ow qm es)) (h3 : σ[i]? = some (some (.ref p))) (h4 : σ[j]? = some (some (.ref p))) : i = j := by
  have g : ∀ {i : Nat} {pm : Bool} {ds : Ct}, (back as m' n)[i]? = some (.ow pm ds) → ∃ fs, n[i]? = some (.ow pm fs) := fun {i pm ds} e => by
    rw [back_get] at e
    cases q : n[i]? with
    | none => rw [q] at e; cases e
    | some s =>
      rw [q] at e
      cases s with
      | ow b fs => cases e; exact ⟨fs, rfl⟩
      | _ => cases e
  obtain ⟨_, g1⟩ := g h1
  obtain ⟨_, g2⟩ := g h2
  exact R.inj i j _ _ _ _ p g1 g2 h3 h4
theorem back_knd : Knd n (back as m' n) := fun i pm ds h => ⟨(look as m' i).getD ds, by rw [back_get, h]⟩
theorem call_stp (av : ArVs K S σ n H vs as) (hs : slots n as = some m) (st : Stp (vs.map some) m H (vs.map some) m' H') : Stp σ n H σ (back as m' n) H' where
  ext := fun a o h e => st.ext a o (fun z => by
    obtain ⟨i, j, pm, ds, h1, h2, h3, _⟩ := own_callee av hs a z
    exact h ⟨i, pm, ds, h2, h3⟩) e
  own := fun a h => .inl ((back_own a).mp h)
  dom := st.dom
  pmk := fun i ds h => ⟨rfl, (look as m' i).getD ds, by rw [back_get, h]⟩
theorem call_rel (R : Rel K S H σ n) (av : ArVs K S σ n H vs as) (hs : slots n as = some m) (hd : dist as = true) {T : AS} (st : Stp (vs.map some) m H (vs.map some) m' H') (R' : Rel K T H' (vs.map some) m') (hT : ∀ a, AV S σ n a → T a) :
    Rel K S H' σ (back as m' n) := by
  have z := call_post R av hs hd st R' hT fun a z => .inl z
  have w : ∀ a, AV S σ (back as m' n) a → AV S σ n a := fun a z => z.elim .inl fun q => .inr ((back_own a).mp q)
  refine ⟨by rw [back_len]; exact R.len, fun i d e => ?_, fun i pm ds e => ?_, back_inj R, fun a q => st.dom a (R.trk a q)⟩
  · obtain ⟨v, h1, h2⟩ := z.1 i d e
    exact ⟨v, h1, h2.weak w⟩
  · obtain ⟨p, us, h1, h2, h3, h4⟩ := z.2 i pm ds e
    exact ⟨p, us, h1, h2, h3.weak w, h4⟩
theorem call_frs (R : Rel K S H σ n) (av : ArVs K S σ n H vs as) (hs : slots n as = some m) (hd : dist as = true) {p : Addr} {ws : List V} {ds : List PD} (st : Stp (vs.map some) m H (vs.map some) m' H') (R' : Rel K (fun a => AV S σ n a ∨ a = p) H' (vs.map some) m')
    (np : H p = none) (hp : H' p = some (.lst ws)) (hw : DvA K H' (AV (fun a => AV S σ n a ∨ a = p) (vs.map some) m') ws ds) : Frs K S σ (back as m' n) H' p (.l ds) := by
  have z := call_post R av hs hd st R' (B := fun a => AV S σ n a ∨ a = p) (fun a z => z) fun a z => z.elim .inl fun q => .inr (q ▸ np)
  have w : ∀ a, AV S σ (back as m' n) a → AV S σ n a := fun a z => z.elim .inl fun q => .inr ((back_own a).mp q)
  have w2 : ∀ a, (AV S σ (back as m' n) a ∨ a = p) → (AV S σ n a ∨ a = p) := fun a z => z.elim (fun q => .inl (w a q)) .inr
  refine ⟨call_rel R av hs hd st R' fun a z => .inl z, fun q => R.nav np (w p q), ⟨.lst ws, hp, DvA.weak hw fun a z => .inl (w2 a z)⟩, fun i d e => ?_, fun i pm es e => ?_⟩
  · obtain ⟨v, h1, h2⟩ := z.1 i d e
    exact ⟨v, h1, h2.weak w2⟩
  · obtain ⟨q, us, h1, h2, h3, h4⟩ := z.2 i pm es e
    exact ⟨q, us, h1, h2, h3.weak w2⟩
end
def cal {β : Type} (r : Rs Rv) (n : Nv) (k : Rv → Nv → Rs β) : Rs β := match r with
  | none => none
  | some (.error (e, _)) => some (.error (e, n))
  | some (.ok (r, m)) => k r m
@[simp] theorem cal_ret {β : Type} {a : Rv} {m n : Nv} {k : Rv → Nv → Rs β} : cal (ret a m) n k = k a m := (rfl)
@[simp] theorem cal_ok {β : Type} {a : Rv} {m n : Nv} {k : Rv → Nv → Rs β} : cal (some (.ok (a, m))) n k = k a m := (rfl)
@[simp] theorem cal_err {β : Type} {e : Er} {m n : Nv} {k : Rv → Nv → Rs β} : cal (some (.error (e, m))) n k = some (.error (e, n)) := (rfl)
def eRv (as : List Ar) (n : Nv) (r : Rv) (m : Nv) : Rs Ar := match r with
  | .d x => ret (.d x) (back as m n)
  | .l ds => ret (.d (.list ds)) (back as m n)
def oRv (as : List Ar) (n : Nv) (r : Rv) (m : Nv) : Rs (List PD) := match r with
  | .d _ => none
  | .l ds => ret ds (back as m n)
def eCall (f : Nv → Rs Rv) (fr : Nv → Rs (List Ar)) : Nv → Rs Ar := fun n => bnd (fr n) fun as n1 => if dist as = true then lft (slots n1 as) fun m => cal (f m) n1 (eRv as n1) else none
def oCall (f : Nv → Rs Rv) (fr : Nv → Rs (List Ar)) : Nv → Rs (List PD) := fun n => bnd (fr n) fun as n1 => if dist as = true then lft (slots n1 as) fun m => cal (f m) n1 (oRv as n1) else none
def Ary (k : Nat) (f : Nv → Rs Rv) : Prop := ∀ m x, f m = some x → m.length = k
def ary (k : Nat) (f : Nv → Rs Rv) : Nv → Rs Rv := fun m => if m.length = k then f m else none
theorem ary_ok {k : Nat} {f : Nv → Rs Rv} : Ary k (ary k f) := fun m x h => by
  unfold ary at h
  split at h
  · assumption
  · cases h
section
variable {c : Cz} {k : Nat} {f : Nv → Rs Rv} {ta : TA} {fr : Nv → Rs (List Ar)}
theorem Rz.callee {E : XK} {S σ n H vs as m e} (av : ArVs c.K S σ n H vs as) (hs : slots n as = some m) (hE : E = c.E σ) (h : Rz c S σ n H e) : Rz ⟨c.K, c.cl, fun _ => E⟩ (AV S σ n) (vs.map some) m H e := fun C od H2 x d z => by
  subst hE
  exact h C od H2 (fun a o na ha => x a o (fun q => by
    obtain ⟨i, j, pm, ds, h1, h2, h3, _⟩ := own_callee av hs a q
    exact na ⟨i, pm, ds, h2, h3⟩) ha) d (ErrV.weak z fun a q => .inl q)
theorem call_core {E : Sg → XK} {W : Nv → Hp → V → Ar → Prop} {S σ n1 H1 Q} {vs : List V} {as : List Ar} (hf : Ary k f) (hE : E σ = c.E σ) (R1 : Rel c.K S H1 σ n1) (va : ArVs c.K S σ n1 H1 vs as)
    (h1 : OkG c S (fun n' H' v a => ArV c.K S σ n' H' v a) (if dist as = true then lft (slots n1 as) fun m => cal (f m) n1 (eRv as n1) else none) σ n1 H1 Q) : spM c.K c.cl k f vs H1 Q (E σ) := by
  split at h1
  · rename_i hd
    obtain ⟨m, hs, h1⟩ := h1.lft
    obtain ⟨p1, p2, p3⟩ := call_pre R1 va hs hd
    have hl : ∀ x, f m = some x → vs.length = k := fun x e => by rw [va.len, ← slots_len hs]; exact hf _ _ e
    refine ⟨?_, AV S σ n1, m, p1, p2, p3, ?_⟩
    · cases q : f m with
      | none => rw [q] at h1; exact h1.elim
      | some x => exact hl x q
    · match f m, h1 with
      | some (.error (e, _)), h1 => exact Rz.callee va hs hE (h1 H1 .refl .refl R1)
      | some (.ok (.d x, m')), h1 =>
        intro v H' st R' w
        exact h1 v H' (call_stp va hs st) back_knd (call_rel R1 va hs hd st R' fun a z => z) (Dv.weak w fun a z => .inl (z.elim .inl fun q => .inr ((back_own a).mp q)))
      | some (.ok (.l ds, m')), h1 =>
        intro p ws H' st R' np hp hw
        have fr := call_frs R1 va hs hd st R' np hp hw
        exact h1 _ H' (call_stp va hs st) back_knd fr.rel fr.dv
  · exact h1.elim
theorem de_call {E : XK} (hr : DA c ta fr) (hf : Ary k f) (hE : ∀ σ, E = c.E σ) : DE c (tCall (spM c.K c.cl k f) [] E ta) (eCall f fr) := fun S σ H n Q R h => by
  refine hr S σ H n _ R (OkG.bind h fun vs as n1 H1 s1 k1 R1 va h1 => ?_)
  rw [List.append_nil]
  exact call_core (E := fun _ => E) (W := fun _ _ _ _ => True) hf (hE σ) R1 va h1
theorem de_callS {E : Sg → XK} (hr : DA c ta fr) (hf : Ary k f) (hE : ∀ σ, E σ = c.E σ) : DE c (tCallS (spM c.K c.cl k f) E ta) (eCall f fr) := fun S σ H n Q R h => by
  refine hr S σ H n _ R (OkG.bind h fun vs as n1 H1 s1 k1 R1 va h1 => ?_)
  exact call_core (W := fun _ _ _ _ => True) hf (hE σ) R1 va h1
theorem do_call {E : XK} (hr : DA c ta fr) (hf : Ary k f) (hE : ∀ σ, E = c.E σ) : DO c (tCall (spM c.K c.cl k f) [] E ta) (oCall f fr) := fun S σ H n Q R h => by
  refine hr S σ H n _ R (OkG.bind h fun vs as n1 H1 s1 k1 R1 va h1 => ?_)
  split at h1
  · rename_i hd
    obtain ⟨m, hs, h1⟩ := h1.lft
    obtain ⟨p1, p2, p3⟩ := call_pre R1 va hs hd
    rw [List.append_nil]
    have hl : ∀ x, f m = some x → vs.length = k := fun x e => by rw [va.len, ← slots_len hs]; exact hf _ _ e
    refine ⟨?_, AV S σ n1, m, p1, p2, p3, ?_⟩
    · cases q : f m with
      | none => rw [q] at h1; exact h1.elim
      | some x => exact hl x q
    · match f m, h1 with
      | some (.error (e, _)), h1 => exact Rz.callee va hs (hE σ) (h1 H1 .refl .refl R1)
      | some (.ok (.d x, m')), h1 => exact h1.elim
      | some (.ok (.l ds, m')), h1 =>
        intro p ws H' st R' np hp hw
        have fr := call_frs R1 va hs hd st R' np hp hw
        exact h1 _ H' (call_stp va hs st) back_knd fr.rel ⟨p, rfl, s1.non np, fr⟩
  · exact h1.elim
end
end Dl
set_option Elab.async false
set_option linter.all false
set_option maxRecDepth 100000
namespace Dl
open PySem PySem.Spec PyProof.Rows L2
def JOk (K : PySem.W.Frag) (J : It) (bs : List V) (bd : List PD) (ds : List PD) : Prop := ∀ (H : Hp) (A : AS) (i : Nat), (∀ a, A a → H a ≠ none) → DvA K H A bs bd →
  (ds.length ≤ i → J.stop i H) ∧ ∀ d, ds[i]? = some d → J.go i H ∧ ∀ x H', J.yld i H x H' → NewH H H' ∧ Dv K H' A x d
def DI (c : Cz) (wi : TI) (f : Nv → Rs (List PD)) : Prop := ∀ S σ H n (Q : It → Hp → Prop), Rel c.K S H σ n →
  OkG c S (fun n' H' J ds => ∃ bs bd, DvA c.K H' (AV S σ n') bs bd ∧ JOk c.K J bs bd ds) (f n) σ n H Q → wi σ H Q
def DG (c : Cz) (g : TG) (tg : PD → Nv → Option Nv) : Prop := ∀ S σ H n v d n' (Q : Sg → Hp → Prop), Rel c.K S H σ n → Dv c.K H (AV S σ n) v d → tg d n = some n' →
  (∀ σ', Stp σ n H σ' n' H → Rel c.K S H σ' n' → Q σ' H) → g v σ H Q
def DGs (c : Cz) (g : TGs) (tg : List PD → Nv → Option Nv) : Prop := ∀ S σ H n vs ds n' (Q : Sg → Hp → Prop), Rel c.K S H σ n → DvA c.K H (AV S σ n) vs ds → tg ds n = some n' →
  (∀ σ', Stp σ n H σ' n' H → Rel c.K S H σ' n' → Q σ' H) → g vs σ H Q
def gN (i : Nat) (d : PD) (n : Nv) : Option Nv := if free? n i = true then some (n.set i (.im d)) else none
def gsN (ds : List PD) (n : Nv) : Option Nv := match ds with
  | [] => some n
  | _ => none
def gsC (f : PD → Nv → Option Nv) (g : List PD → Nv → Option Nv) (ds : List PD) (n : Nv) : Option Nv := match ds with
  | d :: r => match f d n with
    | some n1 => g r n1
    | none => none
  | [] => none
def gT (k : Nat) (g : List PD → Nv → Option Nv) (d : PD) (n : Nv) : Option Nv := match d with
  | .tuple ds => if ds.length = k then g ds n else none
  | _ => none
section
variable {c : Cz} {t : TS} {f : Nv → RS} {te : TE} {fe : Nv → Rs Ar}
theorem dg_name {i : Nat} : DG c (gName i) (gN i) := fun S σ H n v d n' Q R h e q => by
  unfold gN at e
  split at e
  · rename_i hf
    cases e
    exact q _ (.setIm (free_of hf)) (R.setIm (free_of hf) h)
  · cases e
theorem dgs_nil : DGs c gNil gsN := fun S σ H n vs ds n' Q R h e q => by
  unfold gsN at e
  split at e
  · cases e
    cases h
    exact ⟨rfl, q _ .refl R⟩
  · cases e
theorem dgs_cons {g : TG} {gs : TGs} {a b} (h1 : DG c g a) (h2 : DGs c gs b) : DGs c (gCons g gs) (gsC a b) := fun S σ H n vs ds n' Q R h e q => by
  unfold gsC at e
  split at e
  · rename_i d r
    split at e
    · rename_i n1 e1
      cases h with
      | cons hv hr =>
        refine ⟨_, _, rfl, h1 S σ H n _ d n1 _ R hv e1 fun σ1 s1 R1 => ?_⟩
        exact h2 S σ1 H n1 _ r n' Q R1 (s1.dvA hr) e fun σ2 s2 R2 => q σ2 (s1.trans s2) R2
    · cases e
  · cases e
theorem dg_tup {gs : TGs} {b} {k : Nat} (h : DGs c gs b) : DG c (gTup c.K k gs) (gT k b) := fun S σ H n v d n' Q R hv e q => by
  unfold gT at e
  split at e
  · split at e
    · rename_i ds hk
      cases hv with
      | tup hs ha => exact ⟨_, _, rfl, hs.sq, by rw [ha.len]; exact hk, h S σ H n _ ds n' Q R ha e q⟩
    · cases e
  · cases e
def sAsg (fe : Nv → Rs Ar) (tg : PD → Nv → Option Nv) : Nv → RS := fun n => sbn (fe n) fun a n1 => match a with
  | .d x => match tg x n1 with
    | some n2 => nxt n2
    | none => none
  | .o _ => none
theorem ds_asg {g : TG} {tg} (h1 : DE c te fe) (h2 : DG c g tg) : DS c (tAsg te g) (sAsg fe tg) := fun S H0 σ H n D R hd h => by
  refine h1 S σ H n _ R (OkS.bind h fun v a n1 H1 s1 k1 R1 va h3 => ?_)
  cases a with
  | o j => exact h3.elim
  | d x =>
    dsimp only at h3
    split at h3
    · rename_i n2 e
      exact h2 S σ H1 n1 v x n2 _ R1 va e fun σ' s R' => h3 σ' H1 s R'
    · exact h3.elim
def lp (k : Nv → RS) (r : RS) : RS := match r with
  | some (.ok (.nx, n)) => k n
  | some (.ok (.ct, n)) => k n
  | some (.ok (.bk, n)) => nxt n
  | r => r
def loopF (tg : PD → Nv → Option Nv) (b : Nv → RS) : List PD → Nv → RS
  | [], n => nxt n
  | d :: r, n => match tg d n with
    | some n1 => lp (loopF tg b r) (b n1)
    | none => none
def sFor (fi : Nv → Rs (List PD)) (tg : PD → Nv → Option Nv) (b : Nv → RS) : Nv → RS := fun n => sbn (fi n) fun ds n1 => loopF tg b ds n1
theorem drop_get {α : Type} {l : List α} {i : Nat} {d : α} (h : l[i]? = some d) : l.drop i = d :: l.drop (i + 1) := by
  obtain ⟨hi, e⟩ := List.getElem?_eq_some_iff.mp h
  rw [List.drop_eq_getElem_cons hi, e]
theorem ds_for {wi : TI} {g : TG} {tb : TS} {fi tg b} (hi : DI c wi fi) (hg : DG c g tg) (hb : DS c tb b) : DS c (tFor wi g tb) (sFor fi tg b) := fun S H0 σ H n D R hd h => by
  refine hi S σ H n _ R (OkS.bind h fun J ds n1 H1 s1 k1 R1 vJ h1 => ?_)
  obtain ⟨bs, bd, hbs, jok⟩ := vJ
  have hd1 := hd.trans s1
  refine ⟨fun i m σ' H' => m = ds.length - i ∧ i ≤ ds.length ∧ ∃ n', Rel c.K S H' σ' n' ∧ Stp σ n1 H1 σ' n' H' ∧ OkS c S H0 (loopF tg b (ds.drop i) n') σ' n' H' D, ⟨ds.length, by simp, Nat.zero_le _, n1, R1, .refl, by simpa using h1⟩, ?_⟩
  rintro i m σ' H' ⟨rfl, hi, n', R', st, ok⟩
  have J' := jok H' (AV S σ' n') i R'.avSome (st.dvA hbs)
  by_cases q : i = ds.length
  · subst q
    refine .inl ⟨J'.1 (Nat.le_refl _), ?_⟩
    rw [List.drop_length] at ok
    exact ok σ' H' .refl R'
  · have hlt : i < ds.length := by omega
    obtain ⟨go, yl⟩ := J'.2 ds[i] (List.getElem?_eq_getElem hlt)
    refine .inr ⟨go, fun σ2 H2 => (i + 1 ≤ ds.length) ∧ ∃ n2, Rel c.K S H2 σ2 n2 ∧ Stp σ n1 H1 σ2 n2 H2 ∧ OkS c S H0 (loopF tg b (ds.drop (i + 1)) n2) σ2 n2 H2 D, fun σ2 H2 hN => ⟨ds.length - (i + 1), by omega, rfl, hN⟩, fun x H2 y => ?_⟩
    obtain ⟨nh, hx⟩ := yl x H2 y
    rw [drop_get (List.getElem?_eq_getElem hlt)] at ok
    unfold loopF at ok
    have sg : Stp σ' n' H' σ' n' H2 := .grown nh
    have R2 := R'.ext nh
    split at ok
    · rename_i n2 e2
      refine hg S σ' H2 n' x _ n2 _ R2 hx e2 fun σ2 s2 R3 => ?_
      refine hb S H0 σ2 H2 n2 _ R3 (hd1.trans (st.trans (sg.trans s2))) ?_
      have ok2 := OkS.move (sg.trans s2) ok
      have st2 := st.trans (sg.trans s2)
      match b n2, ok2 with
      | some (.error e), ok2 => exact ok2
      | some (.ok (.nx, n3)), ok2 => exact fun σ3 H3 s3 R3 => ⟨hlt, n3, R3, st2.trans s3, OkS.move s3 ok2⟩
      | some (.ok (.ct, n3)), ok2 => exact fun σ3 H3 s3 R3 => ⟨hlt, n3, R3, st2.trans s3, OkS.move s3 ok2⟩
      | some (.ok (.bk, n3)), ok2 => exact ok2
      | some (.ok (.rt x, n3)), ok2 => exact ok2
      | none, ok2 => exact ok2
    · exact ok.elim
end
section
variable {c : Cz} {te : TE} {fe : Nv → Rs Ar} {ta : TA} {fa : Nv → Rs (List Ar)}
def iL (fe : Nv → Rs Ar) : Nv → Rs (List PD) := fun n => bnd (fe n) fun a n1 => match a with
  | .d (.list ds) => ret ds n1
  | _ => none
def iT (fe : Nv → Rs Ar) : Nv → Rs (List PD) := fun n => bnd (fe n) fun a n1 => match a with
  | .d (.tuple ds) => ret ds n1
  | _ => none
theorem jok_list {K : PySem.W.Frag} {a : Addr} {ds : List PD} : JOk K (Itl K a) [.ref a] [.list ds] ds := fun H A i na h => by
  cases h with
  | cons h _ =>
    cases h with
    | lst hl ha =>
      refine ⟨fun q => ⟨_, hl.sq, by rw [ha.len]; exact q⟩, fun d e => ?_⟩
      obtain ⟨v, e1, hv⟩ := ha.get e
      exact ⟨⟨_, v, hl.sq, e1⟩, fun x H' ⟨e2, y⟩ => by
        subst e2
        have e3 := y _ hl.sq
        rw [e1] at e3
        cases e3
        exact ⟨.refl, hv⟩⟩
theorem jok_tup {K : PySem.W.Frag} {a : Addr} {ds : List PD} : JOk K (Itt K a) [.ref a] [.tuple ds] ds := fun H A i na h => by
  cases h with
  | cons h _ =>
    cases h with
    | tup hl ha =>
      refine ⟨fun q => ⟨_, hl.sq, by rw [ha.len]; exact q⟩, fun d e => ?_⟩
      obtain ⟨v, e1, hv⟩ := ha.get e
      exact ⟨⟨_, v, hl.sq, e1⟩, fun x H' ⟨e2, y⟩ => by
        subst e2
        have e3 := y _ hl.sq
        rw [e1] at e3
        cases e3
        exact ⟨.refl, hv⟩⟩
theorem di_list (h1 : DE c te fe) : DI c (iList c.K te) (iL fe) := fun S σ H n Q R h => by
  refine h1 S σ H n _ R (OkG.bind h fun v a n1 H1 s1 k1 R1 va h2 => ?_)
  match a, va, h2 with
  | .d (.list ds), va, h2 =>
    cases va with
    | lst hl ha => exact ⟨_, rfl, ⟨_, hl.sq⟩, h2.ret .refl R1 ⟨_, _, .cons (.lst hl ha) .nil, jok_list⟩⟩
theorem di_tup (h1 : DE c te fe) : DI c (iTup c.K te) (iT fe) := fun S σ H n Q R h => by
  refine h1 S σ H n _ R (OkG.bind h fun v a n1 H1 s1 k1 R1 va h2 => ?_)
  match a, va, h2 with
  | .d (.tuple ds), va, h2 =>
    cases va with
    | tup hl ha => exact ⟨_, rfl, ⟨_, hl.sq⟩, h2.ret .refl R1 ⟨_, _, .cons (.tup hl ha) .nil, jok_tup⟩⟩
def rngD (lo : Int) (k : Nat) : List PD := (List.range k).map fun (i : Nat) => .int (lo + (i : Int))
theorem jok_rng {K : PySem.W.Frag} {lo : Int} {k : Nat} : JOk K (Itr lo k) [] [] (rngD lo k) := fun H A i na h => by
  refine ⟨fun q => show k ≤ i by simpa [rngD] using q, fun d e => ?_⟩
  have hi : i < k := by
    have := (List.getElem?_eq_some_iff.mp e).1
    simpa [rngD] using this
  have e2 : d = .int (lo + (i : Int)) := by
    simp [rngD, hi] at e
    exact e.symm
  subst e2
  exact ⟨hi, fun x H' ⟨e3, y⟩ => by subst e3 y; exact ⟨.refl, .int _⟩⟩
def in62 (i : Int) : Bool := decide (-(2 ^ 62) ≤ i) && decide (i < 2 ^ 62)
theorem in62_of {i : Int} (h : in62 i = true) : -(2 ^ 62) ≤ i ∧ i < 2 ^ 62 := by
  unfold in62 at h
  simpa using h
def iR1 (fa : Nv → Rs (List Ar)) : Nv → Rs (List PD) := fun n => bnd (fa n) fun as n1 => match as with
  | [.d (.int j)] => if in62 j = true then ret (rngD 0 j.toNat) n1 else none
  | _ => none
def iR2 (fa : Nv → Rs (List Ar)) : Nv → Rs (List PD) := fun n => bnd (fa n) fun as n1 => match as with
  | [.d (.int i), .d (.int j)] => if in62 i = true then if in62 j = true then ret (rngD i (j - i).toNat) n1 else none else none
  | _ => none
theorem di_rng1 (h1 : DA c ta fa) : DI c (iRng1 ta) (iR1 fa) := fun S σ H n Q R h => by
  refine h1 S σ H n _ R (OkG.bind h fun vs as n1 H1 s1 k1 R1 va h2 => ?_)
  match as, va, h2 with
  | [.d (.int j)], va, h2 =>
    cases va with
    | cons a r =>
      cases a
      cases r
      dsimp only at h2
      split at h2
      · rename_i q
        exact ⟨j, rfl, (in62_of q).1, (in62_of q).2, h2.ret .refl R1 ⟨[], [], .nil, jok_rng⟩⟩
      · exact h2.elim
theorem di_rng2 (h1 : DA c ta fa) : DI c (iRng2 ta) (iR2 fa) := fun S σ H n Q R h => by
  refine h1 S σ H n _ R (OkG.bind h fun vs as n1 H1 s1 k1 R1 va h2 => ?_)
  match as, va, h2 with
  | [.d (.int i), .d (.int j)], va, h2 =>
    cases va with
    | cons a r =>
      cases a
      cases r with
      | cons b r =>
        cases b
        cases r
        dsimp only at h2
        split at h2
        · rename_i q
          split at h2
          · rename_i q2
            exact ⟨i, j, rfl, ⟨(in62_of q).1, (in62_of q).2, (in62_of q2).1, (in62_of q2).2⟩, h2.ret .refl R1 ⟨[], [], .nil, jok_rng⟩⟩
          · exact h2.elim
        · exact h2.elim
end
end Dl
set_option Elab.async false
set_option linter.all false
set_option maxRecDepth 100000
namespace Dl
open PySem PySem.Spec PyProof.Rows L2
def wipeN (n : Nv) : List Nat → Nv
  | [] => n
  | v :: vs => (wipeN n vs).set v .un
def clr (n : Nv) (vs : List Nat) : Bool := vs.all fun i => match n[i]? with
  | some .un => true
  | _ => false
def noE {α : Type} (r : Rs α) : Rs α := match r with
  | some (.error _) => none
  | r => r
def elemK (vs : List Nat) (rest : Nv → Rs (List PD)) (a : Ar) (n : Nv) : Rs (List PD) := match a with
  | .d x => if vs.all (free? n) = true then bnd (rest (wipeN n vs)) fun xs n4 => ret (x :: xs) n4 else none
  | .o _ => none
def compF (vs : List Nat) (tg : PD → Nv → Option Nv) (ft : Nv → Rs Bool) (fe : Nv → Rs Ar) : List PD → Nv → Rs (List PD)
  | [], n => ret [] n
  | d :: r, n => lft (tg d n) fun n1 => bnd (noE (ft n1)) fun b n2 =>
    if b = true then bnd (noE (fe n2)) (elemK vs (compF vs tg ft fe r))
    else if vs.all (free? n2) = true then compF vs tg ft fe r (wipeN n2 vs) else none
def kndB : Nv → Nv → Bool
  | [], _ => true
  | .ow p _ :: r, .ow q _ :: r' => (p == q) && kndB r r'
  | .ow _ _ :: _, _ => false
  | _ :: r, _ :: r' => kndB r r'
  | _ :: r, [] => kndB r []
theorem kndB_of : ∀ {n n' : Nv}, kndB n n' = true → Knd n n'
  | [], _, _ => fun i pm ds e => by simp at e
  | .ow p ds0 :: r, .ow q es0 :: r', h => fun i pm ds e => by
    simp only [kndB, Bool.and_eq_true, beq_iff_eq] at h
    cases i with
    | zero => simp at e; exact ⟨es0, by simp [← h.1, e.1]⟩
    | succ i => simpa using kndB_of h.2 i pm ds (by simpa using e)
  | .ow p _ :: _, .im _ :: _, h => by simp [kndB] at h
  | .ow p _ :: _, .un :: _, h => by simp [kndB] at h
  | .ow p _ :: _, [], h => by simp [kndB] at h
  | .im _ :: r, s :: r', h => fun i pm ds e => by
    cases i with
    | zero => simp at e
    | succ i => simpa using kndB_of (n := r) (n' := r') (by simpa [kndB] using h) i pm ds (by simpa using e)
  | .un :: r, s :: r', h => fun i pm ds e => by
    cases i with
    | zero => simp at e
    | succ i => simpa using kndB_of (n := r) (n' := r') (by simpa [kndB] using h) i pm ds (by simpa using e)
  | .im _ :: r, [], h => fun i pm ds e => by
    cases i with
    | zero => simp at e
    | succ i =>
      obtain ⟨es, q⟩ := kndB_of (n := r) (n' := []) (by simpa [kndB] using h) i pm ds (by simpa using e)
      simp at q
  | .un :: r, [], h => fun i pm ds e => by
    cases i with
    | zero => simp at e
    | succ i =>
      obtain ⟨es, q⟩ := kndB_of (n := r) (n' := []) (by simpa [kndB] using h) i pm ds (by simpa using e)
      simp at q
def oComp (vs : List Nat) (fi : Nv → Rs (List PD)) (tg : PD → Nv → Option Nv) (ft : Nv → Rs Bool) (fe : Nv → Rs Ar) : Nv → Rs (List PD) := fun n => bnd (fi n) fun ds n1 =>
  if clr n1 vs = true then if decide (ds.length < sizeLine) = true then bnd (compF vs tg ft fe ds n1) fun xs n2 => if kndB n1 n2 = true then ret xs n2 else none else none else none
def GIn (g : TG) (vs : List Nat) : Prop := ∀ v σ H Q, g v σ H Q → g v σ H fun σ' H' => Q σ' H' ∧ wipe σ' vs = wipe σ vs
def GsIn (g : TGs) (vs : List Nat) : Prop := ∀ v σ H Q, g v σ H Q → g v σ H fun σ' H' => Q σ' H' ∧ wipe σ' vs = wipe σ vs
theorem wipe_set {σ : Sg} {i : Nat} {x : Option V} : ∀ {vs : List Nat}, i ∈ vs → wipe (σ.set i x) vs = wipe σ vs
  | v :: vs, h => by
    unfold wipe
    by_cases q : i ∈ vs
    · rw [wipe_set q]
    · have e : v = i := by
        rcases List.mem_cons.mp h with z | z
        · exact z.symm
        · exact (q z).elim
      subst e
      have aux : ∀ {us : List Nat} {τ : Sg}, v ∉ us → wipe (τ.set v x) us = (wipe τ us).set v x := fun {us τ} => by
        induction us with
        | nil => intro _; rfl
        | cons u us ih =>
          intro h2
          simp only [List.mem_cons, not_or] at h2
          unfold wipe
          rw [ih h2.2, List.set_comm _ _ h2.1]
      rw [aux q, List.set_set]
theorem gin_name {i : Nat} {vs : List Nat} (h : i ∈ vs) : GIn (gName i) vs := fun v σ H Q q => ⟨q, wipe_set h⟩
theorem gsin_nil {vs : List Nat} : GsIn gNil vs := fun v σ H Q ⟨e, q⟩ => ⟨e, q, rfl⟩
theorem gsin_cons {g : TG} {gs : TGs} {vs : List Nat} (h1 : GIn g vs) (m : ∀ v σ H Q Q', (∀ σ' H', Q σ' H' → Q' σ' H') → g v σ H Q → g v σ H Q') (h2 : GsIn gs vs) : GsIn (gCons g gs) vs := fun v σ H Q ⟨x, r, e, q⟩ =>
  ⟨x, r, e, m _ _ _ _ _ (fun σ' H' ⟨z1, z2⟩ => by
    have w := h2 _ _ _ _ z1
    rw [z2] at w
    exact w) (h1 _ _ _ _ q)⟩
theorem mono_name {i : Nat} : ∀ v σ H (Q Q' : Sg → Hp → Prop), (∀ σ' H', Q σ' H' → Q' σ' H') → gName i v σ H Q → gName i v σ H Q' := fun _ _ _ _ _ h q => h _ _ q
theorem gin_tup {K : PySem.W.Frag} {k : Nat} {gs : TGs} {vs : List Nat} (h : GsIn gs vs) : GIn (gTup K k gs) vs := fun v σ H Q ⟨a, xs, e1, e2, e3, q⟩ => ⟨a, xs, e1, e2, e3, h _ _ _ _ q⟩
section
variable {c : Cz} {S : AS} {H H' : Hp} {σ : Sg} {n n' : Nv}
theorem noE_ok {α β : Type} {W : Nv → Hp → β → α → Prop} {r : Rs α} {Q : β → Hp → Prop} {c' : Cz} (e : c'.K = c.K) (h : OkG c S W (noE r) σ n H Q) : OkG c' S W r σ n H Q := by
  match r, h with
  | some (.ok (a, n')), h => exact fun v H' s k R w => h v H' s k (e ▸ R) w
theorem wipeN_len : ∀ {vs : List Nat}, (wipeN n vs).length = n.length
  | [] => rfl
  | v :: vs => by unfold wipeN; rw [List.length_set, wipeN_len]
theorem fre_wipe {vs : List Nat} (h : ∀ i ∈ vs, Fre n i) : ∀ i, Fre n i → Fre (wipeN n vs) i := by
  induction vs with
  | nil => exact fun i h => h
  | cons v vs ih =>
    intro i hi ds e
    unfold wipeN at e
    by_cases q : v = i
    · subst q
      exact nomatch (get_set_at e).1
    · rw [get_set_ne q] at e
      exact ih (fun j hj => h j (List.mem_cons_of_mem _ hj)) i hi ds e
theorem wipe_rel {vs : List Nat} (R : Rel c.K S H σ n) (h : ∀ i ∈ vs, Fre n i) : Rel c.K S H (wipe σ vs) (wipeN n vs) ∧ Stp σ n H (wipe σ vs) (wipeN n vs) H := by
  induction vs with
  | nil => exact ⟨R, .refl⟩
  | cons v vs ih =>
    have hm : ∀ i ∈ vs, Fre n i := fun i hi => h i (List.mem_cons_of_mem _ hi)
    obtain ⟨r1, s1⟩ := ih hm
    have hf : Fre (wipeN n vs) v := fre_wipe hm v (h v (List.mem_cons_self ..))
    exact ⟨r1.setUn hf, s1.trans (.setUn hf)⟩
theorem clr_at {vs : List Nat} (h : clr n vs = true) : ∀ i ∈ vs, n[i]? = some .un := fun i hi => by
  have z := List.all_eq_true.mp h i hi
  split at z
  · rename_i e
    exact e
  · cases z
theorem wipeN_clr {vs : List Nat} (h : ∀ i ∈ vs, n[i]? = some .un) : wipeN n vs = n := by
  induction vs with
  | nil => rfl
  | cons v vs ih =>
    unfold wipeN
    rw [ih fun i hi => h i (List.mem_cons_of_mem _ hi)]
    have e := h v (List.mem_cons_self ..)
    refine List.ext_getElem? fun j => ?_
    by_cases q : v = j
    · subst q
      rw [List.getElem?_set_self (List.getElem?_eq_some_iff.mp e).1, e]
    · rw [get_set_ne q]
theorem wipeN_at : ∀ {vs : List Nat} {i : Nat}, i ∈ vs → i < n.length → (wipeN n vs)[i]? = some .un
  | v :: vs, i, h, hl => by
    unfold wipeN
    by_cases q : v = i
    · subst q
      rw [List.getElem?_set_self (by rw [wipeN_len]; exact hl)]
    · rw [get_set_ne q]
      exact wipeN_at ((List.mem_cons.mp h).resolve_left (Ne.symm q)) hl
theorem wipe_ne : ∀ {vs : List Nat} {i : Nat}, i ∉ vs → (wipe σ vs)[i]? = σ[i]?
  | [], i, h => rfl
  | v :: vs, i, h => by
    unfold wipe
    simp only [List.mem_cons, not_or] at h
    rw [get_set_ne (Ne.symm h.1), wipe_ne h.2]
theorem Rel.swap {σ' : Sg} (R : Rel c.K S H σ n) (hl : σ'.length = σ.length) (h : ∀ i : Nat, n[i]? ≠ some .un → σ'[i]? = σ[i]?) : Rel c.K S H σ' n := by
  have ow : ∀ a, Own σ' n a → Own σ n a := fun a ⟨i, pm, ds, e1, e2⟩ => ⟨i, pm, ds, e1, by rw [← h i (by rw [e1]; simp)]; exact e2⟩
  have av : ∀ a, AV S σ' n a → AV S σ n a := fun a z => z.elim .inl fun q => .inr (ow a q)
  refine ⟨by rw [hl]; exact R.len, fun i d e => ?_, fun i pm ds e => ?_, fun i j pm qm ds es p h1 h2 h3 h4 => ?_, R.trk⟩
  · obtain ⟨v, h1, h2⟩ := R.im i d e
    exact ⟨v, by rw [h i (by rw [e]; simp)]; exact h1, h2.weak av⟩
  · obtain ⟨p, vs, h1, h2, h3, h4⟩ := R.ow i pm ds e
    exact ⟨p, vs, by rw [h i (by rw [e]; simp)]; exact h1, h2, h3.weak av, h4⟩
  · exact R.inj i j pm qm ds es p h1 h2 (by rw [← h i (by rw [h1]; simp)]; exact h3) (by rw [← h j (by rw [h2]; simp)]; exact h4)
theorem Rel.updD {D : Addr} {o : HO} (R : Rel c.K S H σ n) (hD : S D) (no : ¬ Own σ n D) : Rel c.K S (L2.upd H D o) σ n := by
  have ex : Ext (fun a => a = D) H (L2.upd H D o) := fun a u z e => by rw [upd_ne z]; exact e
  have sb : ∀ a, a = D → AV S σ n a := fun a z => z ▸ .inl hD
  refine ⟨R.len, fun i d e => ?_, fun i pm ds e => ?_, R.inj, fun a q => ?_⟩
  · obtain ⟨v, h1, h2⟩ := R.im i d e
    exact ⟨v, h1, h2.mono ex sb fun a z => .inl z⟩
  · obtain ⟨p, vs, h1, h2, h3, h4⟩ := R.ow i pm ds e
    exact ⟨p, vs, h1, ex _ _ (fun z => no ⟨i, pm, ds, e, z ▸ h1⟩) h2, h3.mono ex sb (fun a z => .inl z), h4⟩
  · by_cases z : a = D
    · subst z
      rw [upd_same]
      simp
    · rw [upd_ne z]
      exact R.trk a q
theorem Stp.swap {σ' : Sg} (hl : σ'.length = σ.length) (h : ∀ i : Nat, n[i]? ≠ some .un → σ'[i]? = σ[i]?) : Stp σ n H σ' n H :=
  ⟨fun _ _ _ h => h, fun a ⟨i, pm, ds, e1, e2⟩ => .inl ⟨i, pm, ds, e1, by rw [← h i (by rw [e1]; simp)]; exact e2⟩, fun _ h => h, fun i ds e => ⟨h i (by rw [e]; simp), ds, e⟩⟩
end
theorem wipe_wipe {σ : Sg} : ∀ vs : List Nat, wipe (wipe σ vs) vs = wipe σ vs := fun vs => by
  refine List.ext_getElem? fun j => ?_
  by_cases q : j ∈ vs
  · have aux : ∀ {us : List Nat} {τ : Sg}, j ∈ us → (wipe τ us)[j]? = if j < τ.length then some none else none := fun {us τ} => by
      induction us with
      | nil => intro h; cases h
      | cons u us ih =>
        intro h
        unfold wipe
        by_cases z : u = j
        · subst z
          by_cases l : u < τ.length
          · rw [List.getElem?_set_self (by rw [wipe_length]; exact l), if_pos l]
          · rw [List.getElem?_eq_none (by rw [List.length_set, wipe_length]; omega), if_neg l]
        · rw [get_set_ne z]
          exact ih ((List.mem_cons.mp h).resolve_left (Ne.symm z))
    rw [aux q, aux q, wipe_length]
  · rw [wipe_ne q]
theorem Stp.updD {σ σ' : Sg} {n n' : Nv} {H H' : Hp} {D : Addr} {o : HO} (st : Stp σ n H σ' n' H') (h : H D = none) : Stp σ n H σ' n' (L2.upd H' D o) where
  ext := fun a u na e => by
    rw [upd_ne (ne_of_none e h)]
    exact st.ext a u na e
  own := st.own
  dom := fun a z => by
    by_cases q : a = D
    · subst q
      rw [upd_same]
      simp
    · rw [upd_ne q]
      exact st.dom a z
  pmk := st.pmk
theorem Rel.weakS {K : PySem.W.Frag} {S S' : AS} {H : Hp} {σ : Sg} {n : Nv} (R : Rel K S' H σ n) (h : ∀ a, S a → S' a) : Rel K S H σ n :=
  ⟨R.len, fun i d e => let ⟨v, h1, h2⟩ := R.im i d e; ⟨v, h1, h2.weak fun a z => z.elim (fun q => .inl (h a q)) .inr⟩,
    fun i pm ds e => let ⟨p, vs, h1, h2, h3, h4⟩ := R.ow i pm ds e; ⟨p, vs, h1, h2, h3.weak fun a z => z.elim (fun q => .inl (h a q)) .inr, fun q z => h4 q (h p z)⟩, R.inj, fun a z => R.trk a (h a z)⟩
section
variable {c : Cz} {te : TE} {fe : Nv → Rs Ar} {tt : TT} {ft : Nv → Rs Bool}
theorem do_comp {wi : TI} {g : TG} {fi tg} {vs : List Nat} (hi : DI c wi fi) (hg : DG c g tg) (gi : GIn g vs) (ht : DT ⟨c.K, c.cl, fun _ _ _ _ => False⟩ tt ft) (he : DE ⟨c.K, c.cl, fun _ _ _ _ => False⟩ te fe)
    (gm : ∀ v σ H (Q Q' : Sg → Hp → Prop), (∀ σ' H', Q σ' H' → Q' σ' H') → g v σ H Q → g v σ H Q') : DO c (tLc wi g tt te vs) (oComp vs fi tg ft fe) := fun S σ H n Q R h => by
  refine hi S σ H n _ R (OkG.bind h fun J ds n1 H1 s1 k1 R1 vJ h1 => ?_)
  obtain ⟨bs, bd, hbs, jok⟩ := vJ
  split at h1
  case isFalse => exact h1.elim
  rename_i hc
  split at h1
  case isFalse => exact h1.elim
  rename_i hz
  have hz := of_decide_eq_true hz
  have hun := clr_at hc
  intro D nD
  have sw : ∀ i : Nat, n1[i]? ≠ some .un → (wipe σ vs)[i]? = σ[i]? := fun i q => wipe_ne fun z => q (hun i z)
  have wl : (wipe σ vs).length = σ.length := wipe_length σ vs
  have R1w : Rel c.K S H1 (wipe σ vs) n1 := R1.swap wl sw
  have S1w : Stp σ n1 H1 (wipe σ vs) n1 H1 := .swap wl sw
  have extA : ∀ {v : HO} {d : Ct}, CtV c.K H1 (AV S (wipe σ vs) n1) v d → CtV c.K (L2.upd H1 D (.lst [])) (AV (fun a => S a ∨ a = D) (wipe σ vs) n1) v d := fun z =>
    z.mono (S := fun _ => False) (Ext.new nD) (fun _ z => z.elim) fun a z => z.elim (fun q => q.elim (fun w => .inl (.inl w)) fun w => .inr (w ▸ nD)) fun q => .inl (.inr q)
  have R0 : Rel c.K (fun a => S a ∨ a = D) (L2.upd H1 D (.lst [])) (wipe σ vs) n1 := by
    refine ⟨R1w.len, fun i d e => ?_, fun i pm es e => ?_, R1w.inj, fun a z => ?_⟩
    · obtain ⟨v, h1, h2⟩ := R1w.im i d e
      refine ⟨v, h1, h2.mono (S := fun _ => False) (Ext.new nD) (fun _ z => z.elim) fun a z => z.elim (fun q => q.elim (fun w => .inl (.inl w)) fun w => .inr (w ▸ nD)) fun q => .inl (.inr q)⟩
    · obtain ⟨p, us, h1, h2, h3, h4⟩ := R1w.ow i pm es e
      exact ⟨p, us, h1, NewH.upd nD _ _ h2, extA h3, fun q z => z.elim (h4 q) fun w => by rw [w, nD] at h2; cases h2⟩
    · rcases z with z | z
      · exact (NewH.upd nD).dom a (R1w.trk a z)
      · subst z
        rw [upd_same]
        simp
  have noD0 : ¬ Own (wipe σ vs) n1 D := fun z => R1w.ownSome D z nD
  have hbw := S1w.dvA hbs
  refine ⟨fun i m H' => m = ds.length - i ∧ i ≤ ds.length ∧ ∃ (n' : Nv) (acc : List V) (xs : List PD), Rel c.K (fun a => S a ∨ a = D) H' (wipe σ vs) n' ∧ (∀ j ∈ vs, n'[j]? = some .un) ∧
      Stp (wipe σ vs) n1 H1 (wipe σ vs) n' H' ∧ H' D = some (.lst acc) ∧ DvA c.K H' (AV (fun a => S a ∨ a = D) (wipe σ vs) n') acc xs ∧ ¬ Own (wipe σ vs) n' D ∧ xs.length ≤ i ∧
      OkG c S (fun n'' H'' v zs => ∃ p, v = .ref p ∧ H p = none ∧ Frs c.K S σ n'' H'' p (.l zs)) (bnd (compF vs tg ft fe (ds.drop i) n') fun ys n2 => if kndB n1 n2 = true then ret (xs ++ ys) n2 else none) σ n1 H1 Q, ⟨ds.length, ?_⟩, ?_⟩
  · refine ⟨by simp, Nat.zero_le _, n1, [], [], R0, hun, .updD .refl nD, upd_same, .nil, noD0, Nat.le_refl _, ?_⟩
    simpa using h1
  · rintro i m H' ⟨rfl, hi, n', acc, xs, R', un', st, hD, hacc, noD, hlen, ok⟩
    have J' := jok H' (AV (fun a => S a ∨ a = D) (wipe σ vs) n') i R'.avSome (hbw.mono st.ext (fun _ z => .inr z) fun a z => z.elim (fun q => q.elim (fun w => .inl (.inl w)) fun w => .inr (w ▸ nD)) fun q => (st.own a q).elim (fun w => .inl (.inr w)) .inr)
    by_cases q : i = ds.length
    · subst q
      refine .inl ⟨J'.1 (Nat.le_refl _), ?_⟩
      rw [List.drop_length] at ok
      unfold compF at ok
      rw [bnd_ret] at ok
      split at ok
      case isFalse => exact ok.elim
      rename_i hk
      have sw' : ∀ i : Nat, n'[i]? ≠ some .un → σ[i]? = (wipe σ vs)[i]? := fun i q => (wipe_ne fun z => q (un' i z)).symm
      have RS' : Rel c.K (fun a => S a ∨ a = D) H' σ n' := R'.swap wl.symm sw'
      have ownE : ∀ a, Own σ n' a → Own (wipe σ vs) n' a := fun a ⟨i, pm, es, e1, e2⟩ => ⟨i, pm, es, e1, by rw [← sw' i (by rw [e1]; simp)]; exact e2⟩
      have Rf : Rel c.K S H' σ n' := RS'.weakS fun a z => .inl z
      have st' : Stp σ n1 H1 σ n' H' := S1w.trans (st.trans (.swap wl.symm sw'))
      rw [List.append_nil] at ok
      refine ok _ H' st' (kndB_of hk) Rf ⟨D, rfl, s1.non nD, Rf, fun z => ?_, ⟨.lst acc, hD, DvA.weak hacc fun a z => ?_⟩, fun i d e => ?_, fun i pm es e => ?_⟩
      · rcases z with z | z
        · exact R1.trk D z nD
        · exact noD (ownE D z)
      · rcases z with z | z
        · exact z.elim (fun q => .inl (.inl q)) fun q => .inr (ownE a q)
        · exact .inl (.inr z)
      · obtain ⟨v, g1, g2⟩ := RS'.im i d e
        exact ⟨v, g1, g2.weak fun a z => z.elim (fun q => q.elim (fun w => .inl (.inl w)) .inr) fun q => .inl (.inr q)⟩
      · obtain ⟨p, us, g1, g2, g3, _⟩ := RS'.ow i pm es e
        exact ⟨p, us, g1, g2, g3.weak fun a z => z.elim (fun q => q.elim (fun w => .inl (.inl w)) .inr) fun q => .inl (.inr q)⟩
    · have hlt : i < ds.length := by omega
      obtain ⟨go, yl⟩ := J'.2 ds[i] (List.getElem?_eq_getElem hlt)
      refine .inr ⟨go, fun H2 => (i + 1 ≤ ds.length) ∧ ∃ (n' : Nv) (acc : List V) (xs : List PD), Rel c.K (fun a => S a ∨ a = D) H2 (wipe σ vs) n' ∧ (∀ j ∈ vs, n'[j]? = some .un) ∧
        Stp (wipe σ vs) n1 H1 (wipe σ vs) n' H2 ∧ H2 D = some (.lst acc) ∧ DvA c.K H2 (AV (fun a => S a ∨ a = D) (wipe σ vs) n') acc xs ∧ ¬ Own (wipe σ vs) n' D ∧ xs.length ≤ i + 1 ∧
        OkG c S (fun n'' H'' v zs => ∃ p, v = .ref p ∧ H p = none ∧ Frs c.K S σ n'' H'' p (.l zs)) (bnd (compF vs tg ft fe (ds.drop (i + 1)) n') fun ys n2 => if kndB n1 n2 = true then ret (xs ++ ys) n2 else none) σ n1 H1 Q, fun H2 hN => ⟨ds.length - (i + 1), by omega, rfl, hN⟩, fun x H2 y => ?_⟩
      obtain ⟨nh, hx⟩ := yl x H2 y
      rw [drop_get (List.getElem?_eq_getElem hlt)] at ok
      unfold compF at ok
      have sg : Stp (wipe σ vs) n' H' (wipe σ vs) n' H2 := .grown nh
      have R2 := R'.ext nh
      cases et : tg ds[i] n' with
      | none =>
        rw [et] at ok
        exact ok.elim
      | some n2 =>
      rw [et, lft_some] at ok
      refine gm _ _ _ _ _ (fun σ2 H2' z => ?_) (gi x _ H2 _ (hg _ _ H2 n' x _ n2 (fun σ2 H3 => H3 = H2 ∧ Stp (wipe σ vs) n' H2 σ2 n2 H2 ∧ Rel c.K (fun a => S a ∨ a = D) H2 σ2 n2) R2 hx et fun σ2 s2 R3 => ⟨rfl, s2, R3⟩))
      obtain ⟨⟨e1, s2, R3⟩, ew⟩ := z
      subst e1
      rw [wipe_wipe] at ew
      refine ⟨ew, ?_⟩
      have s2' := sg.trans s2
      -- behind the block's step: a common end
      have wp : ∀ {n3 : Nv} {H3 : Hp}, Rel c.K (fun a => S a ∨ a = D) H3 σ2 n3 → Stp (wipe σ vs) n' H' σ2 n3 H3 → vs.all (free? n3) = true →
          Rel c.K (fun a => S a ∨ a = D) H3 (wipe σ vs) (wipeN n3 vs) ∧ (∀ j ∈ vs, (wipeN n3 vs)[j]? = some .un) ∧ Stp (wipe σ vs) n' H' (wipe σ vs) (wipeN n3 vs) H3 ∧ Stp σ2 n3 H3 (wipe σ vs) (wipeN n3 vs) H3 ∧ H3 D = some (.lst acc) ∧
          DvA c.K H3 (AV (fun a => S a ∨ a = D) (wipe σ vs) (wipeN n3 vs)) acc xs ∧ ¬ Own (wipe σ vs) (wipeN n3 vs) D := fun {n3 H3} r s hf => by
        have hf' : ∀ i ∈ vs, Fre n3 i := fun i hi => free_of (List.all_eq_true.mp hf i hi)
        obtain ⟨w1, w2⟩ := wipe_rel (c := c) r hf'
        rw [ew] at w1 w2
        have sA := s.trans w2
        refine ⟨w1, fun j hj => wipeN_at hj ?_, sA, w2, sA.ext D _ noD hD, sA.dvA hacc, fun z => ?_⟩
        · have l1 := r.len
          have l2 : σ2.length = σ.length := by
            have := congrArg List.length ew
            rwa [wipe_length, wipe_length] at this
          have l3 := R1.len
          have l4 := (List.getElem?_eq_some_iff.mp (hun j hj)).1
          omega
        · rcases sA.own D z with q | q
          · exact noD q
          · rw [hD] at q
            cases q
      refine ht (fun a => S a ∨ a = D) σ2 H2' n2 _ R3 ?_
      match eb : ft n2, ok with
      | some (.ok (b, n3)), ok =>
        intro v H3 s3 k3 R4 vb
        subst vb
        cases v with
        | false =>
          have ok : OkG c S _ (bnd (if vs.all (free? n3) = true then compF vs tg ft fe (ds.drop (i + 1)) (wipeN n3 vs) else none) _) σ n1 H1 Q := ok
          rw [if_neg (by simp)]
          split at ok
          case isFalse => exact ok.elim
          rename_i hf
          obtain ⟨w1, w2, w3, _, w4, w5, w6⟩ := wp R4 (s2'.trans s3) hf
          exact ⟨hlt, _, acc, xs, w1, w2, st.trans w3, w4, w5, w6, by omega, ok⟩
        | true =>
          have ok : OkG c S _ (bnd (bnd (noE (fe n3)) (elemK vs (compF vs tg ft fe (ds.drop (i + 1))))) _) σ n1 H1 Q := ok
          rw [if_pos rfl]
          refine he (fun a => S a ∨ a = D) σ2 H3 n3 _ R4 ?_
          match ee : fe n3, ok with
          | some (.ok (.d z, n4)), ok =>
            intro yv H4 s4 k4 R5 hy
            have ok : OkG c S _ (bnd (if vs.all (free? n4) = true then bnd (compF vs tg ft fe (ds.drop (i + 1)) (wipeN n4 vs)) fun xs n4 => ret (z :: xs) n4 else none) _) σ n1 H1 Q := ok
            split at ok
            case isFalse => exact ok.elim
            rename_i hf
            obtain ⟨w1, w2, w3, w7, w4, w5, w6⟩ := wp R5 ((s2'.trans s3).trans s4) hf
            have ex : Ext (fun a => a = D) H4 (L2.upd H4 D (.lst (acc ++ [yv]))) := fun a u z e => by rw [upd_ne z]; exact e
            have sb : ∀ a, a = D → AV (fun a => S a ∨ a = D) (wipe σ vs) (wipeN n4 vs) a := fun a z => .inl (.inr z)
            have hl := hacc.len
            refine ⟨acc, w4, by omega, hlt, _, acc ++ [yv], xs ++ [z], w1.updD (c := c) (.inr rfl) w6, w2, (st.trans w3).updD nD, upd_same, ?_, w6, by simp; omega, ?_⟩
            · exact DvA.mono ex sb (fun a z => .inl z) (w5.append (.cons (w7.dv hy) .nil))
            · cases ec : compF vs tg ft fe (ds.drop (i + 1)) (wipeN n4 vs) with
              | none => rw [ec] at ok; exact ok.elim
              | some r =>
                cases r with
                | error e => rw [ec] at ok; exact ok
                | ok p =>
                  rw [ec] at ok
                  obtain ⟨ys, n5⟩ := p
                  simpa [bnd, ret] using ok
end
end Dl
set_option Elab.async false
set_option linter.all false
set_option maxRecDepth 100000
namespace Dl
open PySem PySem.Spec PyProof.Rows L2
section
variable {K : PySem.W.Frag} {S : AS} {H : Hp} {σ : Sg} {n : Nv} {i : Nat} {pm : Bool} {ct ct' : Ct} {p : Addr} {o o' : HO}
theorem put_own (e : n[i]? = some (.ow pm ct)) : ∀ a, Own σ (n.set i (.ow pm ct')) a → Own σ n a := fun a ⟨j, qm, ds, e1, e2⟩ => by
  by_cases q : i = j
  · subst q
    have z := (get_set_at e1).1
    cases z
    exact ⟨i, pm, ct, e, e2⟩
  · rw [get_set_ne q] at e1
    exact ⟨j, qm, ds, e1, e2⟩
theorem Rel.put (R : Rel K S H σ n) (e : n[i]? = some (.ow pm ct)) (ep : σ[i]? = some (some (.ref p))) (hc : CtV K H (AV S σ n) o' ct') :
    Rel K S (L2.upd H p o') σ (n.set i (.ow pm ct')) ∧ Stp σ n H σ (n.set i (.ow pm ct')) (L2.upd H p o') ∧ Knd n (n.set i (.ow pm ct')) := by
  have ho : Own σ n p := ⟨i, pm, ct, e, ep⟩
  have ex : Ext (fun a => a = p) H (L2.upd H p o') := fun a u z q => by rw [upd_ne z]; exact q
  have sb : ∀ a, a = p → AV S σ n a := fun a z => z ▸ .inr ho
  have hi : i < n.length := (List.getElem?_eq_some_iff.mp e).1
  have po := put_own (σ := σ) (ct' := ct') e
  have dm : ∀ a, H a ≠ none → (L2.upd H p o') a ≠ none := fun a z => by
    by_cases q : a = p
    · subst q
      rw [upd_same]
      simp
    · rw [upd_ne q]
      exact z
  have av : ∀ a, AV S σ (n.set i (.ow pm ct')) a → AV S σ n a ∨ H a = none := fun a z => .inl (z.elim .inl fun q => .inr (po a q))
  refine ⟨⟨by simp [R.len], fun j d q => ?_, fun j qm ds q => ?_, fun j k qm qm' ds es r h1 h2 h3 h4 => ?_, fun a z => dm a (R.trk a z)⟩, ⟨fun a u na q => ex a u (fun z => na (z ▸ ho)) q, fun a z => .inl (po a z), dm, fun j ds q => ⟨rfl, ?_⟩⟩, fun j qm ds q => ?_⟩
  · by_cases z : i = j
    · subst z
      exact nomatch (get_set_at q).1
    · rw [get_set_ne z] at q
      obtain ⟨v, h1, h2⟩ := R.im j d q
      exact ⟨v, h1, h2.mono ex sb av⟩
  · by_cases z : i = j
    · subst z
      have w := (get_set_at q).1
      cases w
      obtain ⟨p', o0, h1, _, _, h4⟩ := R.ow i pm ct e
      rw [ep] at h1
      cases h1
      exact ⟨p, o', ep, upd_same, hc.mono ex sb av, h4⟩
    · rw [get_set_ne z] at q
      obtain ⟨p', o0, h1, h2, h3, h4⟩ := R.ow j qm ds q
      exact ⟨p', o0, h1, ex _ _ (fun w => z (R.inj i j _ _ _ _ p e q ep (w ▸ h1))) h2, h3.mono ex sb av, h4⟩
  · have g : ∀ {j : Nat} {qm : Bool} {ds : Ct}, (n.set i (.ow pm ct'))[j]? = some (.ow qm ds) → ∃ (qm : Bool) (es : Ct), n[j]? = some (.ow qm es) := fun {j qm ds} q => by
      by_cases z : i = j
      · subst z
        exact ⟨_, _, e⟩
      · rw [get_set_ne z] at q
        exact ⟨_, _, q⟩
    obtain ⟨_, _, g1⟩ := g h1
    obtain ⟨_, _, g2⟩ := g h2
    exact R.inj j k _ _ _ _ r g1 g2 h3 h4
  · by_cases z : i = j
    · subst z
      rw [e] at q
      cases q
      exact ⟨ct', by rw [List.getElem?_set_self hi]⟩
    · exact ⟨ds, by rw [get_set_ne z]; exact q⟩
  · by_cases z : i = j
    · subst z
      rw [e] at q
      cases q
      exact ⟨ct', by rw [List.getElem?_set_self hi]⟩
    · exact ⟨ds, by rw [get_set_ne z]; exact q⟩
end
def ltLine (n : Nat) : Bool := decide (n < sizeLine)
def sApp (i : Nat) (fr : Nv → Rs (List Ar)) : Nv → RS := fun n => match n[i]? with
  | some (.ow _ (.l _)) => sbn (fr n) fun as n1 => match as, n1[i]? with
    | [.d x], some (.ow pm (.l ds)) => if ltLine ds.length = true then nxt (n1.set i (.ow pm (.l (ds ++ [x])))) else none
    | _, _ => none
  | _ => none
def eItmK (i : Nat) (x : PD) (b : Ar) (n : Nv) : RS := match b, n[i]? with
  | .d (.int k), some (.ow pm (.l ds)) => match ixN ds.length k with
    | some j => nxt (n.set i (.ow pm (.l (ds.set j x))))
    | none => none
  | _, _ => none
def sItm (i : Nat) (fe fk : Nv → Rs Ar) : Nv → RS := fun n => sbn (fe n) fun a n1 => match a, n1[i]? with
  | .d x, some (.ow _ (.l _)) => sbn (fk n1) fun b n2 => eItmK i x b n2
  | _, _ => none
section
variable {c : Cz} {te tk : TE} {fe fk : Nv → Rs Ar} {tr : TA} {fr : Nv → Rs (List Ar)}
theorem ds_app {i : Nat} (h1 : DA c tr fr) : DS c (tDrop (tBM c.K "list" rAppend (tVar i) tr)) (sApp i fr) := fun S H0 σ H n D R hd h => by
  unfold sApp at h
  split at h
  · rename_i pm0 ds0 e0
    obtain ⟨p, o, ep, hp, hc, _⟩ := R.ow i _ _ e0
    obtain ⟨vs0, rfl, _⟩ := hc.lst
    refine ⟨_, ep, Or.inl ⟨rfl, _, .inl (.inl hp)⟩, ?_⟩
    refine h1 S σ H n _ R (OkS.bind h fun vs as n1 H1 s1 k1 R1 va h2 => ?_)
    split at h2
    · rename_i x pm ds e1
      split at h2
      · rename_i hl
        obtain ⟨p', o1, ep', hp', hc', _⟩ := R1.ow i _ _ e1
        rw [ep] at ep'
        cases ep'
        obtain ⟨vs1, rfl, hc'⟩ := hc'.lst
        cases va with
        | cons hx hr =>
          cases hr
          have hx : Dv c.K H1 (AV S σ n1) _ x := hx
          refine ⟨p, vs1, _, rfl, rfl, hp', by rw [hc'.len]; exact of_decide_eq_true hl, ?_⟩
          obtain ⟨r1, r2, r3⟩ := R1.put e1 ep (o' := .lst (vs1 ++ [_])) (ct' := .l (ds ++ [x])) (hc'.append (.cons hx .nil))
          exact h2 σ _ r2 r1
      · exact h2.elim
    · exact h2.elim
  · exact h.elim
theorem ds_itm {i : Nat} (h1 : DE c te fe) (h2 : DE c tk fk) : DS c (tAsg te (gSub (tVar i) tk rSetL)) (sItm i fe fk) := fun S H0 σ H n D R hd h => by
  refine h1 S σ H n _ R (OkS.bind h fun v a n1 H1 s1 k1 R1 va h3 => ?_)
  split at h3
  · rename_i x pm0 ds0 e0
    obtain ⟨p, o, ep, hp, hc, _⟩ := R1.ow i _ _ e0
    refine ⟨_, ep, ?_⟩
    refine h2 S σ H1 n1 _ R1 (OkS.bind h3 fun u b n2 H2 s2 k2 R2 vb h4 => ?_)
    unfold eItmK at h4
    split at h4
    · rename_i k pm ds e1
      split at h4
      · rename_i j ej
        obtain ⟨p', o1, ep', hp', hc', _⟩ := R2.ow i _ _ e1
        rw [ep] at ep'
        cases ep'
        obtain ⟨vs1, rfl, hc'⟩ := hc'.lst
        cases (show Dv c.K H2 _ u (.int k) from vb)
        have hx : Dv c.K H1 (AV S σ n1) v x := va
        obtain ⟨r1, r2, r3⟩ := R2.put e1 ep (o' := .lst (vs1.set j v)) (ct' := .l (ds.set j x)) (hc'.set (s2.dv hx) j)
        exact ⟨p, vs1, k, j, rfl, rfl, hp', by rw [hc'.len]; exact ej, h4 σ _ r2 r1⟩
      · exact h4.elim
    · exact h4.elim
  · exact h3.elim
end
def keyD : PD → Option Key
  | .int i => some (.inl i)
  | .str x => some (.inr x)
  | _ => none
theorem Dv.key {K H A v d k} (h : Dv K H A v d) (e : keyD d = some k) : v = kV k := by
  cases h <;> first | (cases e; rfl) | cases e
def valD (kds : List (Key × PD)) (k : Key) : Option PD := (kds.find? fun kv => decide (kv.1 = k)).map (·.2)
def putD (kds : List (Key × PD)) (k : Key) (d : PD) : List (Key × PD) :=
  if (kds.any fun kv => decide (kv.1 = k)) = true then kds.map (fun kv => if kv.1 = k then (kv.1, d) else kv) else kds ++ [(k, d)]
section
variable {K : PySem.W.Frag} {H : Hp} {A : AS}
theorem val_rel : ∀ {kvs : List (Key × V)} {kds : List (Key × PD)} {k : Key}, kvs.map (·.1) = kds.map (·.1) → DvA K H A (kvs.map (·.2)) (kds.map (·.2)) →
    (valD kds k = none ∧ valV kvs k = none) ∨ ∃ v d, valV kvs k = some v ∧ valD kds k = some d ∧ Dv K H A v d
  | [], [], k, _, _ => .inl ⟨rfl, rfl⟩
  | [], b :: r, k, e, _ => by simp at e
  | a :: r, [], k, e, _ => by simp at e
  | a :: r, b :: r', k, e, h => by
    simp only [List.map_cons, List.cons.injEq] at e
    simp only [List.map_cons] at h
    cases h with
    | cons h1 h2 =>
      by_cases q : b.1 = k
      · refine .inr ⟨a.2, b.2, by simp [valV, e.1, q], by simp [valD, q], h1⟩
      · have z := val_rel (k := k) e.2 h2
        have e1 : valD (b :: r') k = valD r' k := by simp [valD, List.find?_cons, q]
        have e2 : valV (a :: r) k = valV r k := by simp [valV, List.find?_cons, e.1, q]
        rw [e1, e2]
        exact z
theorem any_rel {kvs : List (Key × V)} {kds : List (Key × PD)} {k : Key} (e : kvs.map (·.1) = kds.map (·.1)) : (kvs.any fun kv => decide (kv.1 = k)) = (kds.any fun kv => decide (kv.1 = k)) := by
  have h1 : (kvs.any fun kv => decide (kv.1 = k)) = (kvs.map (·.1)).any (fun x => decide (x = k)) := by simp [List.any_map]; rfl
  have h2 : (kds.any fun kv => decide (kv.1 = k)) = (kds.map (·.1)).any (fun x => decide (x = k)) := by simp [List.any_map]; rfl
  rw [h1, h2, e]
theorem put_rel1 {v : V} {d : PD} {k : Key} (hv : Dv K H A v d) : ∀ {kvs : List (Key × V)} {kds : List (Key × PD)}, kvs.map (·.1) = kds.map (·.1) → DvA K H A (kvs.map (·.2)) (kds.map (·.2)) →
    (kvs.map (fun kv => if kv.1 = k then (kv.1, v) else kv)).map (·.1) = (kds.map (fun kv => if kv.1 = k then (kv.1, d) else kv)).map (·.1) ∧
    DvA K H A ((kvs.map (fun kv => if kv.1 = k then (kv.1, v) else kv)).map (·.2)) ((kds.map (fun kv => if kv.1 = k then (kv.1, d) else kv)).map (·.2))
  | [], [], _, _ => ⟨rfl, .nil⟩
  | [], b :: r, e, _ => by simp at e
  | a :: r, [], e, _ => by simp at e
  | a :: r, b :: r', e, h => by
    simp only [List.map_cons, List.cons.injEq] at e
    simp only [List.map_cons] at h
    cases h with
    | cons h1 h2 =>
      obtain ⟨z1, z2⟩ := put_rel1 hv e.2 h2
      by_cases q : b.1 = k
      · have qa : a.1 = k := e.1.trans q
        simp only [List.map_cons, if_pos q, if_pos qa]
        exact ⟨by rw [z1, e.1], .cons hv z2⟩
      · have qa : ¬ a.1 = k := fun w => q (e.1.symm.trans w)
        simp only [List.map_cons, if_neg q, if_neg qa]
        exact ⟨by rw [z1, e.1], .cons h1 z2⟩
theorem put_rel {v : V} {d : PD} {k : Key} (hv : Dv K H A v d) {kvs : List (Key × V)} {kds : List (Key × PD)} (e : kvs.map (·.1) = kds.map (·.1)) (h : DvA K H A (kvs.map (·.2)) (kds.map (·.2))) :
    (putK kvs k v).map (·.1) = (putD kds k d).map (·.1) ∧ DvA K H A ((putK kvs k v).map (·.2)) ((putD kds k d).map (·.2)) := by
  unfold putK putD
  rw [any_rel e]
  split
  · exact put_rel1 hv e h
  · simp only [List.map_append, List.map_cons, List.map_nil]
    exact ⟨by rw [e], h.append (.cons hv .nil)⟩
end
def sDnew (i : Nat) : Nv → RS := fun n => if free? n i = true then nxt (n.set i (.ow false (.m []))) else none
def eDput (i : Nat) (x : PD) (b : Ar) (n : Nv) : RS := match b, n[i]? with
  | .d y, some (.ow pm (.m kds)) => match keyD y with
    | some k => if ltLine kds.length = true then nxt (n.set i (.ow pm (.m (putD kds k x)))) else none
    | none => none
  | _, _ => none
def sDput (i : Nat) (fe fk : Nv → Rs Ar) : Nv → RS := fun n => sbn (fe n) fun a n1 => match a, n1[i]? with
  | .d x, some (.ow _ (.m _)) => sbn (fk n1) fun b n2 => eDput i x b n2
  | _, _ => none
def valO (i : Nat) (b : Ar) (n : Nv) : Option (Option PD) := match b, n[i]? with
  | .d y, some (.ow _ (.m kds)) => match keyD y with
    | some k => some (valD kds k)
    | none => none
  | _, _ => none
def eDget (i : Nat) (fk : Nv → Rs Ar) : Nv → Rs Ar := fun n => match n[i]? with
  | some (.ow _ (.m _)) => bnd (fk n) fun b n1 => match valO i b n1 with
    | some (some d) => ret (.d d) n1
    | _ => none
  | _ => none
def eDin (neg : Bool) (i : Nat) (fk : Nv → Rs Ar) : Nv → Rs Ar := fun n => bnd (fk n) fun b n1 => match valO i b n1 with
  | some r => ret (.d (.bool (xor neg r.isSome))) n1
  | none => none
section
variable {c : Cz} {te tk : TE} {fe fk : Nv → Rs Ar}
theorem ds_dnew {i : Nat} : DS c (tAsg tDNewK (gName i)) (sDnew i) := fun S H0 σ H n D R hd h => by
  unfold sDnew at h
  split at h
  · rename_i hf
    intro p np
    have fr : Frs c.K S σ n (L2.upd H p (.dK [])) p (.m []) := Frs.new (vs := .dK []) R np ⟨rfl, .nil⟩
    exact h _ _ (Stp.setOw (.new np) np (free_of hf)) (.setOw fr)
  · exact h.elim
theorem val_at {S σ n H i b r u} (R : Rel c.K S H σ n) (vb : ArV c.K S σ n H u b) (e : valO i b n = some r) : ∃ p, σ[i]? = some (some (.ref p)) ∧
    ((r = none ∧ DGet H p u none) ∨ ∃ v d, r = some d ∧ DGet H p u (some v) ∧ Dv c.K H (AV S σ n) v d) := by
  unfold valO at e
  split at e
  · rename_i y pm kds e1
    split at e
    · rename_i k ek
      cases e
      obtain ⟨p, o, ep, hp, hc, _⟩ := R.ow i _ _ e1
      obtain ⟨kvs, rfl, h1, h2⟩ := hc.dct
      have eu := (show Dv c.K H _ u y from vb).key ek
      refine ⟨p, ep, ?_⟩
      rcases val_rel (k := k) h1 h2 with ⟨z1, z2⟩ | ⟨v, d, z1, z2, z3⟩
      · exact .inl ⟨z1, eu ▸ z2 ▸ DGet.k hp⟩
      · exact .inr ⟨v, d, z2, eu ▸ z1 ▸ DGet.k hp, z3⟩
    · cases e
  · cases e
theorem de_dget {i : Nat} (h1 : DE c tk fk) : DE c (tDGet (tVar i) tk) (eDget i fk) := fun S σ H n Q R h => by
  unfold eDget at h
  split at h
  · rename_i pm0 kds0 e0
    obtain ⟨p0, o, ep0, hp, hc, _⟩ := R.ow i _ _ e0
    refine ⟨_, ep0, ?_⟩
    refine h1 S σ H n _ R (OkG.bind h fun u b n1 H1 s1 k1 R1 vb h2 => ?_)
    split at h2
    · rename_i d e
      obtain ⟨p, ep, z | ⟨v, d', z1, z2, z3⟩⟩ := val_at R1 vb e
      · cases z.1
      · cases z1
        rw [ep0] at ep
        cases ep
        exact ⟨p0, v, rfl, z2, h2.ret .refl R1 z3⟩
    · exact h2.elim
  · exact h.elim
theorem de_din {i : Nat} (h1 : DE c tk fk) : DE c (tDIn tk (tVar i)) (eDin false i fk) := fun S σ H n Q R h => by
  refine h1 S σ H n _ R (OkG.bind h fun u b n1 H1 s1 k1 R1 vb h2 => ?_)
  split at h2
  · rename_i r e
    obtain ⟨p, ep, z⟩ := val_at R1 vb e
    refine ⟨_, ep, ?_⟩
    rcases z with ⟨rfl, g⟩ | ⟨v, d, rfl, g, _⟩
    · exact ⟨p, none, rfl, g, h2.ret .refl R1 (Dv.bl _)⟩
    · exact ⟨p, some v, rfl, g, h2.ret .refl R1 (Dv.bl _)⟩
  · exact h2.elim
theorem de_dnotin {i : Nat} (h1 : DE c tk fk) : DE c (tDNotIn tk (tVar i)) (eDin true i fk) := fun S σ H n Q R h => by
  refine h1 S σ H n _ R (OkG.bind h fun u b n1 H1 s1 k1 R1 vb h2 => ?_)
  split at h2
  · rename_i r e
    obtain ⟨p, ep, z⟩ := val_at R1 vb e
    refine ⟨_, ep, ?_⟩
    rcases z with ⟨rfl, g⟩ | ⟨v, d, rfl, g, _⟩
    · exact ⟨p, none, rfl, g, h2.ret .refl R1 (Dv.bl _)⟩
    · exact ⟨p, some v, rfl, g, h2.ret .refl R1 (Dv.bl _)⟩
  · exact h2.elim
theorem ds_dput {i : Nat} (h1 : DE c te fe) (h2 : DE c tk fk) : DS c (sDPut (tVar i) tk te) (sDput i fe fk) := fun S H0 σ H n D R hd h => by
  refine h1 S σ H n _ R (OkS.bind h fun v a n1 H1 s1 k1 R1 va h3 => ?_)
  split at h3
  · rename_i x pm0 ds0 e0
    obtain ⟨p, o, ep, hp, hc, _⟩ := R1.ow i _ _ e0
    refine ⟨_, ep, ?_⟩
    refine h2 S σ H1 n1 _ R1 (OkS.bind h3 fun u b n2 H2 s2 k2 R2 vb h4 => ?_)
    unfold eDput at h4
    split at h4
    · rename_i y pm kds e1
      split at h4
      · rename_i k ek
        split at h4
        · rename_i hl
          obtain ⟨p', o1, ep', hp', hc', _⟩ := R2.ow i _ _ e1
          rw [ep] at ep'
          cases ep'
          obtain ⟨kvs, rfl, g1, g2⟩ := hc'.dct
          have eu := (show Dv c.K H2 _ u y from vb).key ek
          have hx : Dv c.K H1 (AV S σ n1) v x := va
          have pr := put_rel (k := k) (s2.dv hx) g1 g2
          obtain ⟨r1, r2, r3⟩ := R2.put e1 ep (o' := .dK (putK kvs k v)) (ct' := .m (putD kds k x)) pr
          have hlen : kvs.length < sizeLine := by
            have := congrArg List.length g1
            rw [List.length_map, List.length_map] at this
            rw [this]
            exact of_decide_eq_true hl
          exact ⟨p, _, rfl, eu ▸ DPut.k hp' hlen, h4 σ _ r2 r1⟩
        · exact h4.elim
      · exact h4.elim
    · exact h4.elim
  · exact h3.elim
end
end Dl
set_option Elab.async false
set_option linter.all false
set_option maxRecDepth 100000
namespace Dl
open PySem PySem.Spec PyProof.Rows L2
section
variable {X : Cx}
def rIsB (neg : Bool) : R2 := fun x y H Q => ∃ b, y = .bl b ∧ (∀ n, x ≠ .ty n) ∧ Q (.bl (xor neg (decide (x = .bl b)))) H
theorem rel_bool {x : V} {v : Value} {b : Bool} (r : RelV x v) : (v == Value.bool b) = decide (x = .bl b) := by
  cases x with
  | bl c => cases r; cases b <;> cases c <;> rfl
  | non => cases r; rfl
  | int _ => obtain ⟨t, rfl⟩ := r; rfl
  | str _ => obtain ⟨t, rfl⟩ := r; rfl
  | byt _ => obtain ⟨t, rfl⟩ := r; rfl
  | flt _ => obtain ⟨t, rfl⟩ := r; rfl
  | ref _ => cases r; rfl
  | ty _ => cases r; rfl
theorem op_isB : OpR X (compareOp .Is) (rIsB false) := by
  intro pins s σ H x y v u Q I rx ry h
  obtain ⟨b, rfl, nt, q⟩ := h
  cases ry
  have e := rel_bool (b := b) rx
  have fin : EP X pins σ Q (.bool (v == Value.bool b)) s := ⟨.bl (decide (x = .bl b)), H, I, by rw [e]; rfl, by simpa using q⟩
  cases x with
  | bl c => cases rx; exact wpAny_pure fin
  | non => cases rx; exact wpAny_pure fin
  | int _ => obtain ⟨t, rfl⟩ := rx; exact wpAny_pure fin
  | str _ => obtain ⟨t, rfl⟩ := rx; exact wpAny_pure fin
  | byt _ => obtain ⟨t, rfl⟩ := rx; exact wpAny_pure fin
  | flt _ => obtain ⟨t, rfl⟩ := rx; exact wpAny_pure fin
  | ref _ => cases rx; exact wpAny_pure fin
  | ty n => exact (nt n rfl).elim
theorem op_isnotB : OpR X (compareOp .IsNot) (rIsB true) := by
  intro pins s σ H x y v u Q I rx ry h
  obtain ⟨b, rfl, nt, q⟩ := h
  cases ry
  have e := rel_bool (b := b) rx
  have fin : EP X pins σ Q (.bool (!(v == Value.bool b))) s := ⟨.bl (!decide (x = .bl b)), H, I, by rw [e]; rfl, by simpa using q⟩
  cases x with
  | bl c => cases rx; exact wpAny_pure fin
  | non => cases rx; exact wpAny_pure fin
  | int _ => obtain ⟨t, rfl⟩ := rx; exact wpAny_pure fin
  | str _ => obtain ⟨t, rfl⟩ := rx; exact wpAny_pure fin
  | byt _ => obtain ⟨t, rfl⟩ := rx; exact wpAny_pure fin
  | flt _ => obtain ⟨t, rfl⟩ := rx; exact wpAny_pure fin
  | ref _ => cases rx; exact wpAny_pure fin
  | ty n => exact (nt n rfl).elim
def rCat0 (K : PySem.W.Frag) : R2 := fun x y H Q => ∃ a b ys, x = .ref a ∧ y = .ref b ∧ SqT K H a [] ∧ SqT K H b ys ∧ Q (.ref b) H
theorem op_cat0 : OpR X (binaryOp .Add) (rCat0 X.K) := by
  intro pins s σ H x y v u Q I rx ry h
  obtain ⟨a, b, ys, rfl, rfl, ha, hb, q⟩ := h
  cases rx
  cases ry
  obtain ⟨its, r1, p1, _⟩ := I.tuple ha
  obtain ⟨its2, r2, p2, _⟩ := I.tuple hb
  cases r1
  obtain ⟨⟨cls, dd, data, sl⟩, ho, hc, n, hd⟩ := id p1
  obtain ⟨⟨cls2, dd2, data2, sl2⟩, ho2, hc2, n2, hd2⟩ := id p2
  simp only at hc hd hc2 hd2
  subst hc hd hc2 hd2
  have go := tuple_addW0 a b #[] its2.toArray n n2 dd dd2 sl sl2 rfl
  exact concat_meets ⟨_, ho, rfl⟩ ⟨_, ho2, rfl⟩ noFill_tuple_add seq_tuple_add PySem.F.slot_tuple_add PySem.F.entry_tuple_add (PySem.F.args_tuple_add_2 _ _) go
    ⟨ho, ho2, .ref b, H, I, rfl, q⟩
def rCatL (K : PySem.W.Frag) : R2 := fun x y H Q => ∃ l b xs zs, x = .ref l ∧ y = .ref b ∧ SqL K H l xs ∧ SqL K H b zs ∧ xs.length + zs.length ≤ sizeLine ∧ ∀ p, H p = none → Q (.ref p) (L2.upd H p (.lst (xs ++ zs)))
theorem op_catL : OpR X (binaryOp .Add) (rCatL X.K) := by
  intro pins s σ H x y v u Q I rx ry h
  obtain ⟨l, b, xs, zs, rfl, rfl, hl, hb, hz, q⟩ := h
  cases rx
  cases ry
  obtain ⟨its, r1, ⟨⟨cls, dd, data, sl⟩, n, ho, hc, hdd, hd⟩, _⟩ := I.list hl
  obtain ⟨its2, r2, ⟨⟨cls2, dd2, data2, sl2⟩, n2, ho2, hc2, hdd2, hd2⟩, _⟩ := I.list hb
  simp only at hc hd hc2 hd2
  subst hc hd hc2 hd2
  have l1 := r1.length
  have l2 := r2.length
  refine concat_meets ⟨_, ho, rfl⟩ ⟨_, ho2, rfl⟩ noFill_list_add seq_list_add PySem.F.slot_list_add PySem.F.entry_list_add (PySem.F.args_list_add_2 _ _)
    (list_addW l b its.toArray its2.toArray n n2 dd dd2 sl sl2 (by rw [List.size_toArray, List.size_toArray]; omega)) ⟨ho, ho2, ?_⟩
  have ea : its.toArray ++ its2.toArray = (its ++ its2).toArray := by simp
  rw [ea]
  exact ⟨.ref _, _, I.lnew (t' := s.toks) (r1.append r2) (by rw [List.length_append]; omega), rfl, q _ I.fresh⟩
theorem tuple_mulS (l : Addr) (items : Array Value) (n : Nat) (dd : Option Addr) (sl : Array (Option Value)) (x : Int) (u : Tok) (c0 : (decide (x < -(2 ^ 63)) || decide (x ≥ 2 ^ 63)) = false) (c1 : (items.isEmpty || x == 1) = true) :
    Meets (Builtin.«tuple.__mul__» ⟨[.ref l, .int x u], []⟩) (fun _ R s => s.heap.get? l = some { cls := .type "tuple", dict := dd, data := .seq items n, slots := sl } ∧ R (.ok (.ret (Value.ref l))) { s with heap := s.heap, toks := s.toks }) :=
  .of_wp fun prog w A R s h => by
    obtain ⟨hp, g, d, tk, os⟩ := s
    obtain ⟨hl, h⟩ := h
    have f1 := AutoSeq1.idx_int
    wp_walk using wpAny_loadPart' hl
    repeat (first
      | (refine wpAny_ite_false (decide_eq_false (by rw [c0]; exact Bool.false_ne_true)) ?_; wp_walk using wpAny_loadPart' hl)
      | (refine wpAny_ite_true (decide_eq_true c1) ?_; wp_walk using wpAny_loadPart' hl))
    exact ⟨_, rfl, h⟩
theorem tuple_mulN (l : Addr) (items : Array Value) (n : Nat) (dd : Option Addr) (sl : Array (Option Value)) (x : Int) (u : Tok) (c0 : (decide (x < -(2 ^ 63)) || decide (x ≥ 2 ^ 63)) = false) (c1 : (items.isEmpty || x == 1) = false) (c2 : (decide (x ≤ 0) || items.isEmpty) = true) :
    Meets (Builtin.«tuple.__mul__» ⟨[.ref l, .int x u], []⟩) (fun _ R s => s.heap.get? l = some { cls := .type "tuple", dict := dd, data := .seq items n, slots := sl } ∧ R (.ok (.ret (Value.ref s.heap.objs.size))) { s with heap := s.heap.push { cls := Value.type "tuple", data := Data.seq #[] }, toks := s.toks }) :=
  .of_wp fun prog w A R s h => by
    obtain ⟨hp, g, d, tk, os⟩ := s
    obtain ⟨hl, h⟩ := h
    have f1 := AutoSeq1.idx_int
    wp_walk using wpAny_loadPart' hl
    repeat (first
      | (refine wpAny_ite_false (decide_eq_false (by rw [c0]; exact Bool.false_ne_true)) ?_; wp_walk using wpAny_loadPart' hl)
      | (refine wpAny_ite_false (decide_eq_false (by rw [c1]; exact Bool.false_ne_true)) ?_; wp_walk using wpAny_loadPart' hl)
      | (refine wpAny_ite_true (decide_eq_true c2) ?_; wp_walk using wpAny_loadPart' hl))
    exact ⟨_, rfl, h⟩
def rMulT (K : PySem.W.Frag) : R2 := fun x y H Q => ∃ l k xs, x = .ref l ∧ y = .int k ∧ SqT K H l xs ∧ k ≤ 1000 ∧ -1000 ≤ k ∧ xs.length ≤ 1000 ∧
  (((xs = [] ∨ k = 1) ∧ Q (.ref l) H) ∨ (xs ≠ [] ∧ k ≠ 1 ∧ ∀ p, H p = none → Q (.ref p) (L2.upd H p (.tup (List.replicate k.toNat xs).flatten))))
theorem op_mulT : OpR X (binaryOp .Mult) (rMulT X.K) := by
  intro pins s σ H x y v u Q I rx ry h
  obtain ⟨l, k, xs, rfl, rfl, hT, h1, h0, hz, hq⟩ := h
  by_cases h2 : xs ≠ [] ∧ 2 ≤ k
  · refine op_repT pins s σ H _ _ v u Q I rx ry ⟨l, k, xs, rfl, rfl, hT, h2.1, h2.2, h1, hz, ?_⟩
    rcases hq with ⟨z, _⟩ | ⟨_, _, q⟩
    · exact (z.elim (fun e => h2.1 e) fun e => by omega).elim
    · exact q
  cases rx
  obtain ⟨t, rfl⟩ := ry
  obtain ⟨its, r, ⟨⟨cls, dd, data, sl⟩, ho, hc, n, hd⟩, hs⟩ := I.tuple hT
  simp only at hc hd
  subst hc hd
  have c0 : (decide (k < -(2 ^ 63)) || decide (k ≥ 2 ^ 63)) = false := by
    rw [decide_eq_false (by omega), decide_eq_false (by omega)] <;> rfl
  have hem : its.toArray.isEmpty = true ↔ xs = [] := by
    have e := r.nil_iff
    simp only [List.isEmpty_toArray, List.isEmpty_iff]
    exact e
  by_cases h3 : xs = [] ∨ k = 1
  · have c1 : (its.toArray.isEmpty || k == 1) = true := by
      rcases h3 with e | e
      · rw [hem.mpr e, Bool.true_or]
      · rw [e]
        simp
    refine wpAny_binaryOp_repeat_ref (T := "tuple") (U := "int") (by decide) ⟨_, ho, rfl⟩ (fun s' => typeIs_int s' k t) noFill_tuple_mul F.fills_int_mul F.slot_int_rmul repeat_tuple F.slot_int_index.lookup
      (call_meets F.slot_int_rmul (typeIs_int s k t) F.entry_int_rmul (F.args_int_rmul_2 _ _) (int_rmul_tuple k t l its.toArray n dd sl)
        ⟨ho, rfl, ⟨_, ho, rfl⟩, call_meets F.slot_tuple_mul ⟨_, ho, rfl⟩ F.entry_tuple_mul (F.args_tuple_mul_2 _ _) (tuple_mulS l its.toArray n dd sl k t c0 c1) ⟨ho, ?_⟩⟩)
    rcases hq with ⟨_, q⟩ | ⟨z1, z2, _⟩
    · exact ⟨.ref l, H, I, rfl, q⟩
    · exact (h3.elim z1 z2).elim
  · have h4 : ¬ xs = [] ∧ ¬ k = 1 := ⟨fun e => h3 (.inl e), fun e => h3 (.inr e)⟩
    have hk : k ≤ 0 := by
      have := h4.2
      have : ¬ 2 ≤ k := fun e => h2 ⟨h4.1, e⟩
      omega
    have ne : its.toArray.isEmpty = false := by
      cases q : its.toArray.isEmpty with
      | false => rfl
      | true => exact (h4.1 (hem.mp q)).elim
    have c1 : (its.toArray.isEmpty || k == 1) = false := by
      rw [ne, Bool.false_or]
      exact beq_eq_false_iff_ne.mpr h4.2
    have c2 : (decide (k ≤ 0) || its.toArray.isEmpty) = true := by
      rw [decide_eq_true hk, Bool.true_or]
    refine wpAny_binaryOp_repeat_ref (T := "tuple") (U := "int") (by decide) ⟨_, ho, rfl⟩ (fun s' => typeIs_int s' k t) noFill_tuple_mul F.fills_int_mul F.slot_int_rmul repeat_tuple F.slot_int_index.lookup
      (call_meets F.slot_int_rmul (typeIs_int s k t) F.entry_int_rmul (F.args_int_rmul_2 _ _) (int_rmul_tuple k t l its.toArray n dd sl)
        ⟨ho, rfl, ⟨_, ho, rfl⟩, call_meets F.slot_tuple_mul ⟨_, ho, rfl⟩ F.entry_tuple_mul (F.args_tuple_mul_2 _ _) (tuple_mulN l its.toArray n dd sl k t c0 c1 c2) ⟨ho, ?_⟩⟩)
    rcases hq with ⟨z, _⟩ | ⟨_, _, q⟩
    · exact (h3 z).elim
    · have e0 : k.toNat = 0 := by omega
      rw [e0] at q
      refine ⟨.ref s.heap.objs.size, _, I.laid (t' := s.toks) (o := .tup []) (fun b ob q => Heap.get?_push_of_some _ q) (Nat.le_refl _) ?_, rfl, q _ (I.hok.fresh (Nat.le_refl _))⟩
      exact ⟨Nat.zero_le _, [], .nil, IsTup.new _ _⟩
end
section
variable {prog : Program} {w : World} {A : Around} {E : Value → Shared → Prop} {s : Shared}
theorem slice_whole {t sl : Addr} {items : Array Value} {vl vu : Value} {lo hi : Option Int} {Q : Value → Shared → Prop} (ht : IsTup s.heap t items) (hs : s.heap.IsSliceOf sl vl vu .none) (pl : IsPart vl lo) (pu : IsPart vu hi)
    (h0 : HT.sIx items.size 0 lo = 0) (h1 : HT.sIx items.size items.size hi = items.size) (h : Q (.ref t) s) : wpAny (model prog w) A (getItem (.ref t) (.ref sl)) Q E s := by
  obtain ⟨os, hos, hcs, hds⟩ := id hs
  have hTs : s.TypeIs (.ref sl) "slice" := ⟨os, hos, hcs⟩
  obtain ⟨ot, hot, hct, nt, hdt⟩ := id ht
  unfold getItem
  with_reducible refine wpAny_holding ?_
  first | refine wpAny_bind (wpAny_pure ?_) | skip
  refine wpAny_bind (wpAny_sequenceKey ht.typeIs (by decide) ?_)
  refine wpAny_bind (wpAny_callSpecial?_slot (name := Str.ofString "__getitem__") ht.typeIs slot_tuple_getitem (wpAny_call_entry slot_tuple_getitem ht.typeIs entry_tuple_getitem ?_ (args_tuple_getitem _ _)))
  show wpAny _ _ (Builtin.Tuple.tupleItemsOf (.ref t) >>= _) _ _ s
  refine wpAny_bind (tupleItemsOf_ ht ?_)
  refine wpAny_bind (wpAny_typeOf hTs ?_)
  rw [if_pos (by decide)]
  refine wpAny_bind (HT.sliceApplied_gen hs pl pu ?_)
  have yes : (((HT.sIx items.size 0 lo : Nat) : Int) == 0 && (1 : Int) == 1 && (HT.sIx items.size items.size hi - HT.sIx items.size 0 lo) == items.size) = true := by
    rw [h0, h1]
    simp
  show wpAny _ _ (if (((HT.sIx items.size 0 lo : Nat) : Int) == 0 && (1 : Int) == 1 && (HT.sIx items.size items.size hi - HT.sIx items.size 0 lo) == items.size) = true then _ else _) _ _ s
  rw [if_pos yes]
  refine wpAny_bind ?_
  unfold Builtin.Tuple.tupleIsExact
  refine wpAny_bind (wpAny_typeOf ht.typeIs (wpAny_pure ?_))
  rw [if_pos (by decide)]
  exact wpAny_bind (wpAny_rule (wpAny_pure ⟨_, rfl, wpAny_pure h⟩))
end
def rSlW (K : PySem.W.Frag) : V → Option Int → Option Int → Hp → VK → Prop := fun x lo hi H Q => ∃ a xs, x = .ref a ∧ SqT K H a xs ∧
  HT.sIx xs.length 0 lo = 0 ∧ HT.sIx xs.length xs.length hi = xs.length ∧ Q (.ref a) H
theorem sl_whole {X : Cx} : SlR X (rSlW X.K) := by
  intro pins s σ H x v vl vu lo hi sl Q I rx hs pl pu h
  obtain ⟨a, xs, rfl, hx, h0, h1, q⟩ := h
  cases rx
  obtain ⟨its, r, ht, hz⟩ := I.tuple hx
  have hlen : its.toArray.size = xs.length := by rw [List.size_toArray]; exact r.length.symm
  exact ⟨"tuple", _, slot_tuple_getitem.lookup, ht.typeIs, slice_whole ht hs pl pu (by rw [hlen]; exact h0) (by rw [hlen]; exact h1) ⟨.ref a, H, I, rfl, q⟩⟩
end Dl
set_option Elab.async false
set_option linter.all false
set_option maxRecDepth 100000
namespace Dl
open PySem PySem.Spec PyProof.Rows L2
section
variable {prog : Program} {w : World} {A : Around} {E : Value → Shared → Prop} {s : Shared}
theorem draws_tup {it t : Addr} {items : Array Value} (hh : A.handled = none) (ne : it ≠ t) : Draws prog w A it [it, t] items.size (fun i v => items[i]? = some v) (fun i h => h.IsTupleIter it t i ∧ h.IsTuple t items) where
  live := fun i h ⟨⟨o, e, _⟩, _⟩ => ⟨o, e⟩
  frame := fun i h h' ⟨⟨o, e, c, d⟩, ⟨o2, e2, r⟩⟩ k => ⟨⟨o, k it (by simp) o e, c, d⟩, ⟨o2, k t (by simp) o2 e2, r⟩⟩
  item := fun i s Q E hi ⟨h1, h2⟩ hQ => by
    refine RZ.nextOf_tuple_item h1 h2 (x := items[i]) (by simp [hi]) fun h' h1' sb => hQ _ h' s.toks (by simp [hi]) ⟨h1', ?_⟩ sb
    obtain ⟨o2, e2, r⟩ := h2
    exact ⟨o2, (sb.2 t (Ne.symm ne)).trans e2, r⟩
  done := fun s Q E ⟨h1, h2⟩ hE => RZ.nextOf_tuple_end hh h1 h2 (by simp) hE
theorem enum_newT (l : Addr) (items : Array Value) (n : Nat) (dct : Option Addr) (sl : Array (Option Value)) :
    Meets (Builtin.«enumerate.__new__» ⟨[.type "enumerate", .ref l], []⟩) (fun _ R s => s.heap.get? l = some { cls := .type "tuple", dict := dct, data := .seq items n, slots := sl } ∧
      R (.ok (.ret (.ref (s.heap.push { cls := .type "tuple_iterator", data := .fields #[.ref l, .int 0 0] }).objs.size)))
        { s with heap := (s.heap.push { cls := .type "tuple_iterator", data := .fields #[.ref l, .int 0 0] }).push { cls := .type "enumerate", data := .fields #[.none, .bool false, .ref s.heap.objs.size, rawInt 0, .none, .none] } }) :=
  .of_wp fun prog w A R s h => by
    obtain ⟨hp, g, d, tk, os⟩ := s
    obtain ⟨hl, h⟩ := h
    have hsub := sub_enumerate
    have hT : Heap.IsTuple (Shared.heap ⟨hp, g, d, tk, os⟩) l items := ⟨_, hl, rfl, n, rfl⟩
    wp_walk using wpAny_loadPart' hl
    refine wpAny_stack_any fun st => wpAny_pure ?_
    split
    · rename_i c _ _ _ _ _
      cases (c == Value.type "enumerate") <;>
      · wp_walk using wpAny_loadPart' hl, wpAny_pyIter_tuple hT
        exact ⟨_, rfl, h⟩
    · wp_walk using wpAny_loadPart' hl, wpAny_pyIter_tuple hT
      exact ⟨_, rfl, h⟩
theorem enum_tup {l : Addr} {items : Array Value} {Q : Value → Shared → Prop} (hL : s.heap.IsTuple l items)
    (h : ∀ h', IsEnum h' (s.heap.objs.size + 1) s.heap.objs.size 0 .none → h'.IsTupleIter s.heap.objs.size l 0 → h'.objs.size = s.heap.objs.size + 2 →
      (∀ b o, s.heap.get? b = some o → h'.get? b = some o) → Q (.ref (s.heap.objs.size + 1)) { s with heap := h' }) : wpAny (model prog w) A (call (.type "enumerate") [.ref l]) Q E s := by
  obtain ⟨⟨c, dct, dt, sl⟩, hl, hc, n, hd⟩ := hL
  simp only at hc hd
  subst hc hd
  refine callType_new F.called_enumerate (by decide) (F.typeCall_enumerate_1 _) (F.newCall_enumerate_1 _) (fun obj => F.args_object_init_2 obj _) F.entry_enumerate_new (enum_newT l items n dct sl) ⟨hl, ?_⟩
  have hz : (s.heap.push { cls := .type "tuple_iterator", data := .fields #[.ref l, .int 0 0] }).objs.size = s.heap.objs.size + 1 := Heap.size_push ..
  show _ ∧ _
  rw [hz]
  have he : IsEnum ((s.heap.push { cls := .type "tuple_iterator", data := .fields #[.ref l, .int 0 0] }).push { cls := .type "enumerate", data := .fields #[.none, .bool false, .ref s.heap.objs.size, rawInt 0, .none, .none] }) (s.heap.objs.size + 1) s.heap.objs.size 0 .none := by
    have z := Heap.get?_push_size (s.heap.push { cls := .type "tuple_iterator", data := .fields #[.ref l, .int 0 0] }) (o := { cls := .type "enumerate", data := .fields #[.none, .bool false, .ref s.heap.objs.size, rawInt 0, .none, .none] }) rfl
    rw [hz] at z
    exact z
  exact ⟨⟨_, he, rfl⟩, h _ he ⟨_, Heap.get?_push_of_some _ (Heap.get?_push_size _ rfl), rfl, rfl⟩ (by rw [Heap.size_push, hz]) fun b o y => Heap.get?_push_of_some _ (Heap.get?_push_of_some _ y)⟩
end
def IteT (K : PySem.W.Frag) (a : Addr) : It :=
  ⟨fun i H => ∃ (xs : List V) (x : V), SqT K H a xs ∧ xs[i]? = some x, fun i H v H' => ∃ T x, v = .ref T ∧ H T = none ∧ H' = L2.upd H T (.tup [.int (i : Nat), x]) ∧ ∀ xs, SqT K H a xs → xs[i]? = some x, fun i H => ∃ xs : List V, SqT K H a xs ∧ xs.length ≤ i⟩
theorem turn_enumT {P : Program} {w : World} {K : PySem.W.Frag} {elts : List Expr} {kk : Nat} {tpos : Pos} (a e it : Addr) :
    Turn P w K (.Tuple elts kk tpos) (IteT K a) [e, it] e (fun i h => (∃ old, IsEnum h e it ((i : Nat) : Int) old) ∧ h.IsTupleIter it a i ∧ e ≠ it ∧ it ≠ a ∧ e ≠ a) where
  mem := by simp
  obj := fun i h st b hb => by
    obtain ⟨⟨old, he⟩, ⟨o, ho, hc, hd⟩, _⟩ := st
    have z : b = e ∨ b = it := by simpa using hb
    rcases z with rfl | rfl
    · exact ⟨_, he, fun v q => nomatch q⟩
    · exact ⟨o, ho, fun v q => by rw [hd] at q; cases q⟩
  keep := fun i h h' st k => by
    obtain ⟨⟨old, he⟩, ⟨o, ho, r⟩, hne⟩ := st
    exact ⟨⟨old, k e (by simp) _ he⟩, ⟨o, k it (by simp) o ho, r⟩, hne⟩
  item := by
    intro X hP hw hK hc i pins s σ H E I hf st hg
    subst hP hw hK
    obtain ⟨⟨old, he⟩, hit, hne, hia, hea⟩ := st
    obtain ⟨xs, x, hq, hx⟩ := hg
    obtain ⟨its, rv, p, hz⟩ := I.tuple hq
    obtain ⟨u, hu, ru⟩ := rv.get hx
    have hel : e < s.heap.objs.size := Heap.lt_size he
    have hil : it < s.heap.objs.size := by obtain ⟨_, q, _⟩ := hit; exact Heap.lt_size q
    have hlt : i < its.toArray.size := by simpa using (List.getElem?_eq_some_iff.mp hu).1
    refine wpAny_pyNext_enum_itemD (draws_tup (I.ok.hd hc) hia) he ⟨hit, p⟩ hlt hne (by simp [hne, hea]) fun u' h' tk hP ho hst' hT hsz hk => ?_
    have eu : u' = u := by
      have : its[i]? = some u' := by simpa using hP
      rw [hu] at this
      cases this
      rfl
    subst eu
    refine ⟨_, rfl, wpAny_letOwnedTupleGo_enum (s := { s with heap := h', toks := tk + 1 }) ho fun h'' he' sb => ?_⟩
    have hT2 : h''.get? s.heap.objs.size = some { cls := .type "tuple", data := .seq #[.int i tk, u'] } := (sb.2 _ (Nat.ne_of_gt hel)).trans hT
    have new : ObjOk X.prog X.w (L2.upd H s.heap.objs.size (.tup [.int (i : Nat), x])) h'' s.heap.objs.size (.tup [.int (i : Nat), x]) :=
      ⟨by show 2 ≤ sizeLine; decide, [.int i tk, u'], .cons ⟨_, rfl⟩ (.cons ru .nil), ⟨_, hT2, rfl, _, rfl⟩⟩
    have I1 : L2.Inv X pins σ (L2.upd H s.heap.objs.size (.tup [.int (i : Nat), x])) { s with heap := h'', toks := tk + 1 } :=
      I.turnedNew (ch := [e, it]) (fun b ob hb q => (sb.2 b (fun z => hb (by simp [z]))).trans (hk b ob (fun z => hb (by simp [z])) (fun z => hb (by simp [z])) q)) hf (Nat.le_refl _) new
    have hi2 : h''.IsTupleIter it a (i + 1) := by
      obtain ⟨⟨o, q, r⟩, _⟩ := hst'
      exact ⟨o, (sb.2 it (Ne.symm hne)).trans q, r⟩
    refine ⟨.ref s.heap.objs.size, _, I1, rfl, ⟨_, x, rfl, I.hok.fresh (Nat.le_refl _), rfl, fun ys hy => by rw [I.tuple_inj hy hq]; exact hx⟩, ⟨⟨u', ?_⟩, hi2, hne, hia, hea⟩, fun b hb => ?_⟩
    · have e1 : ((i + 1 : Nat) : Int) = (i : Int) + 1 := by omega
      rw [e1]
      exact he'
    · have z : b = e ∨ b = it := by simpa using hb
      have hb' : b < s.heap.objs.size := by rcases z with rfl | rfl <;> assumption
      rw [upd_ne (Nat.ne_of_lt hb')]
      exact (hf b hb).1
  done := by
    intro X hP hw hK hc i pins s σ H E I hf st hg
    subst hP hw hK
    obtain ⟨⟨old, he⟩, hit, hne, hia, hea⟩ := st
    obtain ⟨xs, hq, hx⟩ := hg
    obtain ⟨its, rv, p, hz⟩ := I.tuple hq
    obtain ⟨f0, f1, f2, f3, f4, f5⟩ := hf it (by simp)
    have hl := rv.length
    unfold pyNext
    have hT : s.TypeIs (.ref e) "enumerate" := ⟨_, he, rfl⟩
    refine wpAny_bind (wpAny_attempt (wpAny_callSpecial?_slot (name := Str.ofString "__next__") hT F.slot_enumerate_next (wpAny_call_entry F.slot_enumerate_next hT F.entry_enumerate_next ?_ (F.args_enumerate_next_1 _))))
    show wpAny _ _ (field (.ref e) 2 >>= _) _ _ _
    refine wpAny_bind (wpAny_field he rfl (x := .ref it) rfl ?_)
    refine wpAny_bind (RZ.nextOf_tuple_end (I.ok.hd hc) hit p (by simp; omega) fun h' x eb hx' => ?_)
    obtain ⟨o, ho, hc'⟩ := hx'
    refine wpAny_bind (wpAny_isInstance (T := "StopIteration") (b := true) ⟨o, ho, hc'⟩ isSubtype_stop ?_)
    exact wpAny_pure ⟨rfl, I.turned (t' := s.toks) (fun b o hb q => eb b o hb q) f0 f1 f3 f4 f5⟩
  self := fun A i s Q E st h => let ⟨⟨_, he⟩, _⟩ := st; wpAny_pyIter_enum he h
def iEnumT (K : PySem.W.Frag) (ta : TA) : TI := fun σ H R => ta σ H fun vs H1 => ∃ a xs, vs = [.ref a] ∧ SqT K H1 a xs ∧ R (IteT K a) H1
theorem pi_enumT {X : Cx} {e : Expr} {ta : TA} {p pos tpos : Pos} {elts : List Expr} {kk : Nat} (hg : Gl X "enumerate") (hm : X.mg "enumerate" = none) (ha : PA X [e] ta) (hs : starEach [e] X.env = [(false, eval e X.env)] := by rfl) :
    PI X (.Tuple elts kk tpos) (.Call (.Name "enumerate" p) [e] [] pos) (iEnumT X.K ta) := by
  refine ⟨fun pins s σ H R I h => ?_⟩
  refine Call_ (ld_blt I hg hm boot_enumerate (PyProof.Rows.callWith_type1 (thn (ha.run pos pins s σ H _ I h) fun us s1 ⟨vs, H1, I1, r1, q1⟩ => ?_) hs rfl))
  obtain ⟨a, xs, ex, hq, q⟩ := q1
  subst ex
  obtain ⟨u, rfl, ru⟩ := vals1 r1
  cases ru
  obtain ⟨its, rv, p', hz⟩ := I1.tuple hq
  have la : a < s1.heap.objs.size := p'.lt
  refine enum_tup p' fun h' he hit hsz hk => wpAny_pyIter_enum he ?_
  have I2 : L2.Inv X pins σ H1 { s1 with heap := h' } := I1.kept (t' := s1.toks) hk
  refine ⟨s1.heap.objs.size + 1, [s1.heap.objs.size + 1, s1.heap.objs.size], _, _, H1, rfl, I2, turn_enumT a (s1.heap.objs.size + 1) s1.heap.objs.size, ⟨⟨.none, he⟩, hit, Nat.succ_ne_self _, Nat.ne_of_gt la, Nat.ne_of_gt (Nat.lt_succ_of_lt la)⟩, fun b hb => ?_, q⟩
  have z : b = s1.heap.objs.size + 1 ∨ b = s1.heap.objs.size := by simpa using hb
  have hle : s1.heap.objs.size ≤ b := by rcases z with rfl | rfl <;> omega
  exact I1.fpOk hle (I1.hok.fresh hle)
end Dl
set_option Elab.async false
set_option linter.all false
set_option maxRecDepth 100000
namespace Dl
open PySem PySem.Spec PyProof.Rows L2
def gAdd : PD → PD → Option PD
  | .int i, .int j => some (.int (i + j))
  | .str a, .str b => if lineB (a.length + b.length) = true then some (.str (a ++ b)) else none
  | .tuple a, .tuple b => if lineB (a.length + b.length) = true then some (.tuple (a ++ b)) else none
  | .list a, .list b => if lineB (a.length + b.length) = true then some (.list (a ++ b)) else none
  | _, _ => none
def rAddD (K : PySem.W.Frag) : R2 := fun x y H Q => (rI0 (fun i j => .int (i + j))) x y H Q ∨ (∃ i j, x = .str i ∧ y = .str j ∧ i.length + j.length ≤ sizeLine ∧ Q (.str (i ++ j)) H) ∨ rCat0 K x y H Q ∨ rCatT K x y H Q ∨ rCatL K x y H Q
section
variable {X : Cx} {K : PySem.W.Frag} {H : Hp} {A : AS}
theorem op_addD : OpR X (binaryOp .Add) (rAddD X.K) := op_add.or (op_add_str.or (op_cat0.or (op_catT.or op_catL)))
theorem Dw.tupDv {x : V} {ds : List PD} (h : Dw K H A x (.tuple ds)) : Dv K H A x (.tuple ds) := by
  rcases h with h | ⟨_, _, _, _, e, _⟩
  · exact h
  · cases e
theorem Dv.newTup {p : Addr} {vs : List V} {ds : List PD} (na : ∀ a, A a → H a ≠ none) (np : H p = none) (h : DvA K H A vs ds) : Dv K (L2.upd H p (.tup vs)) A (.ref p) (.tuple ds) :=
  .tup (.inl ⟨.inl upd_same, fun z => na p z np⟩) (h.mono (S := fun _ => False) (Ext.new np) (fun _ z => z.elim) fun _ z => .inl z)
theorem Dv.newLst {p : Addr} {vs : List V} {ds : List PD} (na : ∀ a, A a → H a ≠ none) (np : H p = none) (h : DvA K H A vs ds) : Dv K (L2.upd H p (.lst vs)) A (.ref p) (.list ds) :=
  .lst (.inl ⟨.inl upd_same, fun z => na p z np⟩) (h.mono (S := fun _ => False) (Ext.new np) (fun _ z => z.elim) fun _ z => .inl z)
theorem addD_ok : BopOk K (rAddD K) gAdd := fun A H Q x y dx dy d na wx wy e k => by
  unfold gAdd at e
  split at e
  · cases e
    exact .inl ⟨_, _, wx.int, wy.int, k _ H .refl (.int _)⟩
  · split at e
    · rename_i q
      cases e
      exact .inr (.inl ⟨_, _, wx.str, wy.str, of_decide_eq_true q, k _ H .refl (.str _)⟩)
    · cases e
  · split at e
    · rename_i as bs q
      cases e
      obtain ⟨p, vs, rfl, h1, h2⟩ := wx.tup
      obtain ⟨p', us, rfl, g1, g2⟩ := wy.tup
      cases vs with
      | nil =>
        cases h2
        exact .inr (.inr (.inl ⟨p, p', us, rfl, rfl, h1, g1, k _ H .refl wy.tupDv⟩))
      | cons v vs =>
        refine .inr (.inr (.inr (.inl ⟨p, p', _, us, rfl, rfl, h1, g1, by simp, ?_, fun q => ?_, fun _ r nr => ?_⟩)))
        · rw [h2.len, g2.len]
          exact of_decide_eq_true q
        · subst q
          cases g2
          refine k _ H .refl ?_
          rw [List.append_nil]
          exact wx.tupDv
        · exact k _ _ (.upd nr) (.newTup na nr (h2.append g2))
    · cases e
  · split at e
    · rename_i as bs q
      cases e
      obtain ⟨p, vs, rfl, h1, h2⟩ := wx.lst
      obtain ⟨p', us, rfl, g1, g2⟩ := wy.lst
      refine .inr (.inr (.inr (.inr ⟨p, p', vs, us, rfl, rfl, h1, g1, ?_, fun r nr => ?_⟩)))
      · rw [h2.len, g2.len]
        exact of_decide_eq_true q
      · exact k _ _ (.upd nr) (.newLst na nr (h2.append g2))
    · cases e
  · cases e
def gII (c : Int → Int → Bool) (g : Int → Int → PD) : PD → PD → Option PD
  | .int i, .int j => if c i j = true then some (g i j) else none
  | _, _ => none
theorem rI_ok {C : Int → Int → Prop} {c : Int → Int → Bool} {g : Int → Int → V} {gd : Int → Int → PD} (hc : ∀ i j, c i j = true → C i j) (hg : ∀ i j K H A, Dv K H A (g i j) (gd i j)) : BopOk K (rI C g) (gII c gd) := fun A H Q x y dx dy d na wx wy e k => by
  unfold gII at e
  split at e
  · split at e
    · rename_i i j q
      cases e
      exact ⟨i, j, wx.int, wy.int, hc _ _ q, k _ H .refl (hg _ _ _ _ _)⟩
    · cases e
  · cases e
theorem rI0_ok {g : Int → Int → V} {gd : Int → Int → PD} (hg : ∀ i j K H A, Dv K H A (g i j) (gd i j)) : BopOk K (rI0 g) (gII (fun _ _ => true) gd) := fun A H Q x y dx dy d na wx wy e k => by
  unfold gII at e
  split at e
  · split at e
    · rename_i i j q
      cases e
      exact ⟨i, j, wx.int, wy.int, k _ H .refl (hg _ _ _ _ _)⟩
    · cases e
  · cases e
abbrev tt2 : Int → Int → Bool := fun _ _ => true
def gSub := gII tt2 fun i j => .int (i - j)
def gOr := gII tt2 fun i j => .int (Builtin.bitOr i j)
def gLt := gII tt2 fun i j => .bool (decide (i < j))
def gLe := gII tt2 fun i j => .bool (decide (i ≤ j))
def gGt := gII tt2 fun i j => .bool (decide (j < i))
def gGe := gII tt2 fun i j => .bool (decide (j ≤ i))
def pos2 : Int → Int → Bool := fun _ j => decide (0 < j)
def div2 : Int → Int → Bool := fun _ j => decide (0 < j) && decide (j.natAbs.log2 < 9000)
instance {i j : Int} : Decidable (CMul i j) := by unfold CMul; exact inferInstance
instance {i j : Int} : Decidable (CMulW i j) := by unfold CMulW; exact inferInstance
def mul2 : Int → Int → Bool := fun i j => decide (CMul i j) || decide (CMulW i j)
def pow2 : Int → Int → Bool := fun i j => decide (0 ≤ j) && decide (j ≤ 1000000) && decide (i.natAbs < 2 ^ 64)
def gMod := gII pos2 fun i j => .int (i % j)
def gDiv := gII div2 fun i j => .int (i / j)
def gPow := gII pow2 fun i j => .int (i ^ j.toNat)
def gShl := gII pow2 fun i j => .int (i * 2 ^ j.toNat)
theorem sub_ok : BopOk K (rI0 fun i j => .int (i - j)) gSub := rI0_ok fun _ _ _ _ _ => .int _
theorem or_ok : BopOk K (rI0 fun i j => .int (Builtin.bitOr i j)) gOr := rI0_ok fun _ _ _ _ _ => .int _
theorem lt_ok : BopOk K (rI0 fun i j => .bl (decide (i < j))) gLt := rI0_ok fun _ _ _ _ _ => .bl _
theorem le_ok : BopOk K (rI0 fun i j => .bl (decide (i ≤ j))) gLe := rI0_ok fun _ _ _ _ _ => .bl _
theorem gt_ok : BopOk K (rI0 fun i j => .bl (decide (j < i))) gGt := rI0_ok fun _ _ _ _ _ => .bl _
theorem ge_ok : BopOk K (rI0 fun i j => .bl (decide (j ≤ i))) gGe := rI0_ok fun _ _ _ _ _ => .bl _
theorem mod_ok : BopOk K (rI (fun _ j => 0 < j) fun i j => .int (i % j)) gMod := rI_ok (fun _ _ h => of_decide_eq_true h) fun _ _ _ _ _ => .int _
theorem div_ok : BopOk K (rI CDivW fun i j => .int (i / j)) gDiv := rI_ok (fun _ _ h => by simpa [div2, CDivW] using h) fun _ _ _ _ _ => .int _
theorem pow_ok : BopOk K (rI CPow fun i j => .int (i ^ j.toNat)) gPow := rI_ok (fun _ _ h => by simpa [pow2, CPow, and_assoc] using h) fun _ _ _ _ _ => .int _
theorem shl_ok : BopOk K (rI CPow fun i j => .int (i * 2 ^ j.toNat)) gShl := rI_ok (fun _ _ h => by simpa [pow2, CPow, and_assoc] using h) fun _ _ _ _ _ => .int _
def repD (k : Nat) (ds : List PD) : List PD := (List.replicate k ds).flatten
theorem DvA.rep {vs ds} (h : DvA K H A vs ds) : ∀ k : Nat, DvA K H A (List.replicate k vs).flatten (repD k ds)
  | 0 => .nil
  | k + 1 => by
    unfold repD
    rw [List.replicate_succ, List.replicate_succ, List.flatten_cons, List.flatten_cons]
    exact h.append (DvA.rep h k)
def gMul : PD → PD → Option PD
  | .int i, .int j => if mul2 i j = true then some (.int (i * j)) else none
  | .tuple ds, .int k => if (decide (k ≤ 1000) && decide (-1000 ≤ k) && decide (ds.length ≤ 1000)) = true then some (.tuple (repD k.toNat ds)) else none
  | _, _ => none
def rMulD (K : PySem.W.Frag) : R2 := fun x y H Q => ((rI CMul fun i j => .int (i * j)) x y H Q ∨ (rI CMulW fun i j => .int (i * j)) x y H Q) ∨ rMulT K x y H Q
theorem op_mulD : OpR X (binaryOp .Mult) (rMulD X.K) := (op_mul.or op_mulW).or op_mulT
theorem repD_nil (k : Nat) : repD k [] = [] := by
  unfold repD
  induction k with
  | zero => rfl
  | succ k ih => rw [List.replicate_succ, List.flatten_cons, ih]; rfl
theorem repD_one (ds : List PD) : repD 1 ds = ds := by simp [repD]
theorem mulD_ok : BopOk K (rMulD K) gMul := fun A H Q x y dx dy d na wx wy e k => by
  unfold gMul at e
  split at e
  · split at e
    · rename_i q
      cases e
      unfold mul2 at q
      rcases Bool.or_eq_true_iff.mp q with q | q
      · exact .inl (.inl ⟨_, _, wx.int, wy.int, of_decide_eq_true q, k _ H .refl (.int _)⟩)
      · exact .inl (.inr ⟨_, _, wx.int, wy.int, of_decide_eq_true q, k _ H .refl (.int _)⟩)
    · cases e
  · split at e
    · rename_i ds j q
      cases e
      simp only [Bool.and_eq_true, decide_eq_true_eq] at q
      obtain ⟨p, vs, rfl, h1, h2⟩ := wx.tup
      refine .inr ⟨p, j, vs, rfl, wy.int, h1, q.1.1, q.1.2, by rw [h2.len]; exact q.2, ?_⟩
      by_cases z : vs = [] ∨ j = 1
      · refine .inl ⟨z, k _ H .refl ?_⟩
        rcases z with z | z
        · subst z
          cases h2
          rw [repD_nil]
          exact wx.tupDv
        · subst z
          rw [show (1 : Int).toNat = 1 from rfl, repD_one]
          exact wx.tupDv
      · exact .inr ⟨fun w => z (.inl w), fun w => z (.inr w), fun r nr => k _ _ (.upd nr) (.newTup na nr (h2.rep _))⟩
    · cases e
  · cases e
def gEq (neg : Bool) : PD → PD → Option PD := fun d e => if (SeqAt.shaped d && SeqAt.shaped e) = true then some (.bool (xor neg (PyData.eqv d e))) else none
theorem eq_ok : BopOk K (rEqD K) (gEq false) := fun A H Q x y dx dy d na wx wy e k => by
  unfold gEq at e
  split at e
  · rename_i q
    cases e
    simp only [Bool.and_eq_true] at q
    refine ⟨dx, dy, wx.dp, wy.dp, q.1, q.2, ?_⟩
    have z := k (.bl (PyData.eqv dx dy)) H .refl
    rw [Bool.false_xor] at z
    exact z (.bl _)
  · cases e
theorem ne_ok : BopOk K (rNeD K) (gEq true) := fun A H Q x y dx dy d na wx wy e k => by
  unfold gEq at e
  split at e
  · rename_i q
    cases e
    simp only [Bool.and_eq_true] at q
    refine ⟨dx, dy, wx.dp, wy.dp, q.1, q.2, ?_⟩
    have z := k (.bl (!PyData.eqv dx dy)) H .refl
    rw [Bool.true_xor] at z
    exact z (.bl _)
  · cases e
def isBv (b : Bool) : PD → Bool
  | .bool c => c == b
  | _ => false
def gIsB (neg : Bool) : PD → PD → Option PD := fun d e => match e with
  | .bool b => some (.bool (xor neg (isBv b d)))
  | _ => none
theorem isB_ok {neg : Bool} : BopOk K (rIsB neg) (gIsB neg) := fun A H Q x y dx dy d na wx wy e k => by
  unfold gIsB at e
  split at e
  · rename_i b
    cases e
    refine ⟨b, wy.bl, fun n q => ?_, ?_⟩
    · rcases wx with wx | ⟨p, vs, ds, rfl, rfl, hp, w⟩
      · subst q; cases wx
      · cases q
    · have e2 : decide (x = V.bl b) = isBv b dx := by
        rcases wx with wx | ⟨p, vs, ds, rfl, rfl, hp, w⟩
        · cases wx <;> simp [isBv]
          rename_i c
          cases b <;> cases c <;> rfl
        · simp [isBv]
      rw [e2]
      exact k _ H .refl (.bl _)
  · cases e
def flatD : PD → Bool
  | .none => true
  | .bool _ => true
  | .int _ => true
  | .str _ => true
  | _ => false
theorem flat_of {v : V} {d : PD} (h : Dv K H A v d) (f : flatD d = true) : flatV v = true := by cases h <;> first | rfl | cases f
theorem flats_of : ∀ {vs : List V} {ds : List PD}, DvA K H A vs ds → ds.all flatD = true → vs.all flatV = true
  | _, _, .nil, _ => rfl
  | _, _, .cons h t, f => by
    simp only [List.all_cons, Bool.and_eq_true] at f ⊢
    exact ⟨flat_of h f.1, flats_of t f.2⟩
theorem eqV_of {v u : V} {d e : PD} (h : Dv K H A v d) (h2 : Dv K H A u e) (f : flatD d = true) (g : flatD e = true) : eqV v u = PyData.eqv d e := by
  cases h <;> first | cases f | skip
  all_goals cases h2 <;> first | (simp [eqV, PyData.eqv]; done) | rfl | cases g
theorem inV_of {u : V} {e : PD} (h2 : Dv K H A u e) (g : flatD e = true) : ∀ {vs : List V} {ds : List PD}, DvA K H A vs ds → ds.all flatD = true → inV u vs = ds.any fun z => PyData.eqv z e
  | _, _, .nil, _ => rfl
  | _, _, .cons h t, f => by
    simp only [List.all_cons, Bool.and_eq_true] at f
    have z := inV_of h2 g t f.2
    unfold inV at z ⊢
    simp only [List.any_cons]
    rw [z, eqV_of h h2 f.1 g]
def gIn (neg : Bool) : PD → PD → Option PD := fun d e => match e with
  | .list ds => if (SeqAt.shaped d && SeqAt.shaped (.list ds)) = true then some (.bool (xor neg (ds.any fun z => PyData.eqv z d))) else none
  | .tuple ds => if (SeqAt.shaped d && SeqAt.shaped (.tuple ds)) = true then some (.bool (xor neg (ds.any fun z => PyData.eqv z d))) else none
  | _ => none
def rInTd (K : PySem.W.Frag) (neg : Bool) : R2 := fun x y H Q => ∃ d ds, Dp K H x d ∧ Dp K H y (.tuple ds) ∧ SeqAt.shaped d = true ∧ SeqAt.shaped (.tuple ds) = true ∧ Q (.bl (xor neg (ds.any fun z => PyData.eqv z d))) H
theorem op_inTd (hu : X.A.units + 65 < cLine) : OpR X (compareOp .In) (rInTd X.K false) := fun pins s σ H x y v u Q I rx ry ⟨d, ds, hd, he, sd, se, q⟩ => by
  obtain ⟨as, r1⟩ := Dp.reads I d x v hd rx
  obtain ⟨bs, r2⟩ := Dp.reads I (.tuple ds) y u he ry
  rw [Bool.false_xor] at q
  exact SeqAt.in_tuple_reads r2 r1 (SeqAt.canLay_of_shaped se) (SeqAt.canLay_of_shaped sd) (room_in_shaped sd hu) ⟨.bl _, H, I, rfl, q⟩
theorem op_notInTd (hu : X.A.units + 65 < cLine) : OpR X (compareOp .NotIn) (rInTd X.K true) := fun pins s σ H x y v u Q I rx ry ⟨d, ds, hd, he, sd, se, q⟩ => by
  obtain ⟨as, r1⟩ := Dp.reads I d x v hd rx
  obtain ⟨bs, r2⟩ := Dp.reads I (.tuple ds) y u he ry
  rw [Bool.true_xor] at q
  exact SeqAt.notIn_tuple_reads r2 r1 (SeqAt.canLay_of_shaped se) (SeqAt.canLay_of_shaped sd) (room_in_shaped sd hu) ⟨.bl _, H, I, rfl, q⟩
def rInB (K : PySem.W.Frag) (neg : Bool) : R2 := fun x y H Q => (if neg then rNotInD K else rInD K) x y H Q ∨ rInTd K neg x y H Q
theorem op_inB (hu : X.A.units + 65 < cLine) : OpR X (compareOp .In) (rInB X.K false) := (op_inD hu).or (op_inTd hu)
theorem op_notInB (hu : X.A.units + 65 < cLine) : OpR X (compareOp .NotIn) (rInB X.K true) := (op_notInD hu).or (op_notInTd hu)
theorem in_ok {neg : Bool} : BopOk K (rInB K neg) (gIn neg) := fun A H Q x y dx dy d na wx wy e k => by
  unfold gIn at e
  split at e
  · split at e
    · rename_i ds q
      cases e
      simp only [Bool.and_eq_true] at q
      refine .inl ?_
      cases neg with
      | false =>
        refine ⟨dx, ds, wx.dp, wy.dp, q.1, q.2, ?_⟩
        have z := k (.bl (ds.any fun z => PyData.eqv z dx)) H .refl
        rw [Bool.false_xor] at z
        exact z (.bl _)
      | true =>
        refine ⟨dx, ds, wx.dp, wy.dp, q.1, q.2, ?_⟩
        have z := k (.bl (!ds.any fun z => PyData.eqv z dx)) H .refl
        rw [Bool.true_xor] at z
        exact z (.bl _)
    · cases e
  · split at e
    · rename_i ds q
      cases e
      simp only [Bool.and_eq_true] at q
      exact .inr ⟨dx, ds, wx.dp, wy.dp, q.1, q.2, k _ H .refl (.bl _)⟩
    · cases e
  · cases e
theorem atI_rel {vs ds} {i : Int} {d : PD} (h : DvA K H A vs ds) (e : atI ds i = some d) : ∃ v, atI vs i = some v ∧ Dv K H A v d := by
  unfold atI at e ⊢
  obtain ⟨j, e1, e2⟩ := Option.bind_eq_some_iff.mp e
  obtain ⟨v, h1, h2⟩ := h.get e2
  exact ⟨v, by rw [h.len, e1]; exact h1, h2⟩
def gIx : PD → PD → Option PD
  | .list ds, .int i => atI ds i
  | .tuple ds, .int i => atI ds i
  | .str z, .int i => if lineB z.length = true then (atI z.cps.toList i).map fun c => .str ⟨#[c]⟩ else none
  | _, _ => none
theorem ix_ok : BopOk K (rIx K) gIx := fun A H Q x y dx dy d na wx wy e k => by
  unfold gIx at e
  split at e
  · obtain ⟨p, vs, rfl, h1, h2⟩ := wx.lst
    obtain ⟨v, e1, h3⟩ := atI_rel h2 e
    exact .inl ⟨p, vs, _, v, rfl, wy.int, h1, e1, k _ H .refl h3⟩
  · obtain ⟨p, vs, rfl, h1, h2⟩ := wx.tup
    obtain ⟨v, e1, h3⟩ := atI_rel h2 e
    exact .inr (.inl ⟨p, vs, _, v, rfl, wy.int, h1, e1, k _ H .refl h3⟩)
  · split at e
    · rename_i q
      obtain ⟨c, e1, e2⟩ := Option.map_eq_some_iff.mp e
      subst e2
      exact .inr (.inr ⟨_, _, c, wx.str, wy.int, of_decide_eq_true q, e1, k _ H .refl (.str _)⟩)
    · cases e
  · cases e
end
end Dl
set_option Elab.async false
set_option linter.all false
set_option maxRecDepth 100000
namespace Dl
open PySem PySem.Spec PyProof.Rows L2
def DPo (c : Cz) (t : TO) (f : Nv → Rs (Option Int)) : Prop := ∀ S σ H n Q, Rel c.K S H σ n → OkG c S (fun _ _ (v : Option Int) a => v = a) (f n) σ n H Q → t σ H Q
def pN : Nv → Rs (Option Int) := fun n => ret none n
def pS (fe : Nv → Rs Ar) : Nv → Rs (Option Int) := fun n => bnd (fe n) fun a n1 => match a with
  | .d (.int i) => ret (some i) n1
  | _ => none
def cutD (xs : List PD) (lo hi : Option Int) : List PD := (xs.drop (HT.sIx xs.length 0 lo)).take (HT.sIx xs.length xs.length hi - HT.sIx xs.length 0 lo)
def gSl (lo hi : Option Int) : PD → Option PD
  | .list ds => some (.list (cutD ds lo hi))
  | .tuple ds => some (.tuple (cutD ds lo hi))
  | _ => none
def eSl (fx : Nv → Rs Ar) (fl fh : Nv → Rs (Option Int)) : Nv → Rs Ar := fun n => bnd (fx n) fun a n1 => bnd (fl n1) fun lo n2 => bnd (fh n2) fun hi n3 =>
  lft (ArD n3 a) fun x => lft (gSl lo hi x) fun d => ret (.d d) n3
def rSlD (K : PySem.W.Frag) : V → Option Int → Option Int → Hp → VK → Prop := fun x lo hi H Q => rSlL K x lo hi H Q ∨ rSlT K x lo hi H Q ∨ rSlW K x lo hi H Q
theorem sl_D {X : Cx} : SlR X (rSlD X.K) := sl_list.or (sl_tup.or sl_whole)
section
variable {c : Cz} {te : TE} {fe : Nv → Rs Ar} {K : PySem.W.Frag} {H : Hp} {A : AS}
theorem dpo_none : DPo c tNoPart pN := fun S σ H n Q R h => h.ret .refl R rfl
theorem dpo_some (h1 : DE c te fe) : DPo c (tPart te) (pS fe) := fun S σ H n Q R h => by
  refine h1 S σ H n _ R (OkG.bind h fun v a n1 H1 s1 k1 R1 va h2 => ?_)
  match a, va, h2 with
  | .d (.int i), va, h2 =>
    cases va
    exact ⟨i, rfl, h2.ret .refl R1 rfl⟩
theorem DvA.cut {vs : List V} {ds : List PD} {lo hi : Option Int} (h : DvA K H A vs ds) : DvA K H A (cutV vs lo hi) (cutD ds lo hi) := by
  unfold cutV cutD
  rw [h.len]
  exact (h.drop _).take _
theorem sl_ok {x : V} {dx d : PD} {lo hi : Option Int} {Q : VK} (na : ∀ a, A a → H a ≠ none) (wx : Dw K H A x dx) (e : gSl lo hi dx = some d) (k : ∀ v H', NewH H H' → Dv K H' A v d → Q v H') : rSlD K x lo hi H Q := by
  unfold gSl at e
  split at e
  · cases e
    obtain ⟨p, vs, rfl, h1, h2⟩ := wx.lst
    exact .inl ⟨p, vs, rfl, h1, fun r nr => k _ _ (.upd nr) (.newLst na nr h2.cut)⟩
  · rename_i ds
    cases e
    obtain ⟨p, vs, rfl, h1, h2⟩ := wx.tup
    by_cases z : HT.sIx vs.length 0 lo = 0 ∧ HT.sIx vs.length vs.length hi = vs.length
    · refine .inr (.inr ⟨p, vs, rfl, h1, z.1, z.2, k _ H .refl ?_⟩)
      have e2 : cutD ds lo hi = ds := by
        unfold cutD
        rw [← h2.len, z.1, z.2, h2.len]
        simp
      rw [e2]
      exact wx.tupDv
    · exact .inr (.inl ⟨p, vs, rfl, h1, z, fun r nr => k _ _ (.upd nr) (.newTup na nr h2.cut)⟩)
  · cases e
theorem de_sl {tl th : TO} {fl fh} (hx : DE c te fe) (hl : DPo c tl fl) (hh : DPo c th fh) : DE c (tSl (rSlD c.K) te tl th) (eSl fe fl fh) := fun S σ H n Q R h => by
  refine hx S σ H n _ R (OkG.bind h fun v a n1 H1 s1 k1 R1 va h1 => ?_)
  refine hl S σ H1 n1 _ R1 (OkG.bind h1 fun lo lo' n2 H2 s2 k2 R2' vl h2 => ?_)
  refine hh S σ H2 n2 _ R2' (OkG.bind h2 fun hi hi' n3 H3 s3 k3 R3 vh h3 => ?_)
  subst vl vh
  obtain ⟨x, ex, h3⟩ := h3.lft
  obtain ⟨d, ed, h3⟩ := h3.lft
  exact sl_ok R3.avSome (ArV.dw R3 ((va.move s2 k2).move s3 k3) ex) ed fun v' H' g hv => h3.ret g (R3.ext g) hv
end
def CopOk (K : PySem.W.Frag) (r : List V → Hp → VK → Prop) (g : List PD → Option PD) : Prop := ∀ (A : AS) (H : Hp) (Q : VK) (vs : List V) (ds : List PD) (d : PD), (∀ a, A a → H a ≠ none) → Dws K H A vs ds → g ds = some d →
  (∀ v H', NewH H H' → Dv K H' A v d → Q v H') → r vs H Q
def CopL (K : PySem.W.Frag) (r : List V → Hp → VK → Prop) (g : List PD → Option (List PD)) : Prop := ∀ (A : AS) (H : Hp) (Q : VK) (vs : List V) (ds es : List PD), (∀ a, A a → H a ≠ none) → Dws K H A vs ds → g ds = some es →
  (∀ p us, H p = none → DvA K H A us es → Q (.ref p) (L2.upd H p (.lst us))) → r vs H Q
def eCb (g : List PD → Option PD) (fr : Nv → Rs (List Ar)) : Nv → Rs Ar := fun n => bnd (fr n) fun as n1 => lft (ArDs n1 as) fun ds => lft (g ds) fun d => ret (.d d) n1
def oCb (g : List PD → Option (List PD)) (fr : Nv → Rs (List Ar)) : Nv → Rs (List PD) := fun n => bnd (fr n) fun as n1 => lft (ArDs n1 as) fun ds => lft (g ds) fun es => ret es n1
def eOf (fo : Nv → Rs (List PD)) : Nv → Rs Ar := fun n => bnd (fo n) fun ds n1 => ret (.d (.list ds)) n1
section
variable {c : Cz} {te : TE} {fe : Nv → Rs Ar} {ta : TA} {fr : Nv → Rs (List Ar)} {K : PySem.W.Frag} {H : Hp} {A : AS}
theorem de_cb {r : List V → Hp → VK → Prop} {g : List PD → Option PD} (hr : CopOk c.K r g) (ha : DA c ta fr) : DE c (tCB r ta) (eCb g fr) := fun S σ H n Q R h => by
  refine ha S σ H n _ R (OkG.bind h fun vs as n1 H1 s1 k1 R1 va h1 => ?_)
  obtain ⟨ds, e1, h1⟩ := h1.lft
  obtain ⟨d, e2, h1⟩ := h1.lft
  exact hr (AV S σ n1) H1 Q vs ds d R1.avSome (va.dws R1 e1) e2 fun v H' g' hv => h1.ret g' (R1.ext g') hv
theorem do_cb {r : List V → Hp → VK → Prop} {g : List PD → Option (List PD)} (hr : CopL c.K r g) (ha : DA c ta fr) : DO c (tCB r ta) (oCb g fr) := fun S σ H n Q R h => by
  refine ha S σ H n _ R (OkG.bind h fun vs as n1 H1 s1 k1 R1 va h1 => ?_)
  obtain ⟨ds, e1, h1⟩ := h1.lft
  obtain ⟨es, e2, h1⟩ := h1.lft
  exact hr (AV S σ n1) H1 Q vs ds es R1.avSome (va.dws R1 e1) e2 fun p us np hv => h1.ret (.upd np) (R1.new np) ⟨p, rfl, s1.non np, .new R1 np hv⟩
theorem de_of {fo : Nv → Rs (List PD)} (h1 : DO c te fo) : DE c te (eOf fo) := fun S σ H n Q R h => by
  refine h1 S σ H n _ R (OkG.bind h fun v ds n1 H1 s1 k1 R1 va h2 => ?_)
  obtain ⟨p, rfl, np, fr⟩ := va
  exact h2.ret .refl R1 fr.dv
theorem dws1 {vs d} (h : Dws K H A vs [d]) : ∃ v, vs = [v] ∧ Dw K H A v d := by
  cases h with
  | cons h t => cases t; exact ⟨_, rfl, h⟩
theorem dws2 {vs d e} (h : Dws K H A vs [d, e]) : ∃ v u, vs = [v, u] ∧ Dw K H A v d ∧ Dw K H A u e := by
  cases h with
  | cons h t => cases t with
    | cons h2 t => cases t; exact ⟨_, _, rfl, h, h2⟩
def gLen : List PD → Option PD
  | [.list ds] => some (.int ds.length)
  | [.tuple ds] => some (.int ds.length)
  | [.str z] => if lineB z.length = true then some (.int z.length) else none
  | _ => none
def rLen (K : PySem.W.Frag) : List V → Hp → VK → Prop := fun xs H Q => (∃ p ys, xs = [.ref p] ∧ (SqL K H p ys ∨ SqT K H p ys) ∧ Q (.int ys.length) H) ∨ (∃ z, xs = [.str z] ∧ z.length ≤ sizeLine ∧ Q (.int z.length) H)
theorem cr_len {X : Cx} : CallR X (.builtin "len") (rLen X.K) := call_len_seq.or call_len_str
theorem len_ok : CopOk K (rLen K) gLen := fun A H Q vs ds d na w e k => by
  unfold gLen at e
  split at e
  · cases e
    obtain ⟨v, rfl, h⟩ := dws1 w
    obtain ⟨p, us, rfl, h1, h2⟩ := h.lst
    exact .inl ⟨p, us, rfl, .inl h1, k _ H .refl (h2.len ▸ .int _)⟩
  · cases e
    obtain ⟨v, rfl, h⟩ := dws1 w
    obtain ⟨p, us, rfl, h1, h2⟩ := h.tup
    exact .inl ⟨p, us, rfl, .inr h1, k _ H .refl (h2.len ▸ .int _)⟩
  · split at e
    · rename_i z q
      cases e
      obtain ⟨v, rfl, h⟩ := dws1 w
      exact .inr ⟨z, by rw [h.str], of_decide_eq_true q, k _ H .refl (.int _)⟩
    · cases e
  · cases e
def gTupOf : List PD → Option PD
  | [.list ds] => some (.tuple ds)
  | [.tuple ds] => some (.tuple ds)
  | _ => none
def rTupOf (K : PySem.W.Frag) : List V → Hp → VK → Prop := fun xs H Q => ∃ p ys, xs = [.ref p] ∧ ((SqL K H p ys ∧ ∀ l, H l = none → Q (.ref l) (L2.upd H l (.tup ys))) ∨ (SqT K H p ys ∧ Q (.ref p) H))
theorem tupOf_ok : CopOk K (rTupOf K) gTupOf := fun A H Q vs ds d na w e k => by
  unfold gTupOf at e
  split at e
  · cases e
    obtain ⟨v, rfl, h⟩ := dws1 w
    obtain ⟨p, us, rfl, h1, h2⟩ := h.lst
    exact ⟨p, us, rfl, .inl ⟨h1, fun l nl => k _ _ (.upd nl) (.newTup na nl h2)⟩⟩
  · cases e
    obtain ⟨v, rfl, h⟩ := dws1 w
    obtain ⟨p, us, rfl, h1, h2⟩ := h.tup
    exact ⟨p, us, rfl, .inr ⟨h1, k _ H .refl h.tupDv⟩⟩
  · cases e
def gLstOf : List PD → Option (List PD)
  | [.list ds] => some ds
  | [.tuple ds] => some ds
  | _ => none
def rLstOf (K : PySem.W.Frag) : List V → Hp → VK → Prop := fun xs H Q => ∃ p ys, xs = [.ref p] ∧ (SqL K H p ys ∨ SqT K H p ys) ∧ ∀ l, H l = none → Q (.ref l) (L2.upd H l (.lst ys))
theorem lstOf_ok : CopL K (rLstOf K) gLstOf := fun A H Q vs ds es na w e k => by
  unfold gLstOf at e
  split at e
  · cases e
    obtain ⟨v, rfl, h⟩ := dws1 w
    obtain ⟨p, us, rfl, h1, h2⟩ := h.lst
    exact ⟨p, us, rfl, .inl h1, fun l nl => k _ _ nl h2⟩
  · cases e
    obtain ⟨v, rfl, h⟩ := dws1 w
    obtain ⟨p, us, rfl, h1, h2⟩ := h.tup
    exact ⟨p, us, rfl, .inr h1, fun l nl => k _ _ nl h2⟩
  · cases e
def gInt : List PD → Option PD
  | [.int i] => some (.int i)
  | [.bool b] => some (.int (if b then 1 else 0))
  | _ => none
def rInt : List V → Hp → VK → Prop := fun xs H Q => (∃ i, xs = [.int i] ∧ Q (.int i) H) ∨ ∃ k, xs = [.bl k] ∧ Q (.int (if k then 1 else 0)) H
theorem int_ok : CopOk K rInt gInt := fun A H Q vs ds d na w e k => by
  unfold gInt at e
  split at e
  · cases e
    obtain ⟨v, rfl, h⟩ := dws1 w
    exact .inl ⟨_, by rw [h.int], k _ H .refl (.int _)⟩
  · cases e
    obtain ⟨v, rfl, h⟩ := dws1 w
    exact .inr ⟨_, by rw [h.bl], k _ H .refl (.int _)⟩
  · cases e
def gMax2 : List PD → Option PD
  | [.int i, .int j] => some (.int (if j > i then j else i))
  | _ => none
def gMin2 : List PD → Option PD
  | [.int i, .int j] => some (.int (if j < i then j else i))
  | _ => none
theorem max2_ok : CopOk K (fun xs H Q => ∃ i j, xs = [.int i, .int j] ∧ Q (.int (if j > i then j else i)) H) gMax2 := fun A H Q vs ds d na w e k => by
  unfold gMax2 at e
  split at e
  · cases e
    obtain ⟨v, u, rfl, h, h2⟩ := dws2 w
    exact ⟨_, _, by rw [h.int, h2.int], k _ H .refl (.int _)⟩
  · cases e
theorem min2_ok : CopOk K (fun xs H Q => ∃ i j, xs = [.int i, .int j] ∧ Q (.int (if j < i then j else i)) H) gMin2 := fun A H Q vs ds d na w e k => by
  unfold gMin2 at e
  split at e
  · cases e
    obtain ⟨v, u, rfl, h, h2⟩ := dws2 w
    exact ⟨_, _, by rw [h.int, h2.int], k _ H .refl (.int _)⟩
  · cases e
def blsOf : List PD → Option (List Bool)
  | [] => some []
  | .bool b :: r => (blsOf r).map (b :: ·)
  | _ => none
theorem bls_of : ∀ {vs : List V} {ds : List PD} {bs : List Bool}, DvA K H A vs ds → blsOf ds = some bs → vs = bs.map V.bl
  | _, _, bs, .nil, e => by cases e; rfl
  | _, _, bs, .cons (d := .bool b) h t, e => by
    obtain ⟨r, e1, e2⟩ := Option.map_eq_some_iff.mp e
    subst e2
    cases h
    rw [bls_of t e1]
    rfl
  | _, _, bs, .cons (d := .none) h t, e => by cases e
  | _, _, bs, .cons (d := .int _) h t, e => by cases e
  | _, _, bs, .cons (d := .str _) h t, e => by cases e
  | _, _, bs, .cons (d := .list _) h t, e => by cases e
  | _, _, bs, .cons (d := .tuple _) h t, e => by cases e
  | _, _, bs, .cons (d := .dict _) h t, e => by cases e
def intsOf : List PD → Option (List Int)
  | [] => some []
  | .int b :: r => (intsOf r).map (b :: ·)
  | _ => none
theorem ints_of : ∀ {vs : List V} {ds : List PD} {bs : List Int}, DvA K H A vs ds → intsOf ds = some bs → vs = bs.map V.int
  | _, _, bs, .nil, e => by cases e; rfl
  | _, _, bs, .cons (d := .int b) h t, e => by
    obtain ⟨r, e1, e2⟩ := Option.map_eq_some_iff.mp e
    subst e2
    cases h
    rw [ints_of t e1]
    rfl
  | _, _, bs, .cons (d := .none) h t, e => by cases e
  | _, _, bs, .cons (d := .bool _) h t, e => by cases e
  | _, _, bs, .cons (d := .str _) h t, e => by cases e
  | _, _, bs, .cons (d := .list _) h t, e => by cases e
  | _, _, bs, .cons (d := .tuple _) h t, e => by cases e
  | _, _, bs, .cons (d := .dict _) h t, e => by cases e
def gAll : List PD → Option PD
  | [.list ds] => (blsOf ds).map fun bs => .bool (bs.all id)
  | _ => none
theorem all_ok : CopOk K (rAll K) gAll := fun A H Q vs ds d na w e k => by
  unfold gAll at e
  split at e
  · obtain ⟨bs, e1, e2⟩ := Option.map_eq_some_iff.mp e
    subst e2
    obtain ⟨v, rfl, h⟩ := dws1 w
    obtain ⟨p, us, rfl, h1, h2⟩ := h.lst
    exact ⟨p, bs, rfl, bls_of h2 e1 ▸ h1, k _ H .refl (.bl _)⟩
  · cases e
def gAny : List PD → Option PD
  | [.list ds] => (blsOf ds).map fun bs => .bool (bs.any id)
  | _ => none
theorem any_ok : CopOk K (rAny K) gAny := fun A H Q vs ds d na w e k => by
  unfold gAny at e
  split at e
  · obtain ⟨bs, e1, e2⟩ := Option.map_eq_some_iff.mp e
    subst e2
    obtain ⟨v, rfl, h⟩ := dws1 w
    obtain ⟨p, us, rfl, h1, h2⟩ := h.lst
    exact ⟨p, bs, rfl, bls_of h2 e1 ▸ h1, k _ H .refl (.bl _)⟩
  · cases e
def gSum : List PD → Option PD
  | [.list ds] => (intsOf ds).map fun bs => .int bs.sum
  | _ => none
theorem sum_ok : CopOk K (rSum K) gSum := fun A H Q vs ds d na w e k => by
  unfold gSum at e
  split at e
  · obtain ⟨bs, e1, e2⟩ := Option.map_eq_some_iff.mp e
    subst e2
    obtain ⟨v, rfl, h⟩ := dws1 w
    obtain ⟨p, us, rfl, h1, h2⟩ := h.lst
    exact ⟨p, bs, rfl, ints_of h2 e1 ▸ h1, k _ H .refl (.int _)⟩
  · cases e
def sortI (ns : List Int) : List Int := ns.mergeSort (fun a b => decide (a ≤ b))
theorem sortI_perm (ns : List Int) : (sortI ns).Perm ns := List.mergeSort_perm _ _
theorem sortI_pw (ns : List Int) : (sortI ns).Pairwise (· ≤ ·) := by
  have h := List.pairwise_mergeSort (le := fun a b : Int => decide (a ≤ b)) (fun a b c h1 h2 => by simp at *; omega) (fun a b => by simp; omega) ns
  exact h.imp fun h => of_decide_eq_true h
theorem sort_uniq : ∀ {l1 l2 : List Int}, l1.Perm l2 → l1.Pairwise (· ≤ ·) → l2.Pairwise (· ≤ ·) → l1 = l2 := fun p h1 h2 => List.Perm.eq_of_pairwise (fun a b _ _ h h' => Int.le_antisymm h h') h1 h2 p
def gSrt : List PD → Option (List PD)
  | [.list ds] => (intsOf ds).map fun ns => (sortI ns).map .int
  | _ => none
theorem dvInts : ∀ ns : List Int, DvA K H A (ns.map V.int) (ns.map .int)
  | [] => .nil
  | n :: r => .cons (.int n) (dvInts r)
theorem srt_ok : CopL K (rSortedI K) gSrt := fun A H Q vs ds es na w e k => by
  unfold gSrt at e
  split at e
  · obtain ⟨ns, e1, e2⟩ := Option.map_eq_some_iff.mp e
    subst e2
    obtain ⟨v, rfl, h⟩ := dws1 w
    obtain ⟨p, us, rfl, h1, h2⟩ := h.lst
    refine ⟨p, ns, rfl, ints_of h2 e1 ▸ h1, fun ns' q hp hw nq => ?_⟩
    have e3 : ns' = sortI ns := sort_uniq (hp.trans (sortI_perm ns).symm) hw (sortI_pw ns)
    subst e3
    exact k q _ nq (dvInts _)
  · cases e
def rgOk (a b : Int) : Bool := decide (-(2 ^ 62) ≤ a) && decide (a < 2 ^ 62) && decide (-(2 ^ 62) ≤ b) && decide (b < 2 ^ 62) && decide ((b - a).toNat ≤ 2 ^ 24)
theorem rgOk_of {a b : Int} (h : rgOk a b = true) : RgOk a b := by
  unfold rgOk at h
  simp only [Bool.and_eq_true, decide_eq_true_eq] at h
  exact ⟨h.1.1.1.1, h.1.1.1.2, h.1.1.2, h.1.2, h.2⟩
theorem dvRg (a : Int) (k : Nat) : DvA K H A ((List.range k).map fun (i : Nat) => V.int (a + (i : Nat))) (rngD a k) := by
  unfold rngD
  generalize List.range k = l
  induction l with
  | nil => exact .nil
  | cons x r ih => exact .cons (.int _) ih
def oRg1 (fe : Nv → Rs Ar) : Nv → Rs (List PD) := fun n => bnd (fe n) fun a n1 => match a with
  | .d (.int j) => if rgOk 0 j = true then ret (rngD 0 j.toNat) n1 else none
  | _ => none
def oRg2 (fa fb : Nv → Rs Ar) : Nv → Rs (List PD) := fun n => bnd (fa n) fun a n1 => bnd (fb n1) fun b n2 => match a, b with
  | .d (.int i), .d (.int j) => if rgOk i j = true then ret (rngD i (j - i).toNat) n2 else none
  | _, _ => none
def eTupRg1 (fe : Nv → Rs Ar) : Nv → Rs Ar := fun n => bnd (fe n) fun a n1 => match a with
  | .d (.int j) => if rgOk 0 j = true then ret (.d (.tuple (rngD 0 j.toNat))) n1 else none
  | _ => none
theorem do_rg1 (h1 : DE c te fe) : DO c (tLstRg (tRg1 te)) (oRg1 fe) := fun S σ H n Q R h => by
  refine h1 S σ H n _ R (OkG.bind h fun v a n1 H1 s1 k1 R1 va h2 => ?_)
  match a, va, h2 with
  | .d (.int j), va, h2 =>
    cases va
    dsimp only at h2
    split at h2
    · rename_i q
      refine ⟨j, rfl, rgOk_of q, fun p np => h2.ret (.upd np) (R1.new np) ⟨p, rfl, s1.non np, .new R1 np ?_⟩⟩
      have z := dvRg (K := c.K) (H := H1) (A := AV S σ n1) 0 (j - 0).toNat
      have e : rngD 0 (j - 0).toNat = rngD 0 j.toNat := by rw [Int.sub_zero]
      rw [e] at z
      exact z
    · exact h2.elim
theorem de_tupRg1 (h1 : DE c te fe) : DE c (tTupRg (tRg1 te)) (eTupRg1 fe) := fun S σ H n Q R h => by
  refine h1 S σ H n _ R (OkG.bind h fun v a n1 H1 s1 k1 R1 va h2 => ?_)
  match a, va, h2 with
  | .d (.int j), va, h2 =>
    cases va
    dsimp only at h2
    split at h2
    · rename_i q
      refine ⟨j, rfl, rgOk_of q, fun p np => h2.ret (.upd np) (R1.new np) ?_⟩
      have z := dvRg (K := c.K) (H := H1) (A := AV S σ n1) 0 (j - 0).toNat
      have e : rngD 0 (j - 0).toNat = rngD 0 j.toNat := by rw [Int.sub_zero]
      rw [e] at z
      exact .newTup R1.avSome np z
    · exact h2.elim
theorem do_rg2 {tb : TE} {fb} (h1 : DE c te fe) (h2 : DE c tb fb) : DO c (tLstRg (tRg2 te tb)) (oRg2 fe fb) := fun S σ H n Q R h => by
  refine h1 S σ H n _ R (OkG.bind h fun v a n1 H1 s1 k1 R1 va h3 => ?_)
  refine h2 S σ H1 n1 _ R1 (OkG.bind h3 fun u b n2 H2 s2 k2 R2' vb h4 => ?_)
  match a, va, b, vb, h4 with
  | .d (.int i), va, .d (.int j), vb, h4 =>
    cases va
    cases vb
    dsimp only at h4
    split at h4
    · rename_i q
      exact ⟨i, j, rfl, rfl, rgOk_of q, fun p np => h4.ret (.upd np) (R2'.new np) ⟨p, rfl, s1.non (s2.non np), .new R2' np (dvRg i _)⟩⟩
    · exact h4.elim
end
end Dl
set_option Elab.async false
set_option linter.all false
set_option maxRecDepth 100000
namespace Dl
open PySem PySem.Spec PyProof.Rows L2
def tyD : PD → String
  | .none => "NoneType"
  | .bool _ => "bool"
  | .int _ => "int"
  | .str _ => "str"
  | .list _ => "list"
  | .tuple _ => "tuple"
  | .dict _ => "dict"
def isiD (T : String) (d : PD) : Bool := decide (tyD d = T) || (decide (T = "int") && decide (tyD d = "bool"))
def KitT (T : String) : Prop := ∀ a ∈ ["NoneType", "bool", "int", "str", "list", "tuple"], kitB a T = some (decide (a = T) || (decide (T = "int") && decide (a = "bool")))
theorem kit_int : KitT "int" := by unfold KitT; decide +kernel
theorem kit_bool : KitT "bool" := by unfold KitT; decide +kernel
theorem kit_str : KitT "str" := by unfold KitT; decide +kernel
theorem kit_tuple : KitT "tuple" := by unfold KitT; decide +kernel
theorem kit_list : KitT "list" := by unfold KitT; decide +kernel
section
variable {K : PySem.W.Frag} {H : Hp} {A : AS}
theorem Dw.tyX {v : V} {d : PD} (h : Dw K H A v d) : TyX K H v (.type (tyD d)) ∧ tyD d ∈ ["NoneType", "bool", "int", "str", "list", "tuple"] := by
  rcases h with h | ⟨p, vs, ds, rfl, rfl, h, _⟩
  · cases h with
    | non => exact ⟨.base .non, by simp [tyD]⟩
    | bl b => exact ⟨.base (.bl b), by simp [tyD]⟩
    | int i => exact ⟨.base (.int i), by simp [tyD]⟩
    | str x => exact ⟨.base (.str x), by simp [tyD]⟩
    | lst hl _ =>
      refine ⟨?_, by simp [tyD]⟩
      rcases hl with ⟨h | ⟨o, h⟩, _⟩ | ⟨o, its, n, h, hc, _⟩
      · exact .base (.lst h)
      · exact .base (.frz h)
      · exact .kList h hc
    | tup hl _ =>
      refine ⟨?_, by simp [tyD]⟩
      rcases hl with ⟨h | ⟨o, h⟩, _⟩ | ⟨o, its, n, h, hc, _⟩
      · exact .base (.tup h)
      · exact .fTuple h
      · exact .kTuple h hc
  · exact ⟨.base (.lst h), by simp [tyD]⟩
end
def eIsi (T : String) (fe : Nv → Rs Ar) : Nv → Rs Ar := fun n => bnd (fe n) fun a n1 => lft (ArD n1 a) fun d => ret (.d (.bool (isiD T d))) n1
theorem de_isi {c : Cz} {te : TE} {fe : Nv → Rs Ar} {T : String} (hT : KitT T) (h1 : DE c te fe) : DE c (tCB (rIsi c.K) (tCons te (tCons (tC (.ty T)) tNil))) (eIsi T fe) := fun S σ H n Q R h => by
  refine h1 S σ H n _ R (OkG.bind h fun v a n1 H1 s1 k1 R1 va h2 => ?_)
  obtain ⟨d, ed, h2⟩ := h2.lft
  obtain ⟨t1, t2⟩ := (ArV.dw R1 va ed).tyX
  exact ⟨v, .ty T, .type (tyD d), .type T, isiD T d, rfl, .ty T, t1, kit_ty (hT _ t2), h2.ret .refl R1 (Dv.bl _)⟩
def spI2 (K : PySem.W.Frag) (f g : Str) : Sp := fun vs H Q _ => ∃ (a C : Addr) (x y : V), vs = [.ref a, x, y] ∧ OexC K C ∧ PySem.W.findIn K (.ref C) f = some none ∧ PySem.W.findIn K (.ref C) g = some none ∧ H a = some (exo a C none) ∧
  ∀ dx, H dx = none → dx ≠ a → Q .non (L2.upd (L2.upd (L2.upd H dx (exd dx [(f, x)])) a (exo a C (some dx))) dx (exd dx [(g, y), (f, x)]))
theorem init_read {K : PySem.W.Frag} {f g : Str} {vs : List V} {H : Hp} {Q : VK} {E : XK} {D : Ends} (hD : D.nx = fun _ H' => Q .non H') (h : spI2 K f g vs H Q E) : tSeq (tOst K f (tVar 0) (tVar 1)) (tOst K g (tVar 0) (tVar 2)) D (vs.map some) H := by
  obtain ⟨a, C, x, y, rfl, T, h1, h2, ha, q⟩ := h
  refine ⟨x, rfl, .ref a, rfl, a, C, rfl, T, h1, .inl ⟨ha, fun dx nd ne => ?_⟩⟩
  refine ⟨y, rfl, .ref a, rfl, a, C, rfl, T, h2, .inr ⟨dx, [(f, x)], upd_same, ?_, by simp, ?_⟩⟩
  · rw [upd_ne ne, upd_same]
  · rw [hD]
    exact q dx nd ne
def sRaise (nm f g : Str) (fr : Nv → Rs (List Ar)) : Nv → RS := fun n => sbn (fr n) fun as n1 => match as with
  | [.d x, .d y] => some (.error (⟨nm, [(g, y), (f, x)]⟩, n1))
  | _ => none
theorem ds_raise {c : Cz} {C : Addr} {nm f g : Str} {ta : TA} {fr : Nv → Rs (List Ar)} (hc : c.cl nm = some (.ref C)) (T : OexC c.K C) (hf : PySem.W.findIn c.K (.ref C) f = some none) (hg : PySem.W.findIn c.K (.ref C) g = some none) (ha : DA c ta fr) :
    DS c (fun _ σ H => tMkO C (spI2 c.K f g) [] ta σ H fun cls d H' => c.E σ cls d H') (sRaise nm f g fr) := fun S H0 σ H n D R hd h => by
  refine ha S σ H n _ R (OkS.bind h fun vs as n1 H1 s1 k1 R1 va h2 => ?_)
  match as, va, h2 with
  | [.d x, .d y], va, h2 =>
    have w : DvA c.K H1 (AV S σ n1) vs [x, y] := va.dvA rfl
    cases va with
    | cons v1 r =>
      cases r with
      | cons v2 r =>
        cases r
        rename_i vx vy
        refine ⟨by show 2 ≤ 1000; decide, fun a na => ⟨a, C, vx, vy, rfl, T, hf, hg, upd_same, fun dx nd ne => ⟨rfl, dx, [(g, vy), (f, vx)], ?_, upd_same, ?_, ?_⟩⟩⟩
        · rw [upd_ne (Ne.symm ne), upd_same]
        · rw [upd_ne ne] at nd
          exact nd
        · rw [upd_ne ne] at nd
          have gr : ∀ (b : Addr) (o : HO), H1 b = some o → (L2.upd (del (L2.upd (L2.upd (L2.upd (L2.upd H1 a (exo a C none)) dx (exd dx [(f, vx)])) a (exo a C (some dx))) dx (exd dx [(g, vy), (f, vx)])) a) dx (.xd [(g, vy), (f, vx)])) b = some o := fun b o e => by
            have ba : b ≠ a := ne_of_none e na
            have bd : b ≠ dx := ne_of_none e nd
            rw [upd_ne bd, del_ne ba, upd_ne bd, upd_ne ba, upd_ne bd, upd_ne ba]
            exact e
          refine h2 σ H1 .refl R1 _ _ _ (fun b o _ e => gr b o e) (NewH.dom gr) ⟨hc, dx, [(g, vy), (f, vx)], rfl, upd_same, rfl, ?_⟩
          have w2 : DvA c.K H1 (AV S σ n1) [vy, vx] [y, x] := by
            cases w with
            | cons w1 w => cases w with
              | cons w2 w => exact .cons w2 (.cons w1 .nil)
          exact w2.mono (S := fun _ => False) (fun b o _ e => gr b o e) (fun _ z => z.elim) fun b z => .inl z
def noOw (n : Nv) : Bool := n.all fun s => match s with
  | .ow _ _ => false
  | _ => true
theorem noOw_own {n : Nv} (h : noOw n = true) {σ : Sg} : ∀ a, ¬ Own σ n a := fun a ⟨i, pm, ds, e, _⟩ => by
  have z := List.all_eq_true.mp h _ (List.mem_of_getElem? e)
  cases z
def sTry2 (i : Nat) (nm f g : Str) (fb : Nv → RS) : Nv → RS := fun n => match fb n with
  | some (.error (e, n1)) => if (decide (e.nm = nm) && noOw n1 && decide (i < n1.length)) = true then match e.fs.lookup f, e.fs.lookup g with
      | some x, some y => some (.ok (.rt (.d (.tuple [x, y])), n1.set i .un))
      | _, _ => none
    else none
  | r => r
theorem fs_lookup {K : PySem.W.Frag} {H : Hp} {A : AS} {f : Str} {x : PD} : ∀ {vs : List (Str × V)} {ds : List (Str × PD)}, vs.map (·.1) = ds.map (·.1) → DvA K H A (vs.map (·.2)) (ds.map (·.2)) → ds.lookup f = some x → ∃ v, vs.lookup f = some v ∧ Dv K H A v x
  | [], [], _, _, h => by cases h
  | [], b :: r, e, _, _ => by simp at e
  | a :: r, [], e, _, _ => by simp at e
  | a :: r, b :: r', e, h, q => by
    simp only [List.map_cons, List.cons.injEq] at e
    simp only [List.map_cons] at h
    cases h with
    | cons h1 h2 =>
      obtain ⟨a1, a2⟩ := a
      obtain ⟨b1, b2⟩ := b
      have e1 : a1 = b1 := e.1
      subst e1
      rw [List.lookup_cons] at q ⊢
      split
      · rename_i z
        rw [z] at q
        cases q
        exact ⟨a2, rfl, h1⟩
      · rename_i z
        rw [z] at q
        exact fs_lookup e.2 h2 q
theorem ds_try2 {c : Cz} {C : Addr} {i : Nat} {nm f g : Str} {tb : WX → TS} {fb : Nv → RS} {Wout : WX} (hc : c.cl nm = some (.ref C)) (he : PySem.W.exmOne c.K (.ref C) (.ref C) = some true)
    (hb : ∀ W : WX, DS ⟨c.K, c.cl, WE W⟩ (tb W) fb) :
    DS c (fun D σ H => tb (wAs c.K (.ref C) i (fun a cls d => tRet (tTup (tCons (tXf a cls d C f (tVar i)) (tCons (tXf a cls d C g (tVar i)) tNil)))) Wout D) D σ H) (sTry2 i nm f g fb) := fun S H0 σ H n D R hd h => by
  refine hb _ S H0 σ H n D R hd ?_
  unfold sTry2 at h
  match fb n, h with
  | some (.ok (.nx, n')), h => exact h
  | some (.ok (.bk, n')), h => exact h
  | some (.ok (.ct, n')), h => exact h
  | some (.ok (.rt x, n')), h => exact h
  | some (.error (e, n1)), h =>
    dsimp only at h
    split at h
    · rename_i q
      simp only [Bool.and_eq_true, decide_eq_true_eq] at q
      obtain ⟨⟨q1, q2⟩, q3⟩ := q
      split at h
      · rename_i x y ex ey
        intro σ' H' st R' C' od H2 ext dom z
        obtain ⟨z1, d, vs, rfl, hd', hk, hv⟩ := z
        have eC : C' = .ref C := by
          rw [q1] at z1
          have z1 : c.cl nm = some C' := z1
          rw [hc] at z1
          cases z1
          rfl
        subst eC
        obtain ⟨vx, lx, hx⟩ := fs_lookup hk hv ex
        obtain ⟨vy, ly, hy⟩ := fs_lookup hk hv ey
        refine ⟨true, he, fun _ a na => ?_, fun w => nomatch w⟩
        have hl : i < σ'.length := by rw [← R'.len]; exact q3
        have gi : (σ'.set i (some (V.ref a)))[i]? = some (some (.ref a)) := List.getElem?_set_self hl
        refine ⟨.ref a, gi, rfl, rfl, d, vs, vx, rfl, hd', lx, .ref a, gi, rfl, rfl, d, vs, vy, rfl, hd', ly, by show 2 ≤ sizeLine; decide, fun p np => ?_⟩
        have gr : NewH H' H2 := fun b o e => ext b o (noOw_own q2 b) e
        have fr : Fre n1 i := fun ds e => by
          have z := List.all_eq_true.mp q2 _ (List.mem_of_getElem? e)
          cases z
        have R2 : Rel c.K S (L2.upd H2 p (.tup [vx, vy])) σ' n1 := (Rel.ext R' gr).new np
        have S2 : Stp σ' n1 H' σ' n1 (L2.upd H2 p (.tup [vx, vy])) := .grown (gr.trans (.upd np))
        refine h _ _ _ (st.trans (S2.trans (.setUn (x := some (.ref a)) fr))) (R2.setUn (x := some (.ref a)) fr) ?_
        have na' : ∀ b, AV S σ' n1 b → H2 b ≠ none := (Rel.ext R' gr).avSome
        have w : Dv c.K (L2.upd H2 p (.tup [vx, vy])) (AV S σ' n1) (.ref p) (.tuple [x, y]) := .newTup na' np (.cons hx (.cons hy .nil))
        exact w.weak fun b z => z.elim .inl fun q => .inr (own_set (fun _ _ w => by cases w) b q)
      · exact h.elim
    · exact h.elim
end Dl
set_option Elab.async false
set_option linter.all false
set_option maxRecDepth 100000
set_option maxHeartbeats 400000
namespace Dl
open PySem PySem.Spec PyProof.Rows L2
section
variable {X : Cx} {CX : CXT} {k : Nat} {f : Addr} {fd : FuncData} {ps ks : List Str} {sp : Sp} {E : XK} {x : Str} {p pos : Pos} {kws : List Keyword} {tk : TA} {g : List Value → List Value → List Value} {gV : List V → List V → List V}
theorem pe_kw0 (F : FnOk X.prog X.w X.K X.mg X.base CX k f fd ps sp) (hr : Room k X.A) (hg : Gl X x) (hm : X.mg x = some (.ref f)) (hk : PySem.W.keepIn X.K (.ref f) = true) (hb : KBinds X.K fd ps ks g gV) (hx : Passes CX X E) (hkw : PK X kws tk)
    (hall : (backToKw pos (keywordEach kws X.env)).all (·.1.isSome) = true := by rfl) (hks : (backToKw pos (keywordEach kws X.env)).filterMap (·.1) = ks := by rfl) (hdb : (x == ("__debug__" : Str)) = false := by decide)
    (hpl : ((backTo pos (starEach [] X.env)).any (·.1) || (backToKw pos (keywordEach kws X.env)).any (·.1.isNone)) = false := by rfl) : PE X (.Call (.Name x p) [] kws pos) (tCallK sp gV E tNil tk) := by
  refine ⟨fun pins s σ H Q I h => wpAny_Call_Name_kw (ld_glob I hg hm ?_ hdb)⟩
  refine PySem.W.callWith_KW0 (h₀ := X.base) I.ok.mod.kin hk hall (thn (hkw.run pos pins s σ H _ I h) fun ws s2 ⟨zs, H2, I2, rz, q2⟩ => ⟨I2.kIn, ?_⟩) hpl
  rw [hks]
  exact run_fnk (us := []) F hr hb hx I2 .nil rz q2
end
def gRev {α : Type} (us ws : List α) : List α := match us with
  | [] => ws.reverse
  | _ :: _ => []
theorem paired_rev {α β : Type} {F : α → β → Prop} : ∀ {xs : List α} {ys : List β}, Paired F xs ys → Paired F xs.reverse ys.reverse
  | _, _, .nil => .nil
  | _, _, .cons r t => by
    rw [List.reverse_cons, List.reverse_cons]
    have app : ∀ {a c : List α} {b d : List β}, Paired F a b → Paired F c d → Paired F (a ++ c) (b ++ d) := fun {a c b d} h1 h2 => by
      induction h1 with
      | nil => exact h2
      | cons r t ih => exact .cons r ih
    exact app (paired_rev t) (.cons r .nil)
theorem kb_rev {K : PySem.W.Frag} {x qual : Str} {st : Stmt} {f : Addr} {fd : FuncData} {ps ks : List Str} (F : Fun K x qual st f fd) (hp : ps ≠ [])
    (h : ∀ (kV doc pm : Value) (an : Option Addr) (cdv ct : Value) (ws : List Value), ws.length = ps.length → bindArgs (PySem.W.fnOf x qual (defArgs st) (defBody st) (defScope st) .none kV doc pm an cdv ct) ⟨[], ks.zip ws⟩ = pure (ps.zip ws.reverse)) : KBinds K fd ps ks gRev gRev := by
  obtain ⟨oc, od, kV, doc, pm, an, cdv, ct, osl, rfl, lk, hcd⟩ := F.ex
  refine ⟨fun s us ws _ hl => ?_, fun {vs us zs ws} r rz => ?_⟩
  · cases us with
    | nil =>
      have e : ws.length = ps.length := by simpa [gRev] using hl
      exact .of_eq (h kV doc pm an cdv ct ws e)
    | cons u us =>
      have e : ps.length = 0 := by simpa [gRev] using hl.symm
      exact (hp (List.eq_nil_of_length_eq_zero e)).elim
  · cases r with
    | nil => exact paired_rev rz
    | cons r t => exact .nil
theorem ArVs.append {K S σ n H} : ∀ {vs us : List V} {as bs : List Ar}, ArVs K S σ n H vs as → ArVs K S σ n H us bs → ArVs K S σ n H (vs ++ us) (as ++ bs)
  | _, _, _, _, .nil, h => h
  | _, _, _, _, .cons r t, h => .cons r (ArVs.append t h)
theorem ArVs.rev {K S σ n H} : ∀ {vs : List V} {as : List Ar}, ArVs K S σ n H vs as → ArVs K S σ n H vs.reverse as.reverse
  | _, _, .nil => .nil
  | _, _, .cons r t => by
    rw [List.reverse_cons, List.reverse_cons]
    exact (ArVs.rev t).append (.cons r .nil)
def eCallR (f : Nv → Rs Rv) (fr : Nv → Rs (List Ar)) : Nv → Rs Ar := fun n => bnd (fr n) fun as n1 => if dist as.reverse = true then lft (slots n1 as.reverse) fun m => cal (f m) n1 (eRv as.reverse n1) else none
theorem de_callR {c : Cz} {k : Nat} {f : Nv → Rs Rv} {ta : TA} {fr : Nv → Rs (List Ar)} {E : XK} (hr : DA c ta fr) (hf : Ary k f) (hE : ∀ σ, E = c.E σ) : DE c (tCallK (spM c.K c.cl k f) gRev E tNil ta) (eCallR f fr) := fun S σ H n Q R h => by
  refine hr S σ H n _ R (OkG.bind h fun vs as n1 H1 s1 k1 R1 va h1 => ?_)
  exact call_core (E := fun _ => E) (W := fun _ _ _ _ => True) hf (hE σ) R1 va.rev h1
structure FnG (P : Program) (w : World) (K : PySem.W.Frag) (mg : Str → Option Value) (base : Heap) (CX : CXT) (k : Nat) (f : Addr) (fd : FuncData) (ps : List Str) (sp : Sp) : Prop where
  len : ∀ vs H Q E, sp vs H Q E → vs.length = ps.length
  run : ∀ (A : Around) (outer : List Env) (s : Shared) (H : Hp) (args : Args) (us : List Value) (vs : List V) (Q : VK) (E : XK), A.guards = some [] → Room k A → Env0 P w K mg base A outer s H → BindsTo s fd args (ps.zip us) → Vals vs us → sp vs H Q E →
    codeAny (model P w) A (.call (.ref f) args) (CR CX outer P w H s Q E) s
theorem FnG.of {P w K mg base CX k f fd ps sp} (F : FnOk P w K mg base CX k f fd ps sp) : FnG P w K mg base CX k f fd ps sp := ⟨F.len, fun A outer s H args us vs Q E _ => F.run A outer s H args us vs Q E⟩
theorem pe_callG {X : Cx} {CX : CXT} {k : Nat} {f : Addr} {fd : FuncData} {ps : List Str} {sp : Sp} {E : XK} {x : Str} {p pos : Pos} {e : Expr} {es : List Expr} {t : TA} (F : FnG X.prog X.w X.K X.mg X.base CX k f fd ps sp) (gd : X.A.guards = some []) (hr : Room k X.A) (hg : Gl X x) (hm : X.mg x = some (.ref f)) (hk : PySem.W.keepIn X.K (.ref f) = true) (hb : Binds X.K fd ps []) (hx : Passes CX X E)
    (ha : PA X (e :: es) t) (hdb : (x == ("__debug__" : Str)) = false := by decide) (he : starEach (e :: es) X.env = (false, eval e X.env) :: starEach es X.env := by rfl) (hpl : (backTo pos (starEach es X.env)).any (·.1) = false := by rfl) :
    PE X (.Call (.Name x p) (e :: es) [] pos) (tCall sp [] E t) := by
  refine ⟨fun pins s σ H Q I h => wpAny_Call_Name_kw (ld_glob I hg hm ?_ hdb)⟩
  refine PySem.W.callWith_K (h₀ := X.base) I.ok.mod.kin hk (thn (ha.run pos pins s σ H _ I h) fun us s1 ⟨vs, H1, I1, r, q⟩ => ⟨I1.kIn, ?_⟩) he hpl
  have q : sp (vs ++ []) H1 Q E := q
  rw [List.append_nil] at q
  show wpAny _ _ (call (.ref f) us) _ _ _
  have hl : (us ++ []).length = ps.length := by rw [List.append_nil, ← r.length]; exact F.len _ _ _ _ q
  have bd := hb s1 us I1.kIn hl
  rw [List.append_nil] at bd
  refine wpAny_call (codeAny_mono (F.run X.A X.stack s1 H1 ⟨us, []⟩ us vs Q E gd hr I1.env0 bd r q) fun res s2 hq => ?_)
  match res, hq with
  | .error ex, hq => exact hx pins σ H1 s1 ex s2 I1 hq
  | .ok (.ret u), hq => exact I1.after hq
section
variable {CX : CXT} {P : Program} {w : World} {K : PySem.W.Frag} {mg : Str → Option Value} {base : Heap} {k : Nat} {f : Addr} {nm qual : Str} {pa : Arguments} {bd : List Stmt} {sc : Scope} {dV kV doc pm cdv ct oc : Value} {an od : Option Addr}
  {osl : Array (Option Value)} {N ps : List Str} {sp : Sp}
theorem fnG_of (lk : K.lookup f = some ⟨oc, od, .func (PySem.W.fnOf nm qual pa bd sc dV kV doc pm an cdv ct), osl⟩) (hcd : PySem.W.codeIn K cdv qual = true) (Sc : FnScope N ps sc) (len : ∀ vs H Q E, sp vs H Q E → vs.length = ps.length)
    (hbody : ∀ (A : Around) (outer : List Env) (s : Shared) (H : Hp) (vs : List V) (Q : VK) (E : XK), A.guards = some [] → Room k (A.deeper (envOfC qual sc s.heap.objs.size f cdv)) → sp vs H Q E →
      ∃ t, PSs (cxOf CX P w K mg base N qual sc f cdv A outer s H E) bd t ∧ t { nx := fun _ H' => Q .non H', rt := Q } (L2.start N vs) H) :
    FnG P w K mg base CX (k + 1) f (PySem.W.fnOf nm qual pa bd sc dV kV doc pm an cdv ct) ps sp := by
  refine ⟨len, fun A outer s H args us vs Q E gd hr e0 hb r hsp => ?_⟩
  have hl := len vs H Q E hsp
  have old : ∀ b o, base.get? b = some o → s.heap.get? b = some o := fun b o e => (e0.bs b o e).1
  have kin : K.In s.heap := e0.mod.kin.keeps old
  have par : ∀ y ∈ ps.zip us, sc.names.lookup y.1 = some .local ∨ (sc.names.lookup y.1 = some .cell ∧ ((cellsFrom (s.heap.objs.size + 1) sc.names []).lookup y.1).isSome = true) := by
    rintro ⟨n, v⟩ hy
    exact (Sc.par n (List.of_mem_zip hy).1).elim .inl fun q => .inr ⟨q, PySem.W.cellsFrom_some _ _ _ (.inl q)⟩
  refine codeAny_call_function hr.depth (kin _ _ lk) rfl Sc.co Sc.gen rfl (PySem.W.codeRec_of kin hcd) (hb _ _ _ _ ?_)
  refine wpAny_newFunctionEnv_cells Sc.kind par fun env he s1 fr => ?_
  subst he
  refine ⟨(e0.mod.nolimit.keeps old).keeps fr.toInCall.keep, codeAny_func ?_⟩
  obtain ⟨t, h1, h2⟩ := hbody A outer s H vs Q E gd (hr.deeper _) hsp
  have J0 := inv_start (CX := CX) (P := P) (w := w) (K := K) (mg := mg) (base := base) (qual := qual) (f := f) (cd := cdv) (E := E) Sc hr.hd e0 hl r fr
  refine wpAny_mono (h1.run [] s1 (L2.start N vs) H _ J0 h2) (fun fl s2 z => ?_) fun _ _ z => z
  cases fl with
  | ret u =>
    obtain ⟨v, σ2, H2, J, rv, q⟩ := z
    exact ⟨v, H2, J.os, J.bare, J.base, J.hok, rv, q⟩
  | next =>
    obtain ⟨σ2, H2, J, q⟩ := z
    exact ⟨.non, H2, J.os, J.bare, J.base, J.hok, rfl, q⟩
  | brk =>
    obtain ⟨_, _, _, q⟩ := z
    exact False.elim q
  | cont =>
    obtain ⟨_, _, _, q⟩ := z
    exact False.elim q
end
theorem fn_dlG {P : Program} {w : World} {K : PySem.W.Frag} {mg : Str → Option Value} {base : Heap} {x qual : Str} {st : Stmt} {f : Addr} {fd : FuncData} {N ps : List Str} {k : Nat} {cl : Str → Option Value} {g : Nv → RS} {m : Nat}
    (F : Fun K x qual st f fd) (Sc : FnScope N ps (defScope st)) (hN : N.length = ps.length + m)
    (hbody : ∀ (cdv : Value) (A : Around) (outer : List Env) (s : Shared) (H : Hp) (E : XK), A.guards = some [] → Room k (A.deeper (envOfC qual (defScope st) s.heap.objs.size f cdv)) →
      ∃ t, PSs (cxOf (L2.CX P w) P w K mg base N qual (defScope st) f cdv A outer s H E) (defBody st) t ∧ DS ⟨K, cl, fun _ => E⟩ t g) : FnG P w K mg base (L2.CX P w) (k + 1) f fd ps (spM K cl ps.length (body m g)) := by
  obtain ⟨oc, od, kV, doc, pm, an, cdv, ct, osl, rfl, lk, hcd⟩ := F.ex
  refine fnG_of lk hcd Sc (fun vs H Q E h => h.1) fun A outer s H vs Q E gd hr hsp => ?_
  obtain ⟨t, h1, h2⟩ := hbody cdv A outer s H E gd hr
  obtain ⟨hl, S, as, R, sub, nf, hf⟩ := hsp
  refine ⟨t, h1, ?_⟩
  have e : L2.start N vs = vs.map some ++ List.replicate m none := by
    unfold L2.start
    rw [hN, hl]
    congr 2
    omega
  rw [e]
  refine h2 S H _ H _ _ (Rel.start (c := ⟨K, cl, fun _ => E⟩) R) ⟨vs.map some, as, sub, ⟨fun a o z q => q, fun a z => .inl (own_app R.len a z), fun a z => z, fun i ds q => ?_⟩⟩ (OkF.body (c := ⟨K, cl, fun _ => E⟩) (fun _ _ => rfl) R sub nf hf)
  have hi : i < as.length := (List.getElem?_eq_some_iff.mp q).1
  exact ⟨by rw [List.getElem?_append_left (by rw [← R.len]; exact hi)], ds, by rw [List.getElem?_append_left hi]; exact q⟩
mutual
theorem PD.noDict : ∀ {d : PD}, SeqAt.shaped d = true → d.hasDict = false := fun {d} h => PyData.hasDict_of_canLay d (SeqAt.canLay_of_shaped h)
end
def rStr (K : PySem.W.Frag) : List V → Hp → VK → Prop := fun vs H Q => ∃ a d, vs = [.ref a] ∧ Dp K H (.ref a) d ∧ SeqAt.shaped d = true ∧ d.showable = true ∧ d.shown.length ≤ sizeLine ∧ Q (.str d.shown) H
theorem cr_str {X : Cx} (gd : X.A.guards = some []) (hu : X.A.units + 200 < cLine) : CallR X (.type "str") (rStr X.K) := by
  intro pins s σ H xs us Q I r h
  obtain ⟨a, d, rfl, hd, h1, h2, h3, q⟩ := h
  obtain ⟨u, rfl, ru⟩ := vals1 r
  cases ru
  obtain ⟨as, rd⟩ := Dp.reads I d _ _ hd rfl
  have hz := SeqAt.depth_of_shaped h1
  refine str_of_reads rd h2 (fun z => ?_) gd (by omega) (fun b o e => e) (fun h' t tk kp => ?_) h3
  · rw [PD.noDict h1] at z
    cases z
  · exact ⟨.str d.shown, H, I.kept (t' := tk) kp, ⟨t, rfl⟩, q⟩
def gStr : List PD → Option PD
  | [.list ds] => if (SeqAt.shaped (.list ds) && PyData.showable (.list ds) && lineB (PyData.shown (.list ds)).length) = true then some (.str (PyData.shown (.list ds))) else none
  | _ => none
theorem str_ok {K : PySem.W.Frag} : CopOk K (rStr K) gStr := fun A H Q vs ds d na w e k => by
  unfold gStr at e
  split at e
  · split at e
    · rename_i xs q
      cases e
      simp only [Bool.and_eq_true] at q
      obtain ⟨v, rfl, h⟩ := dws1 w
      obtain ⟨p, us, rfl, _, _⟩ := h.lst
      exact ⟨p, .list xs, rfl, h.dp, q.1.1, q.1.2, of_decide_eq_true q.2, k _ H .refl (.str _)⟩
    · cases e
  · cases e
end Dl
set_option Elab.async false
set_option linter.all false
set_option maxRecDepth 100000
set_option maxHeartbeats 3200000
namespace Dl
open PySem PySem.Spec PyProof.Rows L2
section
variable {P : Program} {w : World} {A : Around} {E : Value → Shared → Prop} {s : Shared}
abbrev eso (w : World) : Obj := { cls := .type "set", dict := none, data := .set #[] 0 (.fresh 0 0 (!w.params.followText "set-order")) }
theorem set_of_list {l : Addr} {items : Array Value} (ns : List Int) {Q : Value → Shared → Prop} (hh : A.handled = none) (hl : s.heap.IsList l items) (hit : IntsAre items.toList ns) (hb : ns.length + 1 < scanBound)
    (h : ∀ (h' : Heap) (tk c : Nat), SetR w h' s.heap.objs.size (fun j => decide (j ∈ ns)) c → c ≤ ns.length → (∀ b o, s.heap.get? b = some o → h'.get? b = some o) → Q (.ref s.heap.objs.size) { s with heap := h', toks := tk }) :
    wpAny (model P w) A (call (.type "set") [.ref l]) Q E s := by
  have isz : items.size = ns.length := by have q := IntsAre.length hit; rw [Array.length_toList] at q; exact q
  obtain ⟨c, tl, mro⟩ := F.called_set.mro
  have made := F.called_set.made; have sub := F.called_set.sub
  refine wpAny_call (codeAny_of_tree (show wpAny _ _ (callAny (.type "set") _) _ _ _ from wpAny_pure ⟨Code.quiet_builtin _ (by decide +kernel), codeAny_builtin F.entry_type_call ?_⟩))
  rw [Around.under_plain (weight_type_call_type "set" [.ref l] []) rfl]
  have h1 := F.called_set.notType; have h2 := F.called_set.canCreate; have hct := F.typeCall_set_1 (.ref l)
  repeat (any_goals (first | assumption | wp_step))
  refine codeAny_mono (code_set_led1 (.ref l) (E := E) (Q₁ := fun obj s₁ => obj = .ref s.heap.objs.size ∧ s₁ = { s with heap := s.heap.push (eso w) }) ⟨rfl, rfl⟩) fun r s₁ hr => ?_
  cases r with
  | error e => exact hr
  | ok fl =>
    cases fl with
    | ret obj =>
      obtain ⟨rfl, rfl⟩ := hr
      have hS : (s.heap.push (eso w)).get? s.heap.objs.size = some (eso w) := Heap.get?_push_size _ rfl
      have hT : Shared.TypeIs { s with heap := s.heap.push (eso w) } (.ref s.heap.objs.size) "set" := ⟨_, hS, rfl⟩
      have li := F.called_set.init.lookup; have bi := F.called_set.init.bind (.ref s.heap.objs.size)
      repeat (any_goals (first | assumption | wp_step))
      refine codeAny_mono (codeAny_call_builtin (R := wants (fun r s₂ => r = .none ∧ ∃ h' tk c, s₂ = { s with heap := h', toks := tk } ∧ SetR w h' s.heap.objs.size (fun j => decide (j ∈ ns)) c ∧ c ≤ ns.length ∧ (∀ b o, s.heap.get? b = some o → h'.get? b = some o)) E) F.called_set.init.plain F.entry_set_init (check_set_init_1 hT ?_)) fun r₂ s₂ hr₂ => ?_
      · obtain ⟨⟨oc, od, odt, osl⟩, hol, hcl, nl, hdl⟩ := hl
        simp only at hcl hdl
        subst hcl hdl
        have hol' : (s.heap.push (eso w)).get? l = some { cls := .type "list", dict := od, data := .seq items nl, slots := osl } := Heap.get?_push_of_some _ hol
        have s1 := F.sub_list_set; have s2 := F.sub_list_frozenset; have ne : (Value.type "list" == Value.type "dict") = false := by decide
        have hl1 : (s.heap.push (eso w)).IsList l items := ⟨_, hol', rfl, nl, rfl⟩
        unfold Builtin.«set.__init__» noKeywords Builtin.Frozenset.updateFrom
        generalize hPI : pyIter = PI
        wp_walk
        subst hPI
        refine wpAny_pyIter_list hl1 (wpAny_bind (wpAny_runValue ?_))
        have lS : l < s.heap.objs.size := Heap.lt_size hol
        have hh3 : A.in1.in1.in1.handled = none := by simp [hh]
        have z1 : (s.heap.push (eso w)).objs.size = s.heap.objs.size + 1 := Heap.size_push ..
        have nI : l ≠ (s.heap.push (eso w)).objs.size := by rw [z1]; exact Nat.ne_of_lt (Nat.lt_succ_of_lt lS)
        have nf : s.heap.objs.size ∉ [(s.heap.push (eso w)).objs.size, l] := by
          rw [z1]
          simp only [List.mem_cons, List.not_mem_nil, or_false, not_or]
          exact ⟨Nat.ne_of_lt (Nat.lt_succ_self _), Nat.ne_of_gt lS⟩
        have val : ∀ (i : Nat) (v : Value), items[i]? = some v → ∃ k t, ns[i]? = some k ∧ v = .int k t := fun i v hv => by
          have hi : i < ns.length := by rw [← isz]; exact (Array.getElem?_eq_some_iff.mp hv).1
          obtain ⟨t, e⟩ := PyProof.Rows.IntsAre.int_at hit i v (by rw [Array.getElem?_toList]; exact hv)
          exact ⟨ns[i], t, List.getElem?_eq_getElem hi, by rw [e, List.getD_eq_getElem?_getD, List.getElem?_eq_getElem hi] <;> rfl⟩
        refine set_update_ints ((Walks.list hh3 _ l nI items).toS) s.heap.objs.size nf ns isz hb val (items.size - 0) 0 _ (by omega) (Nat.zero_le _) ⟨⟨_, Heap.get?_push_size _ rfl, rfl, rfl⟩, (hl1.push _)⟩ ⟨0, Nat.le_refl 0, setR_new_at (Heap.get?_push_of_some _ hS)⟩ fun s' c' hm hc' hS' => ?_
        obtain ⟨h', g2, d', tk', os'⟩ := s'
        obtain rfl : g2 = s.gens := hm.gens
        obtain rfl : d' = s.drawn := hm.drawn
        obtain rfl : os' = s.os := hm.os
        rw [isz] at hc'
        show wpAny _ _ _ _ _ _
        refine wpAny_pure (show wpAny _ _ (PySem.ret Value.none) _ _ _ from wpAny_pure ⟨rfl, h', tk', c', rfl, hS', hc', fun b o e => ?_⟩)
        have b0 : b < s.heap.objs.size := Heap.lt_size e
        refine hm.heap b o ?_ (Heap.get?_push_of_some _ (Heap.get?_push_of_some _ e))
        simp only [List.mem_cons, List.not_mem_nil, or_false, not_or]
        exact ⟨Nat.ne_of_lt b0, by rw [z1]; exact Nat.ne_of_lt (Nat.lt_succ_of_lt b0)⟩
      · cases r₂ with
        | error e => exact hr₂
        | ok fl₂ =>
          cases fl₂ with
          | ret r =>
            obtain ⟨rfl, h', tk, c', rfl, hS', hc', hk'⟩ := hr₂
            repeat (any_goals (first | assumption | wp_step))
            exact h _ _ _ hS' hc' hk'
          | _ => exact hr₂.elim
    | _ => exact hr.elim
end
section
variable {X : Cx}
def rSetI (K : PySem.W.Frag) (w : World) : List V → Hp → VK → Prop := fun xs H Q => ∃ (l : Addr) (ns : List Int), xs = [.ref l] ∧ SqL K H l (ns.map V.int) ∧ ns.length < 64 ∧
  ∀ p c, H p = none → c ≤ ns.length → Q (.ref p) (L2.upd H p (SetO w p (fun j => decide (j ∈ ns)) c))
theorem cr_setI (hc : X.calm = true) : CallR X (.type "set") (rSetI X.K X.w) := by
  intro pins s σ H xs us Q I r h
  obtain ⟨l, ns, rfl, hl, h64, q⟩ := h
  rw [Vals.ref1 r]
  obtain ⟨its, rv, pl, hz⟩ := I.list hl
  refine set_of_list ns (I.ok.hd hc) pl.isList rv.ints (by have : scanBound = scanBound := rfl; unfold scanBound; omega) fun h' tk c R hc' k => ?_
  exact ⟨.ref s.heap.objs.size, _, I.laid (t' := tk) k (Nat.le_refl _) (setO_new R), rfl, q _ c (I.hok.fresh (Nat.le_refl _)) hc'⟩
end
def insU (x : Int) : List Int → List Int
  | [] => [x]
  | y :: r => if x < y then x :: y :: r else if x = y then y :: r else y :: insU x r
def uniqI : List Int → List Int
  | [] => []
  | x :: r => insU x (uniqI r)
theorem mem_insU {x k : Int} : ∀ {l : List Int}, k ∈ insU x l ↔ k = x ∨ k ∈ l
  | [] => by simp [insU]
  | y :: r => by
    unfold insU
    split
    · simp
    · split
      · rename_i h
        subst h
        simp
      · simp [mem_insU (l := r)]
        constructor <;> rintro (h | h | h) <;> simp [h]
theorem mem_uniqI {k : Int} : ∀ {l : List Int}, k ∈ uniqI l ↔ k ∈ l
  | [] => by simp [uniqI]
  | x :: r => by simp [uniqI, mem_insU, mem_uniqI (l := r)]
theorem pw_insU {x : Int} : ∀ {l : List Int}, l.Pairwise (· < ·) → (insU x l).Pairwise (· < ·)
  | [], _ => by simp [insU]
  | y :: r, h => by
    unfold insU
    rw [List.pairwise_cons] at h
    split
    · rename_i q
      rw [List.pairwise_cons]
      refine ⟨fun a ha => ?_, List.pairwise_cons.mpr h⟩
      rcases List.mem_cons.mp ha with rfl | ha
      · exact q
      · have := h.1 a ha; omega
    · split
      · exact List.pairwise_cons.mpr h
      · rename_i q1 q2
        rw [List.pairwise_cons]
        refine ⟨fun a ha => ?_, pw_insU h.2⟩
        rcases mem_insU.mp ha with rfl | ha
        · omega
        · exact h.1 a ha
theorem pw_uniqI : ∀ l : List Int, (uniqI l).Pairwise (· < ·)
  | [] => .nil
  | x :: r => pw_insU (pw_uniqI r)
theorem uniq_eq {l1 l2 : List Int} (h1 : l1.Pairwise (· < ·)) (h2 : l2.Pairwise (· < ·)) (h : ∀ k, k ∈ l1 ↔ k ∈ l2) : l1 = l2 := by
  have n1 : l1.Nodup := h1.imp fun h => Int.ne_of_lt h
  have n2 : l2.Nodup := h2.imp fun h => Int.ne_of_lt h
  have p : l1.Perm l2 := (List.perm_ext_iff_of_nodup n1 n2).mpr h
  exact sort_uniq p (h1.imp fun h => Int.le_of_lt h) (h2.imp fun h => Int.le_of_lt h)
def gSetS : List PD → Option (List PD)
  | [.list ds] => match intsOf ds with
    | some ns => if decide (ns.length < 64) = true then some ((uniqI ns).map .int) else none
    | none => none
  | _ => none
def rSortSet (K : PySem.W.Frag) (w : World) : List V → Hp → VK → Prop := fun xs H Q => rSetI K w xs H fun v H1 => rSortedSet w [v] H1 Q
theorem sset_ok {K : PySem.W.Frag} {w : World} : ∀ (A : AS) (H : Hp) (Q : VK) (vs : List V) (ds es : List PD), (∀ a, A a → H a ≠ none) → Dws K H A vs ds → gSetS ds = some es →
    (∀ p H1 us, NewH H H1 → H1 p = none → DvA K H1 A us es → Q (.ref p) (L2.upd H1 p (.lst us))) → rSortSet K w vs H Q := fun A H Q vs ds es na wd e k => by
  unfold gSetS at e
  split at e
  · split at e
    · rename_i ds ns en
      split at e
      · rename_i q
        cases e
        have q := of_decide_eq_true q
        obtain ⟨v, rfl, h⟩ := dws1 wd
        obtain ⟨p, us, rfl, h1, h2⟩ := h.lst
        refine ⟨p, ns, rfl, ints_of h2 en ▸ h1, q, fun r c nr hc => ⟨r, _, c, rfl, upd_same, by omega, fun ms t pw mem _ nt => ?_⟩⟩
        have e2 : ms = uniqI ns := uniq_eq pw (pw_uniqI ns) fun k => by rw [mem]; simp [mem_uniqI]
        subst e2
        exact k t _ _ (.upd nr) nt (dvInts _)
      · cases e
    · cases e
  · cases e
theorem do_sset {c : Cz} {w : World} {ta : TA} {fr : Nv → Rs (List Ar)} (ha : DA c ta fr) : DO c (tCB (rSortedSet w) (tCons (tCB (rSetI c.K w) ta) tNil)) (oCb gSetS fr) := fun S σ H n Q R h => by
  refine ha S σ H n _ R (OkG.bind h fun vs as n1 H1 s1 k1 R1 va h1 => ?_)
  obtain ⟨ds, e1, h1⟩ := h1.lft
  obtain ⟨es, e2, h1⟩ := h1.lft
  exact sset_ok (AV S σ n1) H1 Q vs ds es R1.avSome (va.dws R1 e1) e2 fun p H2 us g np hv => h1.ret (g.trans (.upd np)) ((R1.ext g).new np) ⟨p, rfl, s1.non ((Stp.grown (σ := σ) (n := n1) g).non np), .new (R1.ext g) np hv⟩
end Dl
set_option Elab.async false
set_option linter.all false
set_option maxRecDepth 100000
namespace Dl
open PySem PySem.Spec PyProof.Rows L2
def in64 (x : Int) : Bool := decide (0 ≤ x) && decide (x < 64)
def prsOf : List PD → Option (List (Int × Int))
  | [] => some []
  | .tuple [.int x, .int y] :: r => if (in64 x && in64 y) = true then (prsOf r).map ((x, y) :: ·) else none
  | _ => none
def cdP (p : Int × Int) : Int := p.1 * 64 + p.2
def deP (n : Int) : PD := .tuple [.int (n / 64), .int (n % 64)]
def gSetP : List PD → Option (List PD)
  | [.list ds] => match prsOf ds with
    | some ps => if decide (ps.length < 64) = true then some ((uniqI (ps.map cdP)).map deP) else none
    | none => none
  | _ => none
section
variable {K : PySem.W.Frag} {H : Hp} {A : AS}
def PrAt (K : PySem.W.Frag) (H : Hp) (A : AS) (q : Addr × List Int) : Prop := TAv K H A q.1 (q.2.map V.int) ∧ ∃ x y, q.2 = [x, y] ∧ in64 x = true ∧ in64 y = true
theorem prs_of : ∀ {vs : List V} {ds : List PD} {ps : List (Int × Int)}, DvA K H A vs ds → prsOf ds = some ps → ∃ ks : List (Addr × List Int), vs = ks.map (fun q => V.ref q.1) ∧ ks.map (·.2) = ps.map (fun p => [p.1, p.2]) ∧ ∀ q ∈ ks, PrAt K H A q
  | _, _, ps, .nil, e => by cases e; exact ⟨[], rfl, rfl, fun q h => by cases h⟩
  | _, d :: ds, ps, .cons h t, e => by
    unfold prsOf at e
    split at e
    · rename_i x; cases x
    · rename_i _ x y r hq
      injection hq with e1 e2
      subst e1 e2
      split at e
      · rename_i q
        obtain ⟨ps', e3, e4⟩ := Option.map_eq_some_iff.mp e
        subst e4
        obtain ⟨ks, h1, h2, h3⟩ := prs_of t e3
        simp only [Bool.and_eq_true] at q
        cases h with
        | tup hl ha =>
          rename_i a xs
          cases ha with
          | cons a1 ha =>
            cases ha with
            | cons a2 ha =>
              cases ha
              cases a1
              cases a2
              refine ⟨(a, [x, y]) :: ks, by rw [h1]; rfl, by simp [h2], fun q' hm => ?_⟩
              rcases List.mem_cons.mp hm with rfl | hm
              · exact ⟨hl, x, y, rfl, q.1, q.2⟩
              · exact h3 q' hm
      · cases e
    · cases e
theorem in64_of {x : Int} (h : in64 x = true) : 0 ≤ x ∧ x < 64 := by
  unfold in64 at h
  simpa using h
theorem cd_de {x y : Int} (hx : in64 x = true) (hy : in64 y = true) : deP (x * 64 + y) = .tuple [.int x, .int y] := by
  have h1 := in64_of hx
  have h2 := in64_of hy
  unfold deP
  have e1 : (x * 64 + y) / 64 = x := by omega
  have e2 : (x * 64 + y) % 64 = y := by omega
  rw [e1, e2]
theorem pr_bd {q : Addr × List Int} (h : PrAt K H A q) : q.2.length = 2 ∧ TS.Bd 64 q.2 := by
  obtain ⟨_, x, y, e, hx, hy⟩ := h
  rw [e]
  refine ⟨rfl, fun m hm => ?_⟩
  have h1 := in64_of hx
  have h2 := in64_of hy
  rcases List.mem_cons.mp hm with rfl | hm
  · exact h1
  · rw [List.mem_singleton.mp hm]
    exact h2
theorem PrAt.mono {S A' : AS} {H' : Hp} {q} (h : PrAt K H A q) (e : Ext S H H') (sa : ∀ a, S a → A a) (s : ∀ a, A' a → A a ∨ H a = none) : PrAt K H' A' q := ⟨h.1.mono e sa s, h.2⟩
theorem dv_prs : ∀ {L : List (Addr × List Int)}, (∀ q ∈ L, PrAt K H A q) → DvA K H A (L.map fun q => V.ref q.1) ((L.map fun q => TS.code 64 q.2).map deP)
  | [], _ => .nil
  | q :: r, h => by
    obtain ⟨h1, x, y, e, hx, hy⟩ := h q (List.mem_cons_self ..)
    obtain ⟨a, l⟩ := q
    have e : l = [x, y] := e
    subst e
    refine .cons ?_ (dv_prs fun q hq => h q (List.mem_cons_of_mem _ hq))
    show Dv K H A (.ref a) (deP (TS.code 64 [x, y]))
    rw [L2.code_pair, cd_de hx hy]
    exact .tup h1 (.cons (.int x) (.cons (.int y) .nil))
end
def rSortSetP (K : PySem.W.Frag) (P : Program) (w : World) : List V → Hp → VK → Prop := fun xs H Q => rSetOfT K P w xs H fun v H1 => rSortedT K P w [v] H1 Q
theorem ssetP_ok {K : PySem.W.Frag} {P : Program} {w : World} : ∀ (A : AS) (H : Hp) (Q : VK) (vs : List V) (ds es : List PD), (∀ a, A a → H a ≠ none) → Dws K H A vs ds → gSetP ds = some es →
    (∀ p H1 us, NewH H H1 → H1 p = none → DvA K H1 A us es → Q (.ref p) (L2.upd H1 p (.lst us))) → rSortSetP K P w vs H Q := fun A H Q vs ds es na wd e k => by
  unfold gSetP at e
  split at e
  · split at e
    · rename_i ds ps en
      split at e
      · rename_i q
        cases e
        have q := of_decide_eq_true q
        obtain ⟨v, rfl, h⟩ := dws1 wd
        obtain ⟨p, us, rfl, h1, h2⟩ := h.lst
        obtain ⟨ks, e1, e2, e3⟩ := prs_of h2 en
        have lk : ks.length = ps.length := by
          have := congrArg List.length e2
          simpa using this
        refine ⟨p, ks, rfl, e1 ▸ h1, fun q hq => (e3 q hq).1.sq, by omega, fun r L nr sub all => ?_⟩
        have g : NewH H (L2.upd H r (SetTO P w r L)) := .upd nr
        have mv : ∀ q ∈ L, PrAt K (L2.upd H r (SetTO P w r L)) A q := fun q hq => (e3 q (sub q hq)).mono (S := fun _ => False) (fun a o _ e => g a o e) (fun _ z => z.elim) fun a z => .inl z
        refine ⟨r, L, 2, 64, rfl, upd_same, fun q hq => (mv q hq).1.sq, by decide, fun q hq => pr_bd (mv q hq), fun L' t pm nd _ pw nt => ?_⟩
        have mv' : ∀ q ∈ L', PrAt K (L2.upd H r (SetTO P w r L)) A q := fun q hq => mv q (pm.mem_iff.mp hq)
        have ec : L'.map (fun q => TS.code 64 q.2) = uniqI (ps.map cdP) := by
          refine uniq_eq ?_ (pw_uniqI _) fun c => ?_
          · rw [List.pairwise_map]
            have nd2 : L'.Pairwise fun a b => a.2 ≠ b.2 := by
              have := nd
              unfold List.Nodup at this
              rwa [List.pairwise_map] at this
            have both := List.Pairwise.and pw nd2
            refine List.Pairwise.imp_of_mem (fun {a b} ha hb ⟨h1, h2⟩ => ?_) both
            obtain ⟨_, x, y, ea, hx, hy⟩ := mv' a ha
            obtain ⟨_, x', y', eb, hx', hy'⟩ := mv' b hb
            rw [ea, eb, L2.code_pair, L2.code_pair] at h1 ⊢
            rw [ea, eb] at h2
            have b1 := in64_of hx
            have b2 := in64_of hy
            have b3 := in64_of hx'
            have b4 := in64_of hy'
            have ne : x * 64 + y ≠ x' * 64 + y' := fun e => h2 (by
              have z1 : x = x' := by omega
              have z2 : y = y' := by omega
              rw [z1, z2])
            omega
          · rw [mem_uniqI]
            simp only [List.mem_map]
            constructor
            · rintro ⟨q, hq, rfl⟩
              have hk := sub q (pm.mem_iff.mp hq)
              have : q.2 ∈ ks.map (·.2) := List.mem_map.mpr ⟨q, hk, rfl⟩
              rw [e2] at this
              obtain ⟨p', hp', e4⟩ := List.mem_map.mp this
              refine ⟨p', hp', ?_⟩
              rw [← e4, L2.code_pair]
              rfl
            · rintro ⟨p', hp', rfl⟩
              have : [p'.1, p'.2] ∈ ks.map (·.2) := by
                rw [e2]
                exact List.mem_map.mpr ⟨p', hp', rfl⟩
              obtain ⟨q0, hq0, e5⟩ := List.mem_map.mp this
              have := all q0 hq0
              obtain ⟨q1, hq1, e6⟩ := List.mem_map.mp this
              refine ⟨q1, pm.mem_iff.mpr hq1, ?_⟩
              rw [e6, e5, L2.code_pair]
              rfl
        have fin := dv_prs mv'
        rw [ec] at fin
        exact k t _ _ g nt fin
      · cases e
    · cases e
  · cases e
theorem do_ssetP {c : Cz} {P : Program} {w : World} {ta : TA} {fr : Nv → Rs (List Ar)} (ha : DA c ta fr) : DO c (tCB (rSortedT c.K P w) (tCons (tCB (rSetOfT c.K P w) ta) tNil)) (oCb gSetP fr) := fun S σ H n Q R h => by
  refine ha S σ H n _ R (OkG.bind h fun vs as n1 H1 s1 k1 R1 va h1 => ?_)
  obtain ⟨ds, e1, h1⟩ := h1.lft
  obtain ⟨es, e2, h1⟩ := h1.lft
  exact ssetP_ok (P := P) (w := w) (AV S σ n1) H1 Q vs ds es R1.avSome (va.dws R1 e1) e2 fun p H2 us g np hv => h1.ret (g.trans (.upd np)) ((R1.ext g).new np) ⟨p, rfl, s1.non ((Stp.grown (σ := σ) (n := n1) g).non np), .new (R1.ext g) np hv⟩
end Dl
set_option Elab.async false
set_option linter.all false
set_option maxRecDepth 100000
namespace Dl
open PySem PySem.Spec PyProof.Rows L2
structure EX (X : Cx) (c : Cz) (e : Expr) (t : TE) (f : Nv → Rs Ar) : Prop where
  p : PE X e t
  d : DE c t f
structure OX (X : Cx) (c : Cz) (e : Expr) (t : TE) (f : Nv → Rs (List PD)) : Prop where
  p : PE X e t
  d : DO c t f
structure TX (X : Cx) (c : Cz) (e : Expr) (t : TT) (f : Nv → Rs Bool) : Prop where
  p : PT X e t
  d : DT c t f
structure WX' (X : Cx) (c : Cz) (e : Expr) (t : TT) (f : Nv → Rs Bool) : Prop where
  p : PW X e t
  d : DT c t f
structure AX (X : Cx) (c : Cz) (es : List Expr) (t : TA) (f : Nv → Rs (List Ar)) : Prop where
  p : PA X es t
  d : DA c t f
structure KX (X : Cx) (c : Cz) (ks : List Keyword) (t : TA) (f : Nv → Rs (List Ar)) : Prop where
  p : PK X ks t
  d : DA c t f
structure GX (X : Cx) (c : Cz) (e : Expr) (t : TG) (f : PD → Nv → Option Nv) : Prop where
  p : PG X e t
  d : DG c t f
structure GsX (X : Cx) (c : Cz) (es : List Expr) (t : TGs) (f : List PD → Nv → Option Nv) : Prop where
  p : PGs X es t
  d : DGs c t f
structure IX (X : Cx) (c : Cz) (tg e : Expr) (t : TI) (f : Nv → Rs (List PD)) : Prop where
  p : PI X tg e t
  d : DI c t f
structure SX (X : Cx) (c : Cz) (s : Stmt) (t : TS) (f : Nv → RS) : Prop where
  p : PS X s t
  d : DS c t f
structure BX (X : Cx) (c : Cz) (ss : List Stmt) (t : TS) (f : Nv → RS) : Prop where
  p : PSs X ss t
  d : DS c t f
section
variable {X : Cx} {c : Cz} {a b e e2 tg : Expr} {ta tb te : TE} {fa fb fe : Nv → Rs Ar} {tt uu : TT} {ft fu : Nv → Rs Bool} {pos p p2 : Pos} {es rest : List Expr} {tA : TA} {fA : Nv → Rs (List Ar)} {fo : Nv → Rs (List PD)}
theorem xv (i : Nat) {x : Str} (hN : X.N[i]? = some x := by rfl) (hv : Vis X.env.scope x := by first | exact Or.inl rfl | exact Or.inr (Or.inl rfl) | exact Or.inr (Or.inr rfl)) (hd : (x == ("__debug__" : Str)) = false := by decide)
    (hcd : (x == ("__classdict__" : Str)) = false := by decide) : EX X c (.Name x pos) (tVar i) (eV i) := ⟨pe_var hN hv hd hcd, de_var⟩
theorem xi {i : Int} {j} : EX X c (.Constant (.int i) j pos) (tC (.int i)) (eC (.int i)) := ⟨pe_int, de_int⟩
theorem xb {i : Bool} {j} : EX X c (.Constant (.bool i) j pos) (tC (.bl i)) (eC (.bool i)) := ⟨pe_bl, de_bl⟩
theorem xn {j} : EX X c (.Constant .none j pos) (tC .non) (eC .none) := ⟨pe_non, de_non⟩
theorem xs {x : Str} {j} : EX X c (.Constant (.str x) j pos) (tC (.str x)) (eC (.str x)) := ⟨pe_str, de_str⟩
theorem xg {x : Str} {v : V} {u : Value} {d : PD} (hg : Gl X x) (hm : X.mg x = some u) (r : RelV v u) (h : ∀ H A, Dv c.K H A v d) (hd : (x == ("__debug__" : Str)) = false := by decide) : EX X c (.Name x pos) (tC v) (eC d) := ⟨pe_glob hg hm r hd, de_glob h⟩
theorem xadd (h1 : EX X c a ta fa) (h2 : EX X c b tb fb) (hK : c.K = X.K := by rfl) : EX X c (.BinOp a .Add b pos) (tOp (rAddD c.K) ta tb) (eBin gAdd fa fb) := ⟨hK ▸ pe_op op_addD h1.p h2.p, de_bin addD_ok h1.d h2.d⟩
theorem xsub (h1 : EX X c a ta fa) (h2 : EX X c b tb fb) : EX X c (.BinOp a .Sub b pos) (tOp (rI0 fun i j => .int (i - j)) ta tb) (eBin gSub fa fb) := ⟨pe_op op_sub h1.p h2.p, de_bin sub_ok h1.d h2.d⟩
theorem xmul (h1 : EX X c a ta fa) (h2 : EX X c b tb fb) (hK : c.K = X.K := by rfl) : EX X c (.BinOp a .Mult b pos) (tOp (rMulD c.K) ta tb) (eBin gMul fa fb) := ⟨hK ▸ pe_op op_mulD h1.p h2.p, de_bin mulD_ok h1.d h2.d⟩
theorem xmod (h1 : EX X c a ta fa) (h2 : EX X c b tb fb) : EX X c (.BinOp a .Mod b pos) (tOp (rI (fun _ j => 0 < j) fun i j => .int (i % j)) ta tb) (eBin gMod fa fb) := ⟨pe_op op_mod h1.p h2.p, de_bin mod_ok h1.d h2.d⟩
theorem xdiv (h1 : EX X c a ta fa) (h2 : EX X c b tb fb) : EX X c (.BinOp a .FloorDiv b pos) (tOp (rI CDivW fun i j => .int (i / j)) ta tb) (eBin gDiv fa fb) := ⟨pe_op op_fdivW h1.p h2.p, de_bin div_ok h1.d h2.d⟩
theorem xpow (h1 : EX X c a ta fa) (h2 : EX X c b tb fb) : EX X c (.BinOp a .Pow b pos) (tOp (rI CPow fun i j => .int (i ^ j.toNat)) ta tb) (eBin gPow fa fb) := ⟨pe_op op_pow h1.p h2.p, de_bin pow_ok h1.d h2.d⟩
theorem xshl (h1 : EX X c a ta fa) (h2 : EX X c b tb fb) : EX X c (.BinOp a .LShift b pos) (tOp (rI CPow fun i j => .int (i * 2 ^ j.toNat)) ta tb) (eBin gShl fa fb) := ⟨pe_op op_shl h1.p h2.p, de_bin shl_ok h1.d h2.d⟩
theorem xbor (h1 : EX X c a ta fa) (h2 : EX X c b tb fb) : EX X c (.BinOp a .BitOr b pos) (tOp (rI0 fun i j => .int (Builtin.bitOr i j)) ta tb) (eBin gOr fa fb) := ⟨pe_op op_or h1.p h2.p, de_bin or_ok h1.d h2.d⟩
theorem xneg (h1 : EX X c a ta fa) : EX X c (.UnaryOp .USub a pos) (tUn (rU fun i => .int (-i)) ta) (eUn (fun | .int i => some (.int (-i)) | _ => none) fa) := ⟨pe_un un_neg h1.p, de_un (fun A H Q x dx d na w e k => by
  split at e
  · cases e
    exact ⟨_, w.int, k _ H .refl (.int _)⟩
  · cases e) h1.d⟩
structure CmpX (X : Cx) (c : Cz) (op : CmpOp) (r : R2) (g : PD → PD → Option PD) : Prop where
  p : OpR X (compareOp op) r
  d : BopOk c.K r g
theorem c_lt : CmpX X c .Lt (rI0 fun i j => .bl (decide (i < j))) gLt := ⟨op_lt, lt_ok⟩
theorem c_le : CmpX X c .LtE (rI0 fun i j => .bl (decide (i ≤ j))) gLe := ⟨op_le, le_ok⟩
theorem c_gt : CmpX X c .Gt (rI0 fun i j => .bl (decide (j < i))) gGt := ⟨op_gt, gt_ok⟩
theorem c_ge : CmpX X c .GtE (rI0 fun i j => .bl (decide (j ≤ i))) gGe := ⟨op_ge, ge_ok⟩
theorem c_eq {k : Nat} (hr : Room k X.A) (hK : c.K = X.K := by rfl) : CmpX X c .Eq (rEqD c.K) (gEq false) := ⟨hK ▸ op_eqD hr.units, eq_ok⟩
theorem c_ne {k : Nat} (hr : Room k X.A) (hK : c.K = X.K := by rfl) : CmpX X c .NotEq (rNeD c.K) (gEq true) := ⟨hK ▸ op_neD hr.units, ne_ok⟩
theorem c_in {k : Nat} (hr : Room k X.A) (hK : c.K = X.K := by rfl) : CmpX X c .In (rInB c.K false) (gIn false) := ⟨hK ▸ op_inB (by have := hr.un; omega), in_ok⟩
theorem c_nin {k : Nat} (hr : Room k X.A) (hK : c.K = X.K := by rfl) : CmpX X c .NotIn (rInB c.K true) (gIn true) := ⟨hK ▸ op_notInB (by have := hr.un; omega), in_ok⟩
theorem c_isB : CmpX X c .Is (rIsB false) (gIsB false) := ⟨op_isB, isB_ok⟩
theorem c_isnB : CmpX X c .IsNot (rIsB true) (gIsB true) := ⟨op_isnotB, isB_ok⟩
theorem xcmp {op : CmpOp} {r : R2} {g} (h0 : CmpX X c op r g) (h1 : EX X c a ta fa) (h2 : EX X c b tb fb) (hm : behindInMarks op b = false := by first | exact nobehind _ (by decide) (by decide) | rfl) : EX X c (.Compare a [op] [b] pos) (tOp r ta tb) (eBin g fa fb) := ⟨pe_cmpR h0.p h1.p h2.p hm, de_bin h0.d h1.d h2.d⟩
theorem xtcmp {op : CmpOp} {r : R2} {g} (h0 : CmpX X c op r g) (h1 : EX X c a ta fa) (h2 : EX X c b tb fb) (hm : behindInMarks op b = false := by first | exact nobehind _ (by decide) (by decide) | rfl) : TX X c (.Compare a [op] [b] pos) (tTest (tOp r ta tb)) (tVal (eBin g fa fb)) := ⟨pt_cmpR h0.p h1.p h2.p hm, dt_test (de_bin h0.d h1.d h2.d)⟩
theorem xisn {j} (h1 : EX X c a ta fa) : EX X c (.Compare a [.Is] [.Constant .none j p2] pos) (tIsN ta) (eIsN false fa) := ⟨pe_cmp (pc_isN h1.p), de_isN h1.d⟩
theorem xisnn {j} (h1 : EX X c a ta fa) : EX X c (.Compare a [.IsNot] [.Constant .none j p2] pos) (tNotN ta) (eIsN true fa) := ⟨pe_cmp (pc_notN h1.p), de_notN h1.d⟩
theorem xtisn {j} (h1 : EX X c a ta fa) : TX X c (.Compare a [.Is] [.Constant .none j p2] pos) (tB (tIsN ta)) (tVal (eIsN false fa)) := ⟨pt_cmp (pc_isN h1.p), dt_val (de_isN h1.d)⟩
theorem xtisnn {j} (h1 : EX X c a ta fa) : TX X c (.Compare a [.IsNot] [.Constant .none j p2] pos) (tB (tNotN ta)) (tVal (eIsN true fa)) := ⟨pt_cmp (pc_notN h1.p), dt_val (de_notN h1.d)⟩
theorem xand (h1 : EX X c a ta fa) (h2 : EX X c (.BoolOp .And (b :: rest) pos) tb fb) : EX X c (.BoolOp .And (a :: b :: rest) pos) (tAndV ta tb) (eAnd fa fb) := ⟨pe_and h1.p h2.p, de_and h1.d h2.d⟩
theorem xor' (h1 : EX X c a ta fa) (h2 : EX X c (.BoolOp .Or (b :: rest) pos) tb fb) : EX X c (.BoolOp .Or (a :: b :: rest) pos) (tOrV ta tb) (eOr fa fb) := ⟨pe_or h1.p h2.p, de_or h1.d h2.d⟩
theorem xone {op} (h1 : EX X c a ta fa) : EX X c (.BoolOp op [a] pos) ta fa := ⟨pe_one h1.p, h1.d⟩
theorem xnot (h1 : EX X c a ta fa) : EX X c (.UnaryOp .Not a pos) (tNotV ta) (eNot fa) := ⟨pe_not h1.p, de_not h1.d⟩
theorem xife {q : Expr} (h0 : TX X c q tt ft) (h1 : EX X c a ta fa) (h2 : EX X c b tb fb) : EX X c (.IfExp q a b pos) (tIf tt ta tb) (eIf ft fa fb) := ⟨pe_ifExp h0.p h1.p h2.p, de_if h0.d h1.d h2.d⟩
theorem xix (h1 : EX X c a ta fa) (h2 : EX X c b tb fb) (hs : PlainIx b := by exact fun _ _ => rfl) (hK : c.K = X.K := by rfl) : EX X c (.Subscript a b pos) (tOp (rIx c.K) ta tb) (eBin gIx fa fb) := ⟨hK ▸ pe_ix ix_seq h1.p h2.p hs, de_bin ix_ok h1.d h2.d⟩
structure PX (X : Cx) (c : Cz) (e : Option Expr) (t : TO) (f : Nv → Rs (Option Int)) : Prop where
  p : PO X e t
  d : DPo c t f
theorem p_no : PX X c none tNoPart pN := ⟨po_none, dpo_none⟩
theorem p_so (h1 : EX X c a ta fa) : PX X c (some a) (tPart ta) (pS fa) := ⟨po_some h1.p, dpo_some h1.d⟩
theorem xsl {lo hi : Option Expr} {tl th : TO} {fl fh} (h1 : EX X c a ta fa) (h2 : PX X c lo tl fl) (h3 : PX X c hi th fh) (hK : c.K = X.K := by rfl) : EX X c (.Subscript a (.Slice lo hi none p2) pos) (tSl (rSlD c.K) ta tl th) (eSl fa fl fh) := ⟨hK ▸ pe_slice sl_D h1.p h2.p h3.p, de_sl h1.d h2.d h3.d⟩
theorem xt (h1 : EX X c a ta fa) (he : ∀ whole, isTrue a X.env whole = (do let v ← whole; standAt a.pos; holding [v] (truthy v)) := by intro _; rfl) : TX X c a (tB ta) (tVal fa) := ⟨pt_val h1.p he, dt_val h1.d⟩
theorem xtnot (h1 : TX X c a tt ft) : TX X c (.UnaryOp .Not a pos) (tNot tt) (tNotF ft) := ⟨pt_not h1.p, dt_not h1.d⟩
theorem xtw (h1 : WX' X c a tt ft) : TX X c a tt ft := ⟨h1.p.pt, h1.d⟩
theorem wand1 (h1 : TX X c a tt ft) : WX' X c (.BoolOp .And [a] pos) tt ft := ⟨pw_and1 h1.p, h1.d⟩
theorem wor1 (h1 : TX X c a tt ft) : WX' X c (.BoolOp .Or [a] pos) tt ft := ⟨pw_or1 h1.p, h1.d⟩
theorem wand (h1 : TX X c a tt ft) (h2 : WX' X c (.BoolOp .And (b :: rest) pos) uu fu) : WX' X c (.BoolOp .And (a :: b :: rest) pos) (tAnd tt uu) (tAndF ft fu) := ⟨pw_and h1.p h2.p, dt_and h1.d h2.d⟩
theorem wor (h1 : TX X c a tt ft) (h2 : WX' X c (.BoolOp .Or (b :: rest) pos) uu fu) : WX' X c (.BoolOp .Or (a :: b :: rest) pos) (tOr tt uu) (tOrF ft fu) := ⟨pw_or h1.p h2.p, dt_or h1.d h2.d⟩
theorem a0 : AX X c [] tNil aNil := ⟨pa_nil, da_nil⟩
theorem a1 (h1 : EX X c e te fe) (h2 : AX X c es tA fA) (hs : starEach (e :: es) X.env = (false, eval e X.env) :: starEach es X.env := by rfl) : AX X c (e :: es) (tCons te tA) (aCons fe fA) := ⟨pa_cons h1.p h2.p hs, da_cons h1.d h2.d⟩
theorem k0 : KX X c [] tNil aNil := ⟨pk_nil, da_nil⟩
theorem k1 {ks : List Keyword} {nm : Option Str} {kp : Pos} (h1 : EX X c e te fe) (h2 : KX X c ks tA fA) : KX X c (⟨nm, e, kp⟩ :: ks) (tCons te tA) (aCons fe fA) := ⟨pk_cons h1.p h2.p, da_cons h1.d h2.d⟩
theorem xtup {k} (h1 : AX X c es tA fA) : EX X c (.Tuple es k pos) (tTup tA) (eTup fA) := ⟨pe_tup h1.p, de_tup h1.d⟩
theorem olst (h1 : AX X c es tA fA) : OX X c (.List es pos) (tLst tA) (oLst fA) := ⟨pe_lst h1.p, do_lst h1.d⟩
theorem xof (h1 : OX X c a ta fo) : EX X c a ta (eOf fo) := ⟨h1.p, de_of h1.d⟩
theorem xcb {x : Str} {id : String} {r : List V → Hp → VK → Prop} {g} (hc : CallR X (.builtin id) r) (hd : CopOk c.K r g) (hg : Gl X x) (hm : X.mg x = none) (hv : bootBuiltins x = some (.builtin id)) (ha : AX X c (e :: es) tA fA) (hn : x ≠ "__name__" := by decide) (hdb : (x == ("__debug__" : Str)) = false := by decide)
    (he : starEach (e :: es) X.env = (false, eval e X.env) :: starEach es X.env := by rfl) (hpl : (backTo pos (starEach es X.env)).any (·.1) = false := by rfl) : EX X c (.Call (.Name x p) (e :: es) [] pos) (tCB r tA) (eCb g fA) := ⟨pe_callB hc hg hm hv ha.p hn hdb he hpl, de_cb hd ha.d⟩
theorem xct {x : Str} {T : String} {r : List V → Hp → VK → Prop} {g} (hc : CallR X (.type T) r) (hd : CopOk c.K r g) (hg : Gl X x) (hm : X.mg x = none) (hv : bootBuiltins x = some (.type T)) (ha : AX X c (e :: es) tA fA) (hn : x ≠ "__name__" := by decide) (hdb : (x == ("__debug__" : Str)) = false := by decide)
    (he : starEach (e :: es) X.env = (false, eval e X.env) :: starEach es X.env := by rfl) (hpl : (backTo pos (starEach es X.env)).any (·.1) = false := by rfl) : EX X c (.Call (.Name x p) (e :: es) [] pos) (tCB r tA) (eCb g fA) := ⟨pe_callTy hc hg hm hv ha.p hn hdb he hpl, de_cb hd ha.d⟩
theorem oct {x : Str} {T : String} {r : List V → Hp → VK → Prop} {g} (hc : CallR X (.type T) r) (hd : CopL c.K r g) (hg : Gl X x) (hm : X.mg x = none) (hv : bootBuiltins x = some (.type T)) (ha : AX X c (e :: es) tA fA) (hn : x ≠ "__name__" := by decide) (hdb : (x == ("__debug__" : Str)) = false := by decide)
    (he : starEach (e :: es) X.env = (false, eval e X.env) :: starEach es X.env := by rfl) (hpl : (backTo pos (starEach es X.env)).any (·.1) = false := by rfl) : OX X c (.Call (.Name x p) (e :: es) [] pos) (tCB r tA) (oCb g fA) := ⟨pe_callTy hc hg hm hv ha.p hn hdb he hpl, do_cb hd ha.d⟩
theorem ocb {x : Str} {id : String} {r : List V → Hp → VK → Prop} {g} (hc : CallR X (.builtin id) r) (hd : CopL c.K r g) (hg : Gl X x) (hm : X.mg x = none) (hv : bootBuiltins x = some (.builtin id)) (ha : AX X c (e :: es) tA fA) (hn : x ≠ "__name__" := by decide) (hdb : (x == ("__debug__" : Str)) = false := by decide)
    (he : starEach (e :: es) X.env = (false, eval e X.env) :: starEach es X.env := by rfl) (hpl : (backTo pos (starEach es X.env)).any (·.1) = false := by rfl) : OX X c (.Call (.Name x p) (e :: es) [] pos) (tCB r tA) (oCb g fA) := ⟨pe_callB hc hg hm hv ha.p hn hdb he hpl, do_cb hd ha.d⟩
theorem xisi {T : String} {q : Pos} {x : Str} (hT : KitT T) (hg : Gl X "isinstance") (hm : X.mg "isinstance" = none) (hgT : Gl X x) (hmT : X.mg x = none) (hvT : bootBuiltins x = some (.type T)) (h1 : EX X c e te fe) (hn : x ≠ "__name__" := by decide) (hdb : (x == ("__debug__" : Str)) = false := by decide)
    (he : starEach (e :: [.Name x q]) X.env = (false, eval e X.env) :: starEach [.Name x q] X.env := by rfl) (he2 : starEach [.Name x q] X.env = (false, eval (.Name x q) X.env) :: starEach [] X.env := by rfl) (hpl : (backTo pos (starEach [.Name x q] X.env)).any (·.1) = false := by rfl) (hK : c.K = X.K := by rfl) :
    EX X c (.Call (.Name "isinstance" p) [e, .Name x q] [] pos) (tCB (rIsi c.K) (tCons te (tCons (tC (.ty T)) tNil))) (eIsi T fe) := ⟨hK ▸ pe_callB call_isi hg hm (by decide +kernel) (pa_cons h1.p (pa_cons (pe_bltn hgT hmT hvT rfl hn hdb) pa_nil he2) he) (he := he) (hpl := hpl), de_isi hT h1.d⟩
theorem orng1 {q p1 : Pos} (hc : X.calm = true) (hg : Gl X "list") (hm : X.mg "list" = none) (hg2 : Gl X "range") (hm2 : X.mg "range" = none) (h1 : EX X c a ta fa) (na : starEach [a] X.env = (false, eval a X.env) :: starEach [] X.env := by rfl)
    (na2 : starEach [.Call (.Name "range" p1) [a] [] q] X.env = (false, eval (.Call (.Name "range" p1) [a] [] q) X.env) :: starEach [] X.env := by rfl) : OX X c (.Call (.Name "list" p) [.Call (.Name "range" p1) [a] [] q] [] pos) (tLstRg (tRg1 ta)) (oRg1 fa) := ⟨pe_listRg hc hg hm (prg_1 hg2 hm2 h1.p na) na2, do_rg1 h1.d⟩
theorem xtrng1 {q p1 : Pos} (hc : X.calm = true) (hg : Gl X "tuple") (hm : X.mg "tuple" = none) (hg2 : Gl X "range") (hm2 : X.mg "range" = none) (h1 : EX X c a ta fa) (na : starEach [a] X.env = (false, eval a X.env) :: starEach [] X.env := by rfl)
    (na2 : starEach [.Call (.Name "range" p1) [a] [] q] X.env = (false, eval (.Call (.Name "range" p1) [a] [] q) X.env) :: starEach [] X.env := by rfl) : EX X c (.Call (.Name "tuple" p) [.Call (.Name "range" p1) [a] [] q] [] pos) (tTupRg (tRg1 ta)) (eTupRg1 fa) := ⟨pe_tupRg hc hg hm (prg_1 hg2 hm2 h1.p na) na2, de_tupRg1 h1.d⟩
theorem orng2 {q p1 : Pos} (hc : X.calm = true) (hg : Gl X "list") (hm : X.mg "list" = none) (hg2 : Gl X "range") (hm2 : X.mg "range" = none) (h1 : EX X c a ta fa) (h2 : EX X c b tb fb) (na : starEach [a, b] X.env = (false, eval a X.env) :: starEach [b] X.env := by rfl) (nb : starEach [b] X.env = (false, eval b X.env) :: starEach [] X.env := by rfl)
    (na2 : starEach [.Call (.Name "range" p1) [a, b] [] q] X.env = (false, eval (.Call (.Name "range" p1) [a, b] [] q) X.env) :: starEach [] X.env := by rfl) (hp : (backTo q (starEach [b] X.env)).any (·.1) = false := by rfl) : OX X c (.Call (.Name "list" p) [.Call (.Name "range" p1) [a, b] [] q] [] pos) (tLstRg (tRg2 ta tb)) (oRg2 fa fb) := ⟨pe_listRg hc hg hm (prg_2 hg2 hm2 h1.p h2.p na nb hp) na2, do_rg2 h1.d h2.d⟩
end
end Dl
set_option Elab.async false
set_option linter.all false
set_option maxRecDepth 100000
namespace Dl
open PySem PySem.Spec PyProof.Rows L2
section
variable {X : Cx} {c : Cz} {a b e e2 tg : Expr} {ta tb te : TE} {fa fb fe : Nv → Rs Ar} {tt : TT} {ft : Nv → Rs Bool} {pos p p2 pos' : Pos} {es : List Expr} {tA tk : TA} {fA fK : Nv → Rs (List Ar)} {fo : Nv → Rs (List PD)}
theorem gx (i : Nat) {x : Str} (hN : X.N.Nodup) (hi : X.N[i]? = some x := by rfl) (hx : Loc X.env.scope x := by first | exact Or.inl rfl | exact Or.inr rfl) (hf : X.fn x = true ∨ X.env.scope.names.lookup x = some .local := by first | exact .inl rfl | exact .inr rfl) : GX X c (.Name x pos) (gName i) (gN i) := ⟨pg_name hN hi hx hf, dg_name⟩
theorem gs0 : GsX X c [] gNil gsN := ⟨pgs_nil, dgs_nil⟩
theorem gs1 {g : TG} {gs : TGs} {f fs} (h1 : GX X c e g f) (h2 : GsX X c es gs fs) (hs : (assignEach (e :: es) X.env).map (·.2) = assign e X.env :: (assignEach es X.env).map (·.2) := by rfl) : GsX X c (e :: es) (gCons g gs) (gsC f fs) := ⟨pgs_cons h1.p h2.p hs, dgs_cons h1.d h2.d⟩
theorem gtup {k n : Nat} {gs : TGs} {fs} (hc : X.calm = true) (h1 : GsX X c es gs fs) (hn : (assignEach es X.env).length = n := by rfl) (hst : (assignEach es X.env).findIdx? (·.1) = none := by rfl) (hK : c.K = X.K := by rfl) : GX X c (.Tuple es k pos) (gTup c.K n gs) (gT n fs) := ⟨hK ▸ pg_tup hc h1.p hn hst, dg_tup h1.d⟩
theorem ilist (h1 : EX X c e te fe) (hK : c.K = X.K := by rfl) : IX X c tg e (iList c.K te) (iL fe) := ⟨hK ▸ pi_list h1.p, di_list h1.d⟩
theorem itup (h1 : EX X c e te fe) (hK : c.K = X.K := by rfl) : IX X c tg e (iTup c.K te) (iT fe) := ⟨hK ▸ pi_tup h1.p, di_tup h1.d⟩
theorem irng1 (hg : Gl X "range") (hm : X.mg "range" = none) (h1 : AX X c [a] tA fA) (hs : starEach [a] X.env = [(false, eval a X.env)] := by rfl) : IX X c tg (.Call (.Name "range" p) [a] [] pos) (iRng1 tA) (iR1 fA) := ⟨pi_range1 hg hm h1.p hs, di_rng1 h1.d⟩
theorem irng2 (hg : Gl X "range") (hm : X.mg "range" = none) (h1 : AX X c [a, b] tA fA) (hs : starEach [a, b] X.env = [(false, eval a X.env), (false, eval b X.env)] := by rfl) (hs2 : starEach [b] X.env = [(false, eval b X.env)] := by rfl) : IX X c tg (.Call (.Name "range" p) [a, b] [] pos) (iRng2 tA) (iR2 fA) := ⟨pi_range2 hg hm h1.p hs hs2, di_rng2 h1.d⟩
def enumD (ds : List PD) : List PD := ds.mapIdx fun i d => .tuple [.int (i : Nat), d]
def iEn (fr : Nv → Rs (List Ar)) : Nv → Rs (List PD) := fun n => bnd (fr n) fun as n1 => match as with
  | [.d (.tuple ds)] => ret (enumD ds) n1
  | _ => none
theorem jok_enum {K : PySem.W.Frag} {v : Addr} {ds : List PD} : JOk K (IteT K v) [.ref v] [.tuple ds] (enumD ds) := fun H A i na h => by
  cases h with
  | cons h _ =>
    cases h with
    | tup hl ha =>
      refine ⟨fun q => ⟨_, hl.sq, by rw [ha.len]; simpa [enumD] using q⟩, fun d e => ?_⟩
      unfold enumD at e
      rw [List.getElem?_mapIdx] at e
      obtain ⟨d0, e0, e1⟩ := Option.map_eq_some_iff.mp e
      subst e1
      obtain ⟨u, eu, hu⟩ := ha.get e0
      refine ⟨⟨_, u, hl.sq, eu⟩, ?_⟩
      rintro x H' ⟨T, y, rfl, nT, rfl, hy⟩
      have e3 := hy _ hl.sq
      rw [eu] at e3
      cases e3
      exact ⟨.upd nT, .newTup na nT (.cons (.int _) (.cons hu .nil))⟩
theorem di_enum {ta : TA} {fr} (h1 : DA c ta fr) : DI c (iEnumT c.K ta) (iEn fr) := fun S σ H n Q R h => by
  refine h1 S σ H n _ R (OkG.bind h fun vs as n1 H1 s1 k1 R1 va h2 => ?_)
  match as, va, h2 with
  | [.d (.tuple ds)], va, h2 =>
    cases va with
    | cons v r =>
      cases r
      have v : Dv c.K H1 (AV S σ n1) _ (.tuple ds) := v
      cases v with
      | tup hl ha => exact ⟨_, _, rfl, hl.sq, h2.ret .refl R1 ⟨_, _, .cons (.tup hl ha) .nil, jok_enum⟩⟩
theorem ienum {elts : List Expr} {kk : Nat} {tpos : Pos} (hg : Gl X "enumerate") (hm : X.mg "enumerate" = none) (h1 : AX X c [e] tA fA) (hs : starEach [e] X.env = [(false, eval e X.env)] := by rfl) (hK : c.K = X.K := by rfl) : IX X c (.Tuple elts kk tpos) (.Call (.Name "enumerate" p) [e] [] pos) (iEnumT c.K tA) (iEn fA) := ⟨hK ▸ pi_enumT hg hm h1.p hs, di_enum h1.d⟩
def zipD (ds es : List PD) : List PD := List.zipWith (fun d e => .tuple [d, e]) ds es
def iZp (fr : Nv → Rs (List Ar)) : Nv → Rs (List PD) := fun n => bnd (fr n) fun as n1 => match as with
  | [.d (.tuple ds), .d (.tuple es)] => ret (zipD ds es) n1
  | _ => none
theorem jok_zip {K : PySem.W.Frag} {v u : Addr} {ds es : List PD} : JOk K (RZ.ItzT K v u) [.ref v, .ref u] [.tuple ds, .tuple es] (zipD ds es) := fun H A i na h => by
  cases h with
  | cons h h' =>
    cases h' with
    | cons h' _ =>
      cases h with
      | tup hl ha =>
        cases h' with
        | tup hl' ha' =>
          refine ⟨fun q => ⟨_, _, hl.sq, hl'.sq, ?_⟩, fun d e => ?_⟩
          · rw [ha.len, ha'.len]
            unfold zipD at q
            rw [List.length_zipWith] at q
            omega
          · unfold zipD at e
            rw [List.getElem?_zipWith_eq_some] at e
            obtain ⟨d0, e0, q1, q2, rfl⟩ := e
            obtain ⟨x, ex, hx⟩ := ha.get q1
            obtain ⟨y, ey, hy⟩ := ha'.get q2
            refine ⟨⟨_, _, x, y, hl.sq, hl'.sq, ex, ey⟩, ?_⟩
            rintro z H' ⟨T, x', y', rfl, nT, rfl, zx, zy⟩
            have w1 := zx _ hl.sq
            have w2 := zy _ hl'.sq
            rw [ex] at w1
            rw [ey] at w2
            cases w1
            cases w2
            exact ⟨.upd nT, .newTup na nT (.cons hx (.cons hy .nil))⟩
theorem di_zip {ta : TA} {fr} (h1 : DA c ta fr) : DI c (RZ.iZipA c.K ta) (iZp fr) := fun S σ H n Q R h => by
  refine h1 S σ H n _ R (OkG.bind h fun vs as n1 H1 s1 k1 R1 va h2 => ?_)
  match as, va, h2 with
  | [.d (.tuple ds), .d (.tuple es)], va, h2 =>
    cases va with
    | cons v r =>
      cases r with
      | cons u r =>
        cases r
        have v : Dv c.K H1 (AV S σ n1) _ (.tuple ds) := v
        have u : Dv c.K H1 (AV S σ n1) _ (.tuple es) := u
        cases v with
        | tup hl ha =>
          cases u with
          | tup hl' ha' => exact ⟨_, _, _, _, rfl, .inr ⟨hl.sq, hl'.sq, h2.ret .refl R1 ⟨_, _, .cons (.tup hl ha) (.cons (.tup hl' ha') .nil), jok_zip⟩⟩⟩
theorem izip {elts : List Expr} {kk : Nat} {tpos : Pos} (hg : Gl X "zip") (hm : X.mg "zip" = none) (h1 : AX X c [e, e2] tA fA) (hs : starEach [e, e2] X.env = (false, eval e X.env) :: starEach [e2] X.env := by rfl) (hpl : (backTo pos (starEach [e2] X.env)).any (·.1) = false := by rfl) (hK : c.K = X.K := by rfl) :
    IX X c (.Tuple elts kk tpos) (.Call (.Name "zip" p) [e, e2] [] pos) (RZ.iZipA c.K tA) (iZp fA) := ⟨hK ▸ RZ.pi_zipA hg hm h1.p hs hpl, di_zip h1.d⟩
variable {t u : TS} {f g : Nv → RS} {ss s2 : List Stmt} {s : Stmt}
theorem b0 : BX X c [] tNext sNext := ⟨pss_nil, ds_next⟩
theorem b1 (h1 : SX X c s t f) : BX X c [s] t f := ⟨pss_one h1.p, h1.d⟩
theorem bc (h1 : SX X c s t f) (h2 : BX X c ss u g) : BX X c (s :: ss) (tSeq t u) (sSeq f g) := ⟨pss_cons h1.p h2.p, ds_seq h1.d h2.d⟩
theorem spass : SX X c (.Pass pos) tNext sNext := ⟨ps_pass, ds_next⟩
theorem sbrk : SX X c (.Break pos) tBreak sBrk := ⟨ps_break, ds_brk⟩
theorem scnt : SX X c (.Continue pos) tCont sCnt := ⟨ps_continue, ds_cnt⟩
theorem sexp (h1 : EX X c e te fe) (hs : swapsWith e none pos.line X.env = pure false := by rfl) : SX X c (.Expr e pos) (tDrop te) (sExpr fe) := ⟨ps_expr h1.p hs, ds_expr h1.d⟩
theorem sret (h1 : EX X c e te fe) : SX X c (.Return (some e) pos) (tRet te) (sRet fe) := ⟨ps_ret h1.p, ds_ret h1.d⟩
theorem sretn : SX X c (.Return none pos) tRetN (fun n => some (.ok (.rt (.d .none), n))) := ⟨ps_retN, ds_retN⟩
theorem sif {q : Expr} (h0 : TX X c q tt ft) (h1 : BX X c ss t f) (h2 : BX X c s2 u g) : SX X c (.If q ss s2 pos) (tIfS tt t u) (sIf ft f g) := ⟨ps_if h0.p h1.p h2.p, ds_if h0.d h1.d h2.d⟩
theorem sset (i : Nat) {x : Str} (hN : X.N.Nodup) (h1 : EX X c e te fe) (hi : X.N[i]? = some x := by rfl) (hx : Loc X.env.scope x := by first | exact Or.inl rfl | exact Or.inr rfl) (hs : swapsWith e (some (.Name x pos')) pos.line X.env = pure false := by rfl)
    (hf : X.fn x = true ∨ X.env.scope.names.lookup x = some .local := by first | exact .inl rfl | exact .inr rfl) : SX X c (.Assign [.Name x pos'] e pos) (tAsg te (gName i)) (sSet i fe) := ⟨ps_set hN hi hx h1.p hs hf, ds_set h1.d⟩
theorem snew (i : Nat) {x : Str} (hN : X.N.Nodup) (h1 : OX X c e te fo) (hi : X.N[i]? = some x := by rfl) (hx : Loc X.env.scope x := by first | exact Or.inl rfl | exact Or.inr rfl) (hs : swapsWith e (some (.Name x pos')) pos.line X.env = pure false := by rfl)
    (hf : X.fn x = true ∨ X.env.scope.names.lookup x = some .local := by first | exact .inl rfl | exact .inr rfl) : SX X c (.Assign [.Name x pos'] e pos) (tAsg te (gName i)) (sNew i fo) := ⟨ps_set hN hi hx h1.p hs hf, ds_new h1.d⟩
theorem sdnew (i : Nat) {x : Str} (hN : X.N.Nodup) (hi : X.N[i]? = some x := by rfl) (hx : Loc X.env.scope x := by first | exact Or.inl rfl | exact Or.inr rfl) (hs : swapsWith (.Dict [] [] p) (some (.Name x pos')) pos.line X.env = pure false := by rfl)
    (hf : X.fn x = true ∨ X.env.scope.names.lookup x = some .local := by first | exact .inl rfl | exact .inr rfl) : SX X c (.Assign [.Name x pos'] (.Dict [] [] p) pos) (tAsg tDNewK (gName i)) (sDnew i) := ⟨ps_set hN hi hx pe_dnewK hs hf, ds_dnew⟩
theorem sasg {gg : TG} {fg} (h1 : EX X c e te fe) (h2 : GX X c tg gg fg) (hs : swapsWithSole [tg] e pos.line X.env = pure false := by rfl) (hw : swappedStores [tg] e X.env = pure none := by rfl) (h3 : (assignEach [tg] X.env).map (·.2) = [assign tg X.env] := by rfl) : SX X c (.Assign [tg] e pos) (tAsg te gg) (sAsg fe fg) := ⟨ps_asg h1.p h2.p hs hw h3, ds_asg h1.d h2.d⟩
theorem sitm {x : Str} (i : Nat) (hv : EX X c (.Name x p) (tVar i) (eV i)) (h1 : EX X c e te fe) (h2 : EX X c b tb fb) (ha : ∀ v, assign (.Subscript (.Name x p) b p2) X.env v = (do
      let ov ← holding [v] (eval (.Name x p) X.env)
      let iv ← holding [v, ov] (eval b X.env)
      standAt p2
      holding [v, ov, iv] (setItem ov iv v)
      release [v, ov, iv] []) := by intro _; rfl) (hs : swapsWithSole [.Subscript (.Name x p) b p2] e pos.line X.env = pure false := by rfl) (hw : swappedStores [.Subscript (.Name x p) b p2] e X.env = pure none := by rfl) (h3 : (assignEach [.Subscript (.Name x p) b p2] X.env).map (·.2) = [assign (.Subscript (.Name x p) b p2) X.env] := by rfl) :
    SX X c (.Assign [.Subscript (.Name x p) b p2] e pos) (tAsg te (L2.gSub (tVar i) tb rSetL)) (sItm i fe fb) := ⟨ps_asg h1.p (pg_sub hv.p h2.p set_list ha) hs hw h3, ds_itm h1.d h2.d⟩
theorem sapp {x : Str} {apos cpos : Pos} (i : Nat) (hv : EX X c (.Name x p) (tVar i) (eV i)) (ha : AX X c [e] tA fA) (h0 : PE X (.Call (.Attribute (.Name x p) "append" apos) [e] [] cpos) (tBM X.K "list" rAppend (tVar i) tA)) (hs : swapsWith (.Call (.Attribute (.Name x p) "append" apos) [e] [] cpos) none pos.line X.env = pure false := by rfl) (hK : c.K = X.K := by rfl) :
    SX X c (.Expr (.Call (.Attribute (.Name x p) "append" apos) [e] [] cpos) pos) (tDrop (tBM c.K "list" rAppend (tVar i) tA)) (sApp i fA) := ⟨hK ▸ ps_expr h0 hs, ds_app ha.d⟩
theorem sfor {wi : TI} {gg : TG} {fi fg} (hp : PassesOwn (model X.prog X.w) X.A X.env X.xe) (hc : X.calm = true) (h1 : IX X c tg e wi fi) (h2 : GX X c tg gg fg) (h3 : BX X c ss t f) (hs : ∀ x, foldedSetIterable e X.env x = pure x := by intro _; rfl) : SX X c (.For tg e ss [] pos) (tFor wi gg t) (sFor fi fg f) := ⟨ps_for hp hc h1.p h2.p h3.p hs, ds_for h1.d h2.d h3.d⟩
theorem sdput {x : Str} (i : Nat) {k : Nat} (hr : Room k X.A) (hv : EX X c (.Name x p) (tVar i) (eV i)) (h1 : EX X c e te fe) (h2 : EX X c b tb fb) (hs : swapsWith e (some (.Subscript (.Name x p) b p2)) pos.line X.env = pure false := by rfl) : SX X c (.Assign [.Subscript (.Name x p) b p2] e pos) (sDPut (tVar i) tb te) (sDput i fe fb) := ⟨ps_dput (hu_of hr) hv.p h2.p h1.p hs, ds_dput h1.d h2.d⟩
theorem xdget {x : Str} (i : Nat) {k : Nat} (hr : Room k X.A) (hv : EX X c (.Name x p) (tVar i) (eV i)) (h2 : EX X c b tb fb) (hs : NoSl b := by exact fun _ _ => rfl) : EX X c (.Subscript (.Name x p) b pos) (tDGet (tVar i) tb) (eDget i fb) := ⟨pe_dget (hu_of hr) hv.p h2.p hs, de_dget h2.d⟩
theorem xtdnin {x : Str} (i : Nat) {k : Nat} (hr : Room k X.A) (hv : EX X c (.Name x p) (tVar i) (eV i)) (h2 : EX X c b tb fb) (hm : behindInMarks .NotIn (.Name x p) = false := by first | exact nobehind _ (by decide) (by decide) | rfl) : TX X c (.Compare b [.NotIn] [.Name x p] pos) (tB (tDNotIn tb (tVar i))) (tVal (eDin true i fb)) := ⟨pt_cmp (pc_dnotin (hu_of hr) h2.p hv.p) hm, dt_val (de_dnotin h2.d)⟩
def fYes : Nv → Rs Bool := fun n => ret true n
structure TsX (X : Cx) (c : Cz) (es : List Expr) (t : TT) (f : Nv → Rs Bool) : Prop where
  p : PTs X es t
  d : DT c t f
theorem t0 : TsX X c [] tYes fYes := ⟨pts_nil, fun S σ H n Q R h => h.ret .refl R rfl⟩
theorem t1 (h1 : TX X c e tt ft) : TsX X c [e] tt ft := ⟨pts_one h1.p, h1.d⟩
abbrev nox (c : Cz) : Cz := ⟨c.K, c.cl, fun _ _ _ _ => False⟩
end
section
variable {X : Cx} {c : Cz} {elt tg iter : Expr} {ifs : List Expr} {scope : Scope} {own : List (Str × Nat)} {pos spos py : Pos} {wi : TI} {gg : TG} {tt : TT} {te : TE} {fi fg ft fe}
theorem ocomp (hc : X.calm = true) (hN : X.N.Nodup) (h1 : IX X c tg iter wi fi) (ok : BlkOk X.N X.env.scope scope own) (gi : GIn gg (own.map (·.2))) (gm : ∀ v σ H (Q Q' : Sg → Hp → Prop), (∀ σ' H', Q σ' H' → Q' σ' H') → gg v σ H Q → gg v σ H Q')
    (hg : ∀ (s : Shared) (H : Hp) (C : Addr) (cl : List (Str × Addr)) (fp : List Addr), GX (X.blk s H scope (compEnvC scope cl C X.env) fp) c tg gg fg)
    (ht : ∀ (s : Shared) (H : Hp) (C : Addr) (cl : List (Str × Addr)) (fp : List Addr), TsX (X.blk s H scope (compEnvC scope cl C X.env) fp) (nox c) ifs tt ft)
    (he : ∀ (s : Shared) (H : Hp) (C : Addr) (cl : List (Str × Addr)) (fp : List Addr), EX (X.blk s H scope (compEnvC scope cl C X.env) fp) (nox c) elt te fe) (s0 : Shared) (H0 : Hp) (hs : ∀ x, foldedSetIterable iter X.env x = pure x := by intro _; rfl) :
    OX X c (.ListComp elt [⟨tg, iter, ifs, 0⟩] scope pos) (tLc wi gg tt te (own.map (·.2))) (oComp (own.map (·.2)) fi fg ft fe) :=
  ⟨pe_lc hc hN h1.p ok (fun s H C cl fp => (hg s H C cl fp).p) (fun s H C cl fp => (ht s H C cl fp).p) (fun s H C cl fp => (he s H C cl fp).p) hs, do_comp h1.d (hg s0 H0 0 [] []).d gi (ht s0 H0 0 [] []).d (he s0 H0 0 [] []).d gm⟩
theorem snewc (i : Nat) {y : Str} (hc : X.calm = true) (hN : X.N.Nodup) (h1 : IX X c tg iter wi fi) (ok : BlkOk X.N X.env.scope scope own) (gi : GIn gg (own.map (·.2))) (gm : ∀ v σ H (Q Q' : Sg → Hp → Prop), (∀ σ' H', Q σ' H' → Q' σ' H') → gg v σ H Q → gg v σ H Q')
    (hg : ∀ (s : Shared) (H : Hp) (C : Addr) (cl : List (Str × Addr)) (fp : List Addr), GX (X.blk s H scope (compEnvC scope cl C X.env) fp) c tg gg fg)
    (ht : ∀ (s : Shared) (H : Hp) (C : Addr) (cl : List (Str × Addr)) (fp : List Addr), TsX (X.blk s H scope (compEnvC scope cl C X.env) fp) (nox c) ifs tt ft)
    (he : ∀ (s : Shared) (H : Hp) (C : Addr) (cl : List (Str × Addr)) (fp : List Addr), EX (X.blk s H scope (compEnvC scope cl C X.env) fp) (nox c) elt te fe) (s0 : Shared) (H0 : Hp) (hy : X.N[i]? = some y := by rfl) (hyl : X.env.scope.names.lookup y = some .local := by rfl)
    (hsw : swapsWith (.ListComp elt [⟨tg, iter, ifs, 0⟩] scope pos) (some (.Name y py)) spos.line X.env = pure true := by exact sw_true rfl rfl rfl (by decide +kernel)) (hs : ∀ x, foldedSetIterable iter X.env x = pure x := by intro _; rfl) :
    SX X c (.Assign [.Name y py] (.ListComp elt [⟨tg, iter, ifs, 0⟩] scope pos) spos) (tAsg (tLc wi gg tt te (own.map (·.2))) (gName i)) (sNew i (oComp (own.map (·.2)) fi fg ft fe)) :=
  ⟨ps_setLc hc hN hy hyl hsw h1.p ok (fun s H C cl fp => (hg s H C cl fp).p) (fun s H C cl fp => (ht s H C cl fp).p) (fun s H C cl fp => (he s H C cl fp).p) hs, ds_new (do_comp h1.d (hg s0 H0 0 [] []).d gi (ht s0 H0 0 [] []).d (he s0 H0 0 [] []).d gm)⟩
end
theorem sp_ary {K : PySem.W.Frag} {cl : Str → Option Value} {k : Nat} {f : Nv → Rs Rv} {vs : List V} {H : Hp} {Q : VK} {E : XK} (h : spM K cl k (ary k f) vs H Q E) : spM K cl k f vs H Q E := by
  obtain ⟨hl, S, as, R, sub, nf, hf⟩ := h
  refine ⟨hl, S, as, R, sub, nf, ?_⟩
  have e : as.length = k := by rw [R.len, List.length_map, hl]
  unfold ary at hf
  rwa [if_pos e] at hf
structure Cal (P : Program) (w : World) (K : PySem.W.Frag) (mg : Str → Option Value) (base : Heap) (cl : Str → Option Value) (lv : Nat) (x : Str) (ps : List Str) (f : Nv → Rs Rv) : Prop where
  ex : ∃ (a : Addr) (fd : FuncData), FnOk P w K mg base (L2.CX P w) lv a fd ps (spM K cl ps.length f) ∧ mg x = some (.ref a) ∧ PySem.W.keepIn K (.ref a) = true ∧ Binds K fd ps []
  ar : Ary ps.length f
  any : ∀ (a : Addr) (fd : FuncData) (oc : Value) (od : Option Addr) (osl : Array (Option Value)), mg x = some (.ref a) → K.lookup a = some ⟨oc, od, .func fd, osl⟩ → FnOk P w K mg base (L2.CX P w) lv a fd ps (spM K cl ps.length f)
structure CalR (P : Program) (w : World) (K : PySem.W.Frag) (mg : Str → Option Value) (base : Heap) (cl : Str → Option Value) (lv : Nat) (x : Str) (ps ks : List Str) (f : Nv → Rs Rv) : Prop where
  ex : ∃ (a : Addr) (fd : FuncData), FnOk P w K mg base (L2.CX P w) lv a fd ps (spM K cl ps.length f) ∧ mg x = some (.ref a) ∧ PySem.W.keepIn K (.ref a) = true ∧ KBinds K fd ps ks gRev gRev
  ar : Ary ps.length f
structure CalG (P : Program) (w : World) (K : PySem.W.Frag) (mg : Str → Option Value) (base : Heap) (cl : Str → Option Value) (lv : Nat) (x : Str) (ps : List Str) (f : Nv → Rs Rv) : Prop where
  ex : ∃ (a : Addr) (fd : FuncData), FnG P w K mg base (L2.CX P w) lv a fd ps (spM K cl ps.length f) ∧ mg x = some (.ref a) ∧ PySem.W.keepIn K (.ref a) = true ∧ Binds K fd ps []
  ar : Ary ps.length f
section
variable {P : Program} {w : World} {K : PySem.W.Frag} {mg : Str → Option Value} {base : Heap} {cl : Str → Option Value} {k : Nat} {x qual : Str} {st : Stmt} {f : Addr} {fd : FuncData} {N ps ks : List Str} {g : Nv → RS} {m : Nat}
theorem _root_.L2.Fun.only {lv : Nat} {ps : List Str} {sp : Sp} (F : Fun K x qual st f fd) (hm : mg x = some (.ref f)) (H : FnOk P w K mg base (L2.CX P w) lv f fd ps sp) (a : Addr) (fd' : FuncData) (oc : Value) (od : Option Addr) (osl : Array (Option Value)) (h1 : mg x = some (.ref a)) (h2 : K.lookup a = some ⟨oc, od, .func fd', osl⟩) : FnOk P w K mg base (L2.CX P w) lv a fd' ps sp := by
  obtain ⟨oc', od', kV, doc, pm, an, cdv, ct, osl', rfl, lk, hcd⟩ := F.ex
  rw [hm] at h1
  cases h1
  rw [lk] at h2
  cases h2
  exact H
theorem cal_mk (F : Fun K x qual st f fd) (hm : mg x = some (.ref f)) (Sc : FnScope N ps (defScope st)) (hN : N.length = ps.length + m)
    (hb : ∀ (kV doc pm : Value) (an : Option Addr) (cdv ct : Value) (us : List Value), us.length = ps.length → bindArgs (PySem.W.fnOf x qual (defArgs st) (defBody st) (defScope st) .none kV doc pm an cdv ct) ⟨us, []⟩ = pure (ps.zip us))
    (hbody : ∀ (cdv : Value) (A : Around) (outer : List Env) (s : Shared) (H : Hp) (E : XK), Room k (A.deeper (envOfC qual (defScope st) s.heap.objs.size f cdv)) →
      ∃ t, BX (cxOf (L2.CX P w) P w K mg base N qual (defScope st) f cdv A outer s H E) ⟨K, cl, fun _ => E⟩ (defBody st) t g) : Cal P w K mg base cl (k + 1) x ps (ary ps.length (body m g)) :=
  have H : FnOk P w K mg base (L2.CX P w) (k + 1) f fd ps (spM K cl ps.length (ary ps.length (body m g))) := (fn_dl (m := m) (g := g) F Sc hN fun cdv A outer s H E hr => let ⟨t, z⟩ := hbody cdv A outer s H E hr; ⟨t, z.p, z.d⟩).imp fun _ _ _ _ h => sp_ary h
  ⟨⟨f, fd, H, hm, F.kp, F.binds hb⟩, ary_ok, F.only hm H⟩
theorem calG_mk (F : Fun K x qual st f fd) (hm : mg x = some (.ref f)) (Sc : FnScope N ps (defScope st)) (hN : N.length = ps.length + m)
    (hb : ∀ (kV doc pm : Value) (an : Option Addr) (cdv ct : Value) (us : List Value), us.length = ps.length → bindArgs (PySem.W.fnOf x qual (defArgs st) (defBody st) (defScope st) .none kV doc pm an cdv ct) ⟨us, []⟩ = pure (ps.zip us))
    (hbody : ∀ (cdv : Value) (A : Around) (outer : List Env) (s : Shared) (H : Hp) (E : XK), A.guards = some [] → Room k (A.deeper (envOfC qual (defScope st) s.heap.objs.size f cdv)) →
      ∃ t, BX (cxOf (L2.CX P w) P w K mg base N qual (defScope st) f cdv A outer s H E) ⟨K, cl, fun _ => E⟩ (defBody st) t g) : CalG P w K mg base cl (k + 1) x ps (ary ps.length (body m g)) := by
  have G := fn_dlG (m := m) (g := g) F Sc hN fun cdv A outer s H E gd hr => let ⟨t, z⟩ := hbody cdv A outer s H E gd hr; ⟨t, z.p, z.d⟩
  exact ⟨⟨f, fd, ⟨fun vs H Q E h => h.1, fun A outer s H args us vs Q E gd hr he hbd hv hs => G.run A outer s H args us vs Q E gd hr he hbd hv (sp_ary hs)⟩, hm, F.kp, F.binds hb⟩, ary_ok⟩
theorem Cal.kw {lv : Nat} {ff : Nv → Rs Rv} (C : Cal P w K mg base cl lv x ps ff) (F : Fun K x qual st f fd) (hm : mg x = some (.ref f)) (hp : ps ≠ [])
    (h : ∀ (kV doc pm : Value) (an : Option Addr) (cdv ct : Value) (ws : List Value), ws.length = ps.length → bindArgs (PySem.W.fnOf x qual (defArgs st) (defBody st) (defScope st) .none kV doc pm an cdv ct) ⟨[], ks.zip ws⟩ = pure (ps.zip ws.reverse)) : CalR P w K mg base cl lv x ps ks ff :=
  let ⟨oc, od, kV, doc, pm, an, cdv, ct, osl, e, lk, _⟩ := F.ex
  ⟨⟨f, fd, C.any f fd oc od osl hm lk, hm, F.kp, kb_rev F hp h⟩, C.ar⟩
end
section
variable {X : Cx} {K : PySem.W.Frag} {cl : Str → Option Value} {E : XK} {lv : Nat} {x : Str} {ps ks : List Str} {f : Nv → Rs Rv} {e : Expr} {es : List Expr} {kws : List Keyword} {p pos : Pos} {tA : TA} {fA : Nv → Rs (List Ar)}
theorem xcal {k : Nat} (hK : X.K = K) (C : Cal X.prog X.w K X.mg X.base cl lv x ps f) (hr : Room k X.A) (tk : Takes X fun cls d _ H => E cls d H) (hg : Gl X x) (ha : AX X ⟨K, cl, fun _ => E⟩ (e :: es) tA fA) (hl : lv ≤ k := by decide) (hdb : (x == ("__debug__" : Str)) = false := by decide)
    (he : starEach (e :: es) X.env = (false, eval e X.env) :: starEach es X.env := by rfl) (hpl : (backTo pos (starEach es X.env)).any (·.1) = false := by rfl) : EX X ⟨K, cl, fun _ => E⟩ (.Call (.Name x p) (e :: es) [] pos) (tCall (spM K cl ps.length f) [] E tA) (eCall f fA) := by
  subst hK
  obtain ⟨a, fd, F, hm, kp, bd⟩ := C.ex
  exact ⟨pe_call F (hr.mono hl) hg hm kp bd .nil (passes_call tk fun _ _ _ _ h => h) ha.p hdb he hpl, de_call ha.d C.ar fun _ => rfl⟩
theorem ocal {k : Nat} (hK : X.K = K) (C : Cal X.prog X.w K X.mg X.base cl lv x ps f) (hr : Room k X.A) (tk : Takes X fun cls d _ H => E cls d H) (hg : Gl X x) (ha : AX X ⟨K, cl, fun _ => E⟩ (e :: es) tA fA) (hl : lv ≤ k := by decide) (hdb : (x == ("__debug__" : Str)) = false := by decide)
    (he : starEach (e :: es) X.env = (false, eval e X.env) :: starEach es X.env := by rfl) (hpl : (backTo pos (starEach es X.env)).any (·.1) = false := by rfl) : OX X ⟨K, cl, fun _ => E⟩ (.Call (.Name x p) (e :: es) [] pos) (tCall (spM K cl ps.length f) [] E tA) (oCall f fA) := by
  subst hK
  obtain ⟨a, fd, F, hm, kp, bd⟩ := C.ex
  exact ⟨pe_call F (hr.mono hl) hg hm kp bd .nil (passes_call tk fun _ _ _ _ h => h) ha.p hdb he hpl, do_call ha.d C.ar fun _ => rfl⟩
theorem xcalB {k : Nat} (hK : X.K = K) (C : Cal X.prog X.w K X.mg X.base cl lv x ps f) (hr : Room k X.A) (hg : Gl X x) (ha : AX X ⟨K, cl, fun _ _ _ _ => False⟩ (e :: es) tA fA) (hl : lv ≤ k := by decide) (hdb : (x == ("__debug__" : Str)) = false := by decide)
    (he : starEach (e :: es) X.env = (false, eval e X.env) :: starEach es X.env := by rfl) (hpl : (backTo pos (starEach es X.env)).any (·.1) = false := by rfl) : EX X ⟨K, cl, fun _ _ _ _ => False⟩ (.Call (.Name x p) (e :: es) [] pos) (tCall (spM K cl ps.length f) [] E0 tA) (eCall f fA) := by
  subst hK
  obtain ⟨a, fd, F, hm, kp, bd⟩ := C.ex
  exact ⟨pe_call F (hr.mono hl) hg hm kp bd .nil passL ha.p hdb he hpl, de_call ha.d C.ar fun _ => rfl⟩
theorem xcalS {k : Nat} {W : WX} (hK : X.K = K) (C : Cal X.prog X.w K X.mg X.base cl lv x ps f) (hr : Room k X.A) (tk : Takes X W) (hg : Gl X x) (ha : AX X ⟨K, cl, WE W⟩ (e :: es) tA fA) (hl : lv ≤ k := by decide) (hdb : (x == ("__debug__" : Str)) = false := by decide)
    (he : starEach (e :: es) X.env = (false, eval e X.env) :: starEach es X.env := by rfl) (hpl : (backTo pos (starEach es X.env)).any (·.1) = false := by rfl) : EX X ⟨K, cl, WE W⟩ (.Call (.Name x p) (e :: es) [] pos) (tCallS (spM K cl ps.length f) (WE W) tA) (eCall f fA) := by
  subst hK
  obtain ⟨a, fd, F, hm, kp, bd⟩ := C.ex
  exact ⟨pe_callS F (hr.mono hl) hg hm kp bd (fun σ => passAt tk σ) ha.p hdb he hpl, de_callS ha.d C.ar fun _ => rfl⟩
theorem xcalR {k : Nat} (hK : X.K = K) (C : CalR X.prog X.w K X.mg X.base cl lv x ps ks f) (hr : Room k X.A) (tk : Takes X fun cls d _ H => E cls d H) (hg : Gl X x) (ha : KX X ⟨K, cl, fun _ => E⟩ kws tA fA) (hl : lv ≤ k := by decide) (hall : (backToKw pos (keywordEach kws X.env)).all (·.1.isSome) = true := by rfl) (hks : (backToKw pos (keywordEach kws X.env)).filterMap (·.1) = ks := by rfl)
    (hdb : (x == ("__debug__" : Str)) = false := by decide) (hpl : ((backTo pos (starEach [] X.env)).any (·.1) || (backToKw pos (keywordEach kws X.env)).any (·.1.isNone)) = false := by rfl) : EX X ⟨K, cl, fun _ => E⟩ (.Call (.Name x p) [] kws pos) (tCallK (spM K cl ps.length f) gRev E tNil tA) (eCallR f fA) := by
  subst hK
  obtain ⟨a, fd, F, hm, kp, bd⟩ := C.ex
  exact ⟨pe_kw0 F (hr.mono hl) hg hm kp bd (passes_call tk fun _ _ _ _ h => h) ha.p hall hks hdb hpl, de_callR ha.d C.ar fun _ => rfl⟩
theorem xcalG {k : Nat} (hK : X.K = K) (C : CalG X.prog X.w K X.mg X.base cl lv x ps f) (gd : X.A.guards = some []) (hr : Room k X.A) (tk : Takes X fun cls d _ H => E cls d H) (hg : Gl X x) (ha : AX X ⟨K, cl, fun _ => E⟩ (e :: es) tA fA) (hl : lv ≤ k := by decide) (hdb : (x == ("__debug__" : Str)) = false := by decide)
    (he : starEach (e :: es) X.env = (false, eval e X.env) :: starEach es X.env := by rfl) (hpl : (backTo pos (starEach es X.env)).any (·.1) = false := by rfl) : EX X ⟨K, cl, fun _ => E⟩ (.Call (.Name x p) (e :: es) [] pos) (tCall (spM K cl ps.length f) [] E tA) (eCall f fA) := by
  subst hK
  obtain ⟨a, fd, F, hm, kp, bd⟩ := C.ex
  exact ⟨pe_callG F gd (hr.mono hl) hg hm kp bd (passes_call tk fun _ _ _ _ h => h) ha.p hdb he hpl, de_call ha.d C.ar fun _ => rfl⟩
end
end Dl
set_option Elab.async false
set_option linter.all false
set_option maxRecDepth 100000
namespace Dl
open PySem PySem.Spec PyProof.Rows L2
structure Tx (mg : Str → Option Value) : Prop where
  isinstance : mg "isinstance" = none
  int : mg "int" = none
  bool : mg "bool" = none
  str : mg "str" = none
  tuple : mg "tuple" = none
  list : mg "list" = none
  len : mg "len" = none
  range : mg "range" = none
  enumerate : mg "enumerate" = none
  zip : mg "zip" = none
  all : mg "all" = none
  any : mg "any" = none
  sum : mg "sum" = none
  max : mg "max" = none
  min : mg "min" = none
  sorted : mg "sorted" = none
  set : mg "set" = none
section
variable {X : Cx} {c : Cz} {a : Expr} {tA : TA} {fA : Nv → Rs (List Ar)} {p p1 q pos : Pos}
theorem osset (hc : X.calm = true) (T : Tx X.mg) (hg : Gl X "sorted") (hg2 : Gl X "set") (ha : AX X c [a] tA fA) (na : starEach [a] X.env = (false, eval a X.env) :: starEach [] X.env := by rfl)
    (nb : starEach [.Call (.Name "set" p1) [a] [] q] X.env = (false, eval (.Call (.Name "set" p1) [a] [] q) X.env) :: starEach [] X.env := by rfl) (hK : c.K = X.K := by rfl) :
    OX X c (.Call (.Name "sorted" p) [.Call (.Name "set" p1) [a] [] q] [] pos) (tCB (rSortedSet X.w) (tCons (tCB (rSetI c.K X.w) tA) tNil)) (oCb gSetS fA) :=
  ⟨hK ▸ pe_callB (cr_sortedSet hc) hg T.sorted (by decide +kernel) (pa_cons (pe_callTy (cr_setI hc) hg2 T.set (by decide +kernel) ha.p (he := na) (hpl := by rfl)) pa_nil nb) (he := nb) (hpl := by rfl), do_sset ha.d⟩
theorem ossetP {k : Nat} (hr : Room k X.A) (hc : X.calm = true) (T : Tx X.mg) (hg : Gl X "sorted") (hg2 : Gl X "set") (ha : AX X c [a] tA fA) (na : starEach [a] X.env = (false, eval a X.env) :: starEach [] X.env := by rfl)
    (nb : starEach [.Call (.Name "set" p1) [a] [] q] X.env = (false, eval (.Call (.Name "set" p1) [a] [] q) X.env) :: starEach [] X.env := by rfl) (hK : c.K = X.K := by rfl) :
    OX X c (.Call (.Name "sorted" p) [.Call (.Name "set" p1) [a] [] q] [] pos) (tCB (rSortedT c.K X.prog X.w) (tCons (tCB (rSetOfT c.K X.prog X.w) tA) tNil)) (oCb gSetP fA) :=
  ⟨hK ▸ pe_callB (cr_sortedT hc) hg T.sorted (by decide +kernel) (pa_cons (pe_callTy (cr_setOfT hc hr.units) hg2 T.set (by decide +kernel) ha.p (he := na) (hpl := by rfl)) pa_nil nb) (he := nb) (hpl := by rfl), do_ssetP ha.d⟩
end
end Dl
set_option Elab.async false
set_option linter.all false
set_option maxRecDepth 100000
namespace Dl
open PySem PySem.Spec PyProof.Rows L2
structure ExT (P : Program) (w : World) (K : PySem.W.Frag) (mg : Str → Option Value) (base : Heap) (x f g : Str) where
  C : Addr
  fI : Addr
  fd : FuncData
  ps : List Str
  gC : mg x = some (.ref C)
  T : OexC K C
  nf : PySem.W.findIn K (.ref C) f = some none
  ng : PySem.W.findIn K (.ref C) g = some none
  iC : PySem.W.findIn K (.ref C) "__init__" = some (some (.ref fI))
  tI : PySem.W.typeIn K (.ref fI) = some (.type "function")
  F1 : FnOk P w K mg base (L2.CX P w) 1 fI fd ps (spI2 K f g)
  bd : Binds K fd ps []
  xf : XfC K C
  te : PySem.W.exmOne K (.ref C) (.ref C) = some true
section
variable {X : Cx} {K : PySem.W.Frag} {cl : Str → Option Value} {E : XK} {x f g : Str} {e : Expr} {es : List Expr} {p pos pos' : Pos} {tA : TA} {fA : Nv → Rs (List Ar)}
theorem sraise {k : Nat} (hK : X.K = K) (Z : ExT X.prog X.w K X.mg X.base x f g) (hx : cl x = some (.ref Z.C)) (hr : Room k X.A) (tk : Takes X fun cls d _ H => E cls d H) (hc : X.calm = true) (hg : Gl X x) (ha : AX X ⟨K, cl, fun _ => E⟩ (e :: es) tA fA) (hl : 2 ≤ k := by decide)
    (hdb : (x == ("__debug__" : Str)) = false := by decide) (he : starEach (e :: es) X.env = (false, eval e X.env) :: starEach es X.env := by rfl) (hpl : (backTo pos' (starEach es X.env)).any (·.1) = false := by rfl) :
    SX X ⟨K, cl, fun _ => E⟩ (.Raise (some (.Call (.Name x p) (e :: es) [] pos')) none pos) (fun _ σ H => tMkO Z.C (spI2 K f g) [] tA σ H fun cls d H' => E cls d H') (sRaise x f g fA) := by
  subst hK
  exact ⟨ps_raise hc tk (pmk_oex Z.T Z.iC Z.tI Z.F1 (hr.mono hl) Z.bd .nil passL hg Z.gC ha.p hdb he hpl), ds_raise (c := ⟨X.K, cl, fun _ => E⟩) hx Z.T Z.nf Z.ng ha.d⟩
theorem xe_mono {W W' : WX} {u : Value} {s' : Shared} (h : ∀ cls d σ H, W cls d σ H → W' cls d σ H) (z : XE X W u s') : XE X W' u s' := by
  obtain ⟨a, B, sI, pins, σ, H, cls, d, e, I, nb, up, sky, na, os, ag, w⟩ := z
  exact ⟨a, B, sI, pins, σ, H, cls, d, e, I, nb, up, sky, na, os, ag, h _ _ _ _ w⟩
theorem stry2 {n : Str} {body : List Stmt} {np p1 p2 p3 p4 p5 p6 : Pos} {kk : Nat} {tb : WX → TS} {fb : Nv → RS} {EE : Sg → XK} (i : Nat) (hN : X.N.Nodup) (hK : X.K = K) (hs : X.stack = X.env :: X.outer) (hf : X.env.frame = some X.env.locals) (hex : X.ex = []) (Z : ExT X.prog X.w K X.mg X.base x f g) (hx : cl x = some (.ref Z.C)) (hg : Gl X x)
    (hb : ∀ (W : WX) (pn : List (Addr × Obj)) (xe : Value → Shared → Prop), Takes (X.tr pn xe) W → PassesOwn (model X.prog X.w) X.A X.env xe → BX (X.tr pn xe) ⟨K, cl, WE W⟩ body (tb W) fb) (hi : X.N[i]? = some n := by rfl) (hln : X.env.kindOf n = some .local := by rfl) (hdb : (x == ("__debug__" : Str)) = false := by decide)
    (hv : Vis X.env.scope n := by first | exact Or.inl rfl | exact Or.inr (Or.inl rfl) | exact Or.inr (Or.inr rfl)) (hd : (n == ("__debug__" : Str)) = false := by decide) (hcd : (n == ("__classdict__" : Str)) = false := by decide)
    (h1 : attributeBase (.Name n p1) f X.env (eval (.Name n p1) X.env) = eval (.Name n p1) X.env := by rfl) (h2 : attributeBase (.Name n p3) g X.env (eval (.Name n p3) X.env) = eval (.Name n p3) X.env := by rfl)
    (hst : starEach [.Attribute (.Name n p1) f p2, .Attribute (.Name n p3) g p4] X.env = (false, eval (.Attribute (.Name n p1) f p2) X.env) :: starEach [.Attribute (.Name n p3) g p4] X.env := by rfl) (hst2 : starEach [.Attribute (.Name n p3) g p4] X.env = (false, eval (.Attribute (.Name n p3) g p4) X.env) :: starEach [] X.env := by rfl) :
    SX X ⟨K, cl, EE⟩ (.Try body [.ExceptHandler (some (.Name x np)) (some n) [.Return (some (.Tuple [.Attribute (.Name n p1) f p2, .Attribute (.Name n p3) g p4] kk p5)) p6] pos'] [] [] pos)
      (fun D σ H => tb (wAs K (.ref Z.C) i (fun a cls d => tRet (tTup (tCons (tXf a cls d Z.C f (tVar i)) (tCons (tXf a cls d Z.C g (tVar i)) tNil)))) (fun _ _ _ _ => False) D) D σ H) (sTry2 i x f g fb) := by
  subst hK
  refine ⟨?_, ds_try2 (c := ⟨X.K, cl, EE⟩) (f := f) (g := g) (nm := x) hx Z.te fun W => ?_⟩
  · exact ps_try_as (pos := pos) (pos' := pos') (np := np) (i := i) (n := n) (x := x) (body := body) (c := .ref Z.C) (Wout := fun _ _ _ _ => False) (suite := []) (b₀ := .Return (some (.Tuple [.Attribute (.Name n p1) f p2, .Attribute (.Name n p3) g p4] kk p5)) p6)
      hs hf hN hi hln ⟨hg, hdb, .inl Z.gC⟩ takes0 (tb := tb) (fun W pn xe t1 t2 => (hb W pn xe t1 t2).p)
      (ts := fun a cls d => tRet (tTup (tCons (tXf a cls d Z.C f (tVar i)) (tCons (tXf a cls d Z.C g (tVar i)) tNil))))
      (fun a oe cls d pn hz hfl => pss_one (ps_ret (pe_tup (pa_cons (pe_xf Z.xf Z.nf hz hfl (pe_var hi hv hd hcd) h1) (pa_cons (pe_xf Z.xf Z.ng hz hfl (pe_var hi hv hd hcd) h2) pa_nil hst2) hst))))
  · let xe : Value → Shared → Prop := fun e s' => wpAny (model X.prog X.w) X.A (leaving X.env e) (fun _ s'' => L2.CX X.prog X.w X.outer X.H_0 X.s_0 (fun cls d H => ∃ σ, W cls d σ H) e s'') (fun _ _ => True) s'
    have tk : Takes (X.tr [] xe) W := fun u s' z => takes_of (X := X.tr [] xe) (E := fun cls d H => ∃ σ, W cls d σ H) hs hf hex rfl u s' (xe_mono (fun cls d σ H w => ⟨σ, w⟩) z)
    exact (hb W [] xe tk (passes_of (X := X.tr [] xe) rfl)).d
end
theorem _root_.L2.Room.un200 {k : Nat} {A : Around} (h : L2.Room k A) : A.units + 200 < cLine := by have := h.un; omega
theorem mono_tup2 {K : PySem.W.Frag} {k i j : Nat} : ∀ v σ H (Q Q' : Sg → Hp → Prop), (∀ σ' H', Q σ' H' → Q' σ' H') → gTup K k (gCons (gName i) (gCons (gName j) gNil)) v σ H Q → gTup K k (gCons (gName i) (gCons (gName j) gNil)) v σ H Q' := fun v σ H Q Q' h ⟨a, xs, e1, e2, e3, x, r, e4, y, r2, e5, e6, q⟩ => ⟨a, xs, e1, e2, e3, x, r, e4, y, r2, e5, e6, h _ _ q⟩
def gLtT : PD → PD → Option PD
  | .tuple a, .tuple b => match intsOf a, intsOf b with
    | some ns, some ms => some (.bool (HT.lexLt ns ms))
    | _, _ => none
  | _, _ => none
theorem ltT_ok {K : PySem.W.Frag} : BopOk K (rLtT K) gLtT := fun A H Q x y dx dy d na wx wy e k => by
  unfold gLtT at e
  split at e
  · split at e
    · rename_i ns ms e1 e2
      cases e
      obtain ⟨p, vs, rfl, h1, h2⟩ := wx.tup
      obtain ⟨p', us, rfl, g1, g2⟩ := wy.tup
      exact ⟨p, p', ns, ms, rfl, rfl, ints_of h2 e1 ▸ h1, ints_of g2 e2 ▸ g1, k _ H .refl (.bl _)⟩
    · cases e
  · cases e
theorem c_ltT {X : Cx} {c : Cz} {k : Nat} (hr : Room k X.A) (hK : c.K = X.K := by rfl) : CmpX X c .Lt (rLtT c.K) gLtT := ⟨hK ▸ op_ltT hr.units0, ltT_ok⟩
end Dl
set_option Elab.async false
set_option linter.all false
set_option maxRecDepth 100000
namespace Dl
open PySem PySem.Spec PyProof.Rows L2
section
variable {X : Cx} {c : Cz} {e : Expr} {tA : TA} {fA : Nv → Rs (List Ar)} {pos p : Pos}
theorem sappn {x : Str} {apos cpos : Pos} (i : Nat) (hv : EX X c (.Name x p) (tVar i) (eV i)) (ha : AX X c [e] tA fA)
    (hbase : attributeBase (.Name x p) "append" X.env (eval (.Name x p) X.env) = eval (.Name x p) X.env := by rfl)
    (hfew : ((backTo cpos (starEach [e] X.env)).all (fun x => !x.1) && (backToKw cpos (keywordEach [] X.env)).all (fun x => x.1.isSome)
      && decide ([e].length + ([] : List Keyword).length + (if ([] : List Keyword).isEmpty then 0 else 1) < 30)) = true := by rfl)
    (hline : (apos.endLine == cpos.line) = true := by rfl) (hss : starEach [e] X.env = (false, eval e X.env) :: starEach [] X.env := by rfl) (hplain : (backTo cpos (starEach [] X.env)).any (·.1) = false := by rfl)
    (hs : swapsWith (.Call (.Attribute (.Name x p) "append" apos) [e] [] cpos) none pos.line X.env = pure false := by rfl) (hK : c.K = X.K := by rfl) :
    SX X c (.Expr (.Call (.Attribute (.Name x p) "append" apos) [e] [] cpos) pos) (tDrop (tBM c.K "list" rAppend (tVar i) tA)) (sApp i fA) :=
  sapp i hv ha (pe_bm PySem.F.plainAttrs_list PySem.F.slot_list_append PySem.F.type_list_append mt_append hv.p ha.p hbase hfew hline hss hplain) hs hK
end
theorem blkOk_of {N N0 : List Str} {o o0 scope : Scope} {own : List (Str × Nat)} (hN : N = N0) (ho : o = o0) (h : blkC N0 o0 scope own = true) : BlkOk N o scope own := by
  subst hN ho
  exact blkOk_by h
structure DTab (K : PySem.W.Frag) (w : World) (a : Addr) (t : List (Str × PD)) : Prop where
  ex : ∃ es n, KDict K w a es n
  look : ∀ z, (∃ d, t.lookup z = some d ∧ ∃ v u, PySem.W.nsIn K a z = some (some u) ∧ RelV v u ∧ ∀ H A, Dv K H A v d) ∨ (t.lookup z = none ∧ PySem.W.nsIn K a z = some none)
def gTbNin (t : List (Str × PD)) : PD → Option PD
  | .str z => some (.bool (!(t.lookup z).isSome))
  | _ => none
def gTbIx (t : List (Str × PD)) : PD → Option PD
  | .str z => t.lookup z
  | _ => none
def rTbNin (K : PySem.W.Frag) (a : Addr) : R2 := fun x y H Q => ∃ (z : Str) (r : Option Value), x = .str z ∧ y = .ref a ∧ PySem.W.nsIn K a z = some r ∧ Q (.bl (!r.isSome)) H
section
variable {X : Cx} {K : PySem.W.Frag} {cl : Str → Option Value} {E : Sg → XK} {e : Expr} {te : TE} {fe : Nv → Rs Ar} {pos p : Pos} {x : Str} {a : Addr} {t : List (Str × PD)}
theorem xtbnin (hK : X.K = K) (hg : Gl X x) (hm : X.mg x = some (.ref a)) (T : DTab K X.w a t) (h1 : EX X ⟨K, cl, E⟩ e te fe) (hd : (x == ("__debug__" : Str)) = false := by decide) (hb : behindInMarks .NotIn (.Name x p) = false := by first | exact nobehind _ (by decide) (by decide) | rfl) :
    TX X ⟨K, cl, E⟩ (.Compare e [.NotIn] [.Name x p] pos) (tTest (tOp (rTbNin K a) te (tC (.ref a)))) (tVal (eUn (gTbNin t) fe)) := by
  subst hK
  obtain ⟨es, n, D⟩ := T.ex
  refine ⟨pt_cmpR (op_notIn_kd D) h1.p (pe_glob (v := .ref a) hg hm rfl hd) hb, dt_test ?_⟩
  refine (de_un (r := fun x H Q => rTbNin X.K a x (.ref a) H Q) ?_ h1.d : DE _ (tUn _ te) _)
  intro A H Q x dx d na w e k
  unfold gTbNin at e
  split at e
  · rename_i z
    cases e
    obtain rfl := w.str
    rcases T.look z with ⟨d, e1, v, u, e2, _, _⟩ | ⟨e1, e2⟩
    · exact ⟨z, some u, rfl, rfl, e2, k _ H .refl (by rw [e1]; exact .bl _)⟩
    · exact ⟨z, none, rfl, rfl, e2, k _ H .refl (by rw [e1]; exact .bl _)⟩
  · cases e
theorem xtbix (hK : X.K = K) (hg : Gl X x) (hm : X.mg x = some (.ref a)) (T : DTab K X.w a t) (h1 : EX X ⟨K, cl, E⟩ e te fe) (hd : (x == ("__debug__" : Str)) = false := by decide) (hs : PlainIx e := by exact fun _ _ => rfl) :
    EX X ⟨K, cl, E⟩ (.Subscript (.Name x p) e pos) (tOp (rIxD K X.w) (tC (.ref a)) te) (eUn (gTbIx t) fe) := by
  subst hK
  refine ⟨pe_ix ix_kdict (pe_glob (v := .ref a) hg hm rfl hd) h1.p hs, ?_⟩
  refine (de_un (r := fun y H Q => rIxD X.K X.w (.ref a) y H Q) ?_ h1.d : DE _ (tUn _ te) _)
  intro A H Q x dx d na w e k
  unfold gTbIx at e
  split at e
  · rename_i z
    obtain rfl := w.str
    obtain ⟨es, n, D⟩ := T.ex
    rcases T.look z with ⟨d', e1, v, u, e2, r, h⟩ | ⟨e1, e2⟩
    · rw [e1] at e
      cases e
      exact ⟨a, z, v, rfl, rfl, ⟨es, n, u, D.at_, D.lit, e2, r⟩, k _ H .refl (h _ _)⟩
    · rw [e1] at e
      cases e
  · cases e
end
end Dl
set_option Elab.async false
set_option linter.all false
set_option maxRecDepth 100000
set_option maxHeartbeats 1000000
namespace Dz
open PySem PySem.Spec PyProof.Rows
inductive Al {α β : Type} (F : α → β → Prop) : List α → List β → Prop
  | nil : Al F [] []
  | cons {a b r t} : F a b → Al F r t → Al F (a :: r) (b :: t)
theorem Al.mono {α β : Type} {F G : α → β → Prop} : ∀ {xs ys}, Al F xs ys → (∀ x y, x ∈ xs → y ∈ ys → F x y → G x y) → Al G xs ys
  | _, _, .nil, _ => .nil
  | _, _, .cons h t, g => .cons (g _ _ (.head _) (.head _) h) (t.mono fun x y hx hy => g x y (.tail _ hx) (.tail _ hy))
theorem Al.app {α β : Type} {F : α → β → Prop} : ∀ {xs : List α} {ys : List β} {us : List α} {vs : List β}, Al F xs ys → Al F us vs → Al F (xs ++ us) (ys ++ vs)
  | _, _, _, _, .nil, q => q
  | _, _, _, _, .cons h t, q => .cons h (t.app q)
theorem Al.len {α β : Type} {F : α → β → Prop} : ∀ {xs : List α} {ys : List β}, Al F xs ys → xs.length = ys.length
  | _, _, .nil => rfl
  | _, _, .cons _ t => by simp [t.len]
abbrev Zo (f0 f1 : Value) (TI TO : Addr) : Obj := { cls := .type "zip", dict := none, data := .fields #[f0, f1, .bool false, .ref TI, .ref TO], slots := #[] }
abbrev To (xs : List Value) : Obj := { cls := .type "tuple", data := .seq xs.toArray }
structure ZIt (h : Heap) (z TI TO : Addr) (is ls : List Addr) (k : Nat) (f0 f1 : Value) : Prop where
  o : h.get? z = some (Zo f0 f1 TI TO)
  ti : h.get? TI = some (To (is.map Value.ref))
  to : ∃ vs : List Value, vs.length = is.length ∧ h.get? TO = some (To vs)
  it : Al (fun i l => h.IsTupleIter i l k) is ls
structure ZAp (z TI TO : Addr) (is ls : List Addr) : Prop where
  zTI : TI ≠ z
  zTO : TO ≠ z
  TT : TI ≠ TO
  zi : z ∉ is
  TIi : TI ∉ is
  TOi : TO ∉ is
  zl : z ∉ ls
  TOl : TO ∉ ls
  nd : is.Nodup
  il : ∀ i ∈ is, i ∉ ls
section
variable {prog : Program} {w : World} {A : Around} {E : Value → Shared → Prop} {s : Shared} {z TI TO T : Addr} {is ls : List Addr} {k : Nat} {f : Bool} {oT : Obj} {rows : List (List Value)} {xs : List Value}
abbrev Rws (h : Heap) (ls : List Addr) (rows : List (List Value)) : Prop := Al (fun l (r : List Value) => h.IsTuple l r.toArray) ls rows
theorem next_held (D : ZAp z TI TO is ls) (Z : ZIt s.heap z TI TO is ls k (rawInt T) (.bool f)) (hT : s.heap.get? T = some oT) (hr : Rws s.heap ls rows) (hx : Al (fun (r : List Value) x => r[k]? = some x) rows xs) (ne : is ≠ []) {Q : Value → Shared → Prop} (hxl : xs.length ≤ 1000)
    (hQ : ∀ h', ZIt h' z TI TO is ls (k + 1) (rawInt T) (.bool true) → h'.get? s.heap.objs.size = some (To xs) → h'.objs.size = s.heap.objs.size + 1 →
      (∀ c o, c ≠ z → c ∉ is → s.heap.get? c = some o → h'.get? c = some o) → Q (.ref s.heap.objs.size) { s with heap := h' }) :
    wpAny (model prog w) A (Builtin.«zip.__next__» ⟨[.ref z], []⟩) (fun fin s' => ∃ v, fin = .done (.ret v) ∧ Q v s') E s := by
  show wpAny _ _ (field (.ref z) 2 >>= _) _ _ _
  refine wpAny_bind (wpAny_field Z.o rfl (x := .bool false) rfl ?_)
  show wpAny _ _ (field (.ref z) 3 >>= _) _ _ _
  refine wpAny_bind (wpAny_field Z.o rfl (x := .ref TI) rfl ?_)
  refine wpAny_bind (wpAny_seqItems Z.ti rfl ?_)
  have e0 : (is.map Value.ref).toArray.isEmpty = false := by
    cases is with
    | nil => exact absurd rfl ne
    | cons => rfl
  dsimp only
  rw [e0, if_neg Bool.false_ne_true]
  refine wpAny_bind (wpAny_tupleHeld_zip Z.o hT fun h1 z1 s1 => ?_)
  rw [if_neg Bool.false_ne_true]
  rw [← Array.forIn_toList]
  refine wpAny_bind (wpAny_mono (wpAny_forIn_list (β := Option Fin × Array Value) _ (fun rest b s' => ∃ (i1 i2 l1 l2 : List Addr) (r1 r2 : List (List Value)) (v1 v2 : List Value) (h' : Heap), is = i1 ++ i2 ∧ ls = l1 ++ l2 ∧ rest = i2.map Value.ref ∧ b = (none, v1.toArray) ∧ xs = v1 ++ v2 ∧
      Al (fun (r : List Value) x => r[k]? = some x) r2 v2 ∧ s' = { s with heap := h' } ∧ Al (fun i l => h'.IsTupleIter i l (k + 1)) i1 l1 ∧ Al (fun i l => h'.IsTupleIter i l k) i2 l2 ∧ Rws h' l2 r2 ∧ h'.objs.size = s.heap.objs.size ∧
      h'.get? z = some (Zo (rawInt T) (.bool true) TI TO) ∧ ∀ c o, c ≠ z → c ∉ is → s.heap.get? c = some o → h'.get? c = some o)
    (fun b s' => ∃ (h' : Heap), b = (none, xs.toArray) ∧ s' = { s with heap := h' } ∧ Al (fun i l => h'.IsTupleIter i l (k + 1)) is ls ∧ h'.objs.size = s.heap.objs.size ∧ h'.get? z = some (Zo (rawInt T) (.bool true) TI TO) ∧ ∀ c o, c ≠ z → c ∉ is → s.heap.get? c = some o → h'.get? c = some o)
    (fun x rest b s' hI => ?_) (fun b s' hI => ?_) _ _ ?_) (fun a s' hq => ?_) fun _ _ e => e)
  · obtain ⟨i1, i2, l1, l2, r1, r2, v1, v2, h', ei, el, er, eb, ex, hv, es, a1, a2, a3, sz, zo, kp⟩ := hI
    subst eb es
    cases a2 with
    | nil => cases er
    | @cons i l i2 l2 a2 a2' =>
      cases a3 with
      | @cons _ row _ r2 a3 a3' =>
        cases hv with
        | @cons _ y _ v2 hv hv' =>
          injection er with er1 er2
          subst er1
          have im : i ∈ is := by rw [ei]; simp
          refine wpAny_bind (wpAny_holding ?_)
          show wpAny _ _ (Builtin.SmallTypes.nextOf (.ref i) >>= _) _ _ _
          refine wpAny_bind (RZ.nextOf_tuple_item (s := { s with heap := h' }) a2 a3 (x := y) (by simpa using hv) fun h2 b2 sb => wpAny_pure (wpAny_pure ?_))
          have ni : ∀ j, j ∈ i1 ∨ j ∈ i2 → j ≠ i := fun j hj e => by
            subst e
            have nd := D.nd
            rw [ei, List.nodup_append] at nd
            rcases hj with hj | hj
            · exact nd.2.2 _ hj _ (.head _) rfl
            · exact (List.nodup_cons.mp nd.2.1).1 hj
          have li : ∀ j, j ∈ ls → j ≠ i := fun j hj e => by subst e; exact D.il _ im hj
          refine ⟨i1 ++ [i], i2, l1 ++ [l], l2, r1 ++ [row], r2, v1 ++ [y], v2, h2, by rw [ei]; simp, by rw [el]; simp, er2, by simp, by rw [ex]; simp, hv', rfl, ?_, ?_, ?_, sb.1.trans sz, (sb.2 z (fun e => D.zi (e ▸ im))).trans zo, fun c o c1 c2 e => (sb.2 c (fun e' => c2 (e' ▸ im))).trans (kp c o c1 c2 e)⟩
          · exact (a1.mono fun j m hj hm hq => hq.extBut sb.extBut (ni j (.inl hj))).app (.cons b2 .nil)
          · exact a2'.mono fun j m hj hm hq => hq.extBut sb.extBut (ni j (.inr hj))
          · exact a3'.mono fun m r hm hr hq => hq.extBut sb.extBut (li m (by rw [el]; simp [hm]))
  · obtain ⟨i1, i2, l1, l2, r1, r2, v1, v2, h', ei, el, er, eb, ex, hv, es, a1, a2, a3, sz, zo, kp⟩ := hI
    subst eb es
    have e2 : i2 = [] := by simpa using er.symm
    subst e2
    cases a2
    cases a3
    cases hv
    refine ⟨h', by rw [ex]; simp, rfl, ?_, sz, zo, kp⟩
    rw [ei, el]
    simpa using a1
  · refine ⟨[], is, [], ls, [], rows, [], xs, h1, rfl, rfl, by simp, rfl, rfl, hx, rfl, .nil, ?_, ?_, s1.1, z1, fun c o c1 c2 e => s1.extBut c o c1 e⟩
    · exact Z.it.mono fun j m hj hm hq => hq.extBut s1.extBut (fun e => D.zi (e ▸ hj))
    · exact hr.mono fun m r hm hr hq => hq.extBut s1.extBut (fun e => D.zl (e ▸ hm))
  · obtain ⟨h', eb, es, a1, sz, zo, kp⟩ := hq
    subst eb es
    dsimp only
    refine wpAny_bind (wpAny_newTuple (items := xs.toArray.toList) ?_ (Nat.le_trans (by simpa using hxl) (show 1000 ≤ sizeLine by decide)))
    refine wpAny_pure ⟨_, rfl, ?_⟩
    have up : ∀ c o, h'.get? c = some o → (h'.push (To xs)).get? c = some o := fun c o e => Heap.get?_push_of_some _ e
    have nT : (h'.push (To xs)).get? s.heap.objs.size = some (To xs) := by rw [← sz]; exact Heap.get?_push_size _ rfl
    show Q (.ref h'.objs.size) { s with heap := h'.push { cls := .type "tuple", data := .seq xs.toArray.toList.toArray } }
    rw [sz, Array.toArray_toList]
    refine hQ (h'.push (To xs)) ⟨up _ _ zo, up _ _ (kp _ _ D.zTI D.TIi Z.ti), ?_, a1.mono fun j m hj hm ⟨o, e, r⟩ => ⟨o, up _ _ e, r⟩⟩ nT (by rw [Heap.size_push, sz]) fun c o c1 c2 e => up _ _ (kp c o c1 c2 e)
    obtain ⟨vs, hv, e⟩ := Z.to
    exact ⟨vs, hv, up _ _ (kp _ _ D.zTO D.TOi e)⟩
theorem upd_to {vs : List Value} {j : Nat} {x : Value} {Q : Unit → Shared → Prop} (hT : s.heap.get? TO = some (To vs)) (hl : vs.length ≤ 1000)
    (h : ∀ h', h'.get? TO = some (To (vs.set j x)) → Heap.SameBut TO s.heap h' → Q () { s with heap := h' }) : wpAny (model prog w) A (updateSeq TO (·.setIfInBounds j x)) Q E s := by
  have b : 1000 ≤ sizeLine := by decide
  refine wpAny_updateSeq hT rfl (h _ ?_ (Heap.SameBut.update ..)) (by simp; omega) (by simp; omega)
  rw [Heap.get?_update_self _ hT rfl]
  simp [Obj.mapSeq]
theorem next_free (D : ZAp z TI TO is ls) {f1 : Value} (Z : ZIt s.heap z TI TO is ls k .none f1) (hr : Rws s.heap ls rows) (hx : Al (fun (r : List Value) x => r[k]? = some x) rows xs) (ne : is ≠ []) {Q : Value → Shared → Prop} (hxl : xs.length ≤ 1000)
    (hQ : ∀ h', ZIt h' z TI TO is ls (k + 1) (rawInt s.heap.objs.size) (.bool false) → h'.get? s.heap.objs.size = some (To xs) → h'.objs.size = s.heap.objs.size + 1 →
      (∀ c o, c ≠ z → c ≠ TO → c ∉ is → s.heap.get? c = some o → h'.get? c = some o) → Q (.ref s.heap.objs.size) { s with heap := h' }) :
    wpAny (model prog w) A (Builtin.«zip.__next__» ⟨[.ref z], []⟩) (fun fin s' => ∃ v, fin = .done (.ret v) ∧ Q v s') E s := by
  show wpAny _ _ (field (.ref z) 2 >>= _) _ _ _
  refine wpAny_bind (wpAny_field Z.o rfl (x := .bool false) rfl ?_)
  show wpAny _ _ (field (.ref z) 3 >>= _) _ _ _
  refine wpAny_bind (wpAny_field Z.o rfl (x := .ref TI) rfl ?_)
  refine wpAny_bind (wpAny_seqItems Z.ti rfl ?_)
  have e0 : (is.map Value.ref).toArray.isEmpty = false := by
    cases is with
    | nil => exact absurd rfl ne
    | cons => rfl
  dsimp only
  rw [e0, if_neg Bool.false_ne_true]
  refine wpAny_bind ?_
  unfold Builtin.SmallTypes.ownedTupleIsFree
  refine wpAny_bind (wpAny_field Z.o rfl (x := .none) rfl (wpAny_pure ?_))
  rw [if_pos rfl]
  refine wpAny_bind (wpAny_rule ?_)
  refine wpAny_bind (wpAny_field Z.o rfl (x := .ref TO) rfl ?_)
  refine wpAny_bind (wpAny_setField_rec Z.o (by simp) fun h1 z1 s1 => ?_)
  replace z1 : h1.get? z = some (Zo .ellipsis f1 TI TO) := z1
  obtain ⟨vs, hvs, eTO⟩ := Z.to
  have lx : rows.length = xs.length := hx.len
  have lr : ls.length = rows.length := hr.len
  have li0 : is.length = ls.length := Z.it.len
  refine wpAny_bind (wpAny_mono (wpAny_forIn_list (β := Option Fin × Unit) _ (fun rest b s' => ∃ (i1 i2 l1 l2 : List Addr) (r1 r2 : List (List Value)) (v1 v2 w2 : List Value) (h' : Heap), is = i1 ++ i2 ∧ ls = l1 ++ l2 ∧ rest = (i2.map Value.ref).zipIdx v1.length ∧ b = (none, ()) ∧ xs = v1 ++ v2 ∧
      Al (fun (r : List Value) x => r[k]? = some x) r2 v2 ∧ s' = { s with heap := h' } ∧ Al (fun i l => h'.IsTupleIter i l (k + 1)) i1 l1 ∧ Al (fun i l => h'.IsTupleIter i l k) i2 l2 ∧ Rws h' l2 r2 ∧ h'.objs.size = s.heap.objs.size ∧
      h'.get? z = some (Zo .ellipsis f1 TI TO) ∧ h'.get? TO = some (To (v1 ++ w2)) ∧ w2.length = v2.length ∧ ∀ c o, c ≠ z → c ≠ TO → c ∉ is → s.heap.get? c = some o → h'.get? c = some o)
    (fun b s' => ∃ (h' : Heap), b = (none, ()) ∧ s' = { s with heap := h' } ∧ Al (fun i l => h'.IsTupleIter i l (k + 1)) is ls ∧ h'.objs.size = s.heap.objs.size ∧ h'.get? z = some (Zo .ellipsis f1 TI TO) ∧ h'.get? TO = some (To xs) ∧ ∀ c o, c ≠ z → c ≠ TO → c ∉ is → s.heap.get? c = some o → h'.get? c = some o)
    (fun x rest b s' hI => ?_) (fun b s' hI => ?_) _ _ ?_) (fun a s' hq => ?_) fun _ _ e => e)
  · obtain ⟨i1, i2, l1, l2, r1, r2, v1, v2, w2, h', ei, el, er, eb, ex, hv, es, a1, a2, a3, sz, zo, to, lw, kp⟩ := hI
    subst eb es
    cases a2 with
    | nil => cases er
    | @cons i l i2 l2 a2 a2' =>
      cases a3 with
      | @cons _ row _ r2 a3 a3' =>
        cases hv with
        | @cons _ y _ v2 hv hv' =>
          rw [List.map_cons, List.zipIdx_cons] at er
          injection er with er1 er2
          subst er1
          have im : i ∈ is := by rw [ei]; simp
          have lm : l ∈ ls := by rw [el]; simp
          obtain ⟨u0, w2, rfl⟩ : ∃ u0 w2', w2 = u0 :: w2' := by
            cases w2 with
            | nil => cases lw
            | cons a b => exact ⟨a, b, rfl⟩
          have ni : ∀ j, j ∈ i1 ∨ j ∈ i2 → j ≠ i := fun j hj e => by
            subst e
            have nd := D.nd
            rw [ei, List.nodup_append] at nd
            rcases hj with hj | hj
            · exact nd.2.2 _ hj _ (.head _) rfl
            · exact (List.nodup_cons.mp nd.2.1).1 hj
          have li : ∀ j, j ∈ ls → j ≠ i := fun j hj e => by subst e; exact D.il _ im hj
          have iTO : ∀ j, j ∈ is → j ≠ TO := fun j hj e => D.TOi (e ▸ hj)
          have lTO : ∀ j, j ∈ ls → j ≠ TO := fun j hj e => D.TOl (e ▸ hj)
          refine wpAny_bind (wpAny_onRaise ?_)
          show wpAny _ _ (Builtin.SmallTypes.nextOf (.ref i) >>= _) _ _ _
          refine wpAny_bind (RZ.nextOf_tuple_item (s := { s with heap := h' }) a2 a3 (x := y) (by simpa using hv) fun h2 b2 sb => wpAny_pure ?_)
          have to2 : h2.get? TO = some (To (v1 ++ u0 :: w2)) := sb.extBut _ _ (fun e => D.TOi (e ▸ im)) to
          refine wpAny_bind (wpAny_seqItems to2 rfl ?_)
          dsimp only
          refine wpAny_bind (upd_to (s := { s with heap := h2 }) to2 (by rw [ex] at hxl; simp at hxl lw ⊢; omega) fun h3 to3 s3 => ?_)
          refine wpAny_bind (wpAny_letGo (wpAny_pure ?_))
          have e3 : (v1 ++ u0 :: w2).set v1.length y = (v1 ++ [y]) ++ w2 := by simp
          rw [e3] at to3
          refine ⟨i1 ++ [i], i2, l1 ++ [l], l2, r1 ++ [row], r2, v1 ++ [y], v2, w2, h3, by rw [ei]; simp, by rw [el]; simp, by rw [er2]; simp, rfl, by rw [ex]; simp, hv', rfl, ?_, ?_, ?_, s3.1.trans (sb.1.trans sz), s3.extBut _ _ (fun e => D.zTO e.symm) ((sb.2 z (fun e => D.zi (e ▸ im))).trans zo), to3, by simpa using lw,
            fun c o c1 c2 c3 e => s3.extBut _ _ c2 ((sb.2 c (fun e' => c3 (e' ▸ im))).trans (kp c o c1 c2 c3 e))⟩
          · refine ((a1.mono fun j m hj hm hq => ?_)).app (.cons (b2.extBut s3.extBut (iTO i im)) .nil)
            exact (hq.extBut sb.extBut (ni j (.inl hj))).extBut s3.extBut (iTO j (by rw [ei]; simp [hj]))
          · exact a2'.mono fun j m hj hm hq => (hq.extBut sb.extBut (ni j (.inr hj))).extBut s3.extBut (iTO j (by rw [ei]; simp [hj]))
          · exact a3'.mono fun m r hm hr hq => (hq.extBut sb.extBut (li m (by rw [el]; simp [hm]))).extBut s3.extBut (lTO m (by rw [el]; simp [hm]))
  · obtain ⟨i1, i2, l1, l2, r1, r2, v1, v2, w2, h', ei, el, er, eb, ex, hv, es, a1, a2, a3, sz, zo, to, lw, kp⟩ := hI
    subst eb es
    have e2 : i2 = [] := by
      cases i2 with
      | nil => rfl
      | cons a b => cases er
    subst e2
    cases a2
    cases a3
    cases hv
    have e3 : w2 = [] := by simpa using lw
    subst e3
    refine ⟨h', rfl, rfl, ?_, sz, zo, by rw [ex]; simpa using to, kp⟩
    rw [ei, el]
    simpa using a1
  · refine ⟨[], is, [], ls, [], rows, [], xs, vs, h1, rfl, rfl, by simp, rfl, rfl, hx, rfl, .nil, ?_, ?_, s1.1, z1, s1.extBut _ _ D.zTO eTO, by omega, fun c o c1 c2 c3 e => s1.extBut c o c1 e⟩
    · exact Z.it.mono fun j m hj hm hq => hq.extBut s1.extBut (fun e => D.zi (e ▸ hj))
    · exact hr.mono fun m r hm hr hq => hq.extBut s1.extBut (fun e => D.zl (e ▸ hm))
  · obtain ⟨h', eb, es, a1, sz, zo, to, kp⟩ := hq
    subst eb es
    dsimp only
    refine wpAny_bind (wpAny_seqItems to rfl ?_)
    dsimp only
    refine wpAny_bind (wpAny_newTuple (items := xs.toArray.toList) ?_ (Nat.le_trans (by simpa using hxl) (show 1000 ≤ sizeLine by decide)))
    have up : ∀ c o, h'.get? c = some o → (h'.push (To xs)).get? c = some o := fun c o e => Heap.get?_push_of_some _ e
    have nT : (h'.push (To xs)).get? s.heap.objs.size = some (To xs) := by rw [← sz]; exact Heap.get?_push_size _ rfl
    have zlt : z < s.heap.objs.size := Heap.lt_size Z.o
    refine wpAny_bind ?_
    unfold Builtin.SmallTypes.ownedTupleHandOut
    refine wpAny_bind (wpAny_setField_rec (s := { s with heap := h'.push (To xs) }) (up _ _ zo) (by simp) fun h2 z2 s2 => ?_)
    replace z2 : h2.get? z = some (Zo (rawInt h'.objs.size) f1 TI TO) := z2
    refine wpAny_setField_rec (s := { s with heap := h2 }) z2 (by simp) fun h3 z3 s3 => ?_
    replace z3 : h3.get? z = some (Zo (rawInt h'.objs.size) (.bool false) TI TO) := z3
    refine wpAny_pure ⟨_, rfl, ?_⟩
    rw [sz] at z3 ⊢
    have up3 : ∀ c o, c ≠ z → h'.get? c = some o → h3.get? c = some o := fun c o cz e => s3.extBut _ _ cz (s2.extBut _ _ cz (up _ _ e))
    refine hQ h3 ⟨z3, up3 _ _ D.zTI (kp _ _ D.zTI D.TT D.TIi Z.ti), ⟨xs, by omega, up3 _ _ D.zTO to⟩, a1.mono fun j m hj hm ⟨o, e, r⟩ => ⟨o, up3 _ _ (fun e' => D.zi (e' ▸ hj)) e, r⟩⟩ (s3.extBut _ _ (Nat.ne_of_gt zlt) (s2.extBut _ _ (Nat.ne_of_gt zlt) nT)) ?_
      fun c o c1 c2 c3 e => up3 _ _ c1 (kp c o c1 c2 c3 e)
    rw [s3.1, s2.1, Heap.size_push, sz]
theorem end_held (D : ZAp z TI TO is ls) (Z : ZIt s.heap z TI TO is ls k (rawInt T) (.bool f)) (hT : s.heap.get? T = some oT) (hr : Rws s.heap ls rows) (hx : ∀ r ∈ rows, r[k]? = none) (ne : is ≠ []) (hh : A.handled = none) {Q : Fin → Shared → Prop}
    (hE : ∀ h' e, (∀ c o, c ≠ z → c ∉ is → s.heap.get? c = some o → h'.get? c = some o) → (∃ o, h'.get? e = some o ∧ o.cls = .type "StopIteration") → E (.ref e) { s with heap := h' }) :
    wpAny (model prog w) A (Builtin.«zip.__next__» ⟨[.ref z], []⟩) Q E s := by
  obtain ⟨i, i2, rfl⟩ := List.exists_cons_of_ne_nil ne
  show wpAny _ _ (field (.ref z) 2 >>= _) _ _ _
  refine wpAny_bind (wpAny_field Z.o rfl (x := .bool false) rfl ?_)
  show wpAny _ _ (field (.ref z) 3 >>= _) _ _ _
  refine wpAny_bind (wpAny_field Z.o rfl (x := .ref TI) rfl ?_)
  refine wpAny_bind (wpAny_seqItems Z.ti rfl ?_)
  have e0 : ((i :: i2).map Value.ref).toArray.isEmpty = false := rfl
  dsimp only
  rw [e0, if_neg Bool.false_ne_true]
  refine wpAny_bind (wpAny_tupleHeld_zip Z.o hT fun h1 z1 s1 => ?_)
  rw [if_neg Bool.false_ne_true]
  rw [← Array.forIn_toList]
  refine wpAny_bind ?_
  rw [List.toList_toArray, List.map_cons, List.forIn_cons]
  have zi := Z.it
  cases zi with
  | @cons _ l _ l2 a2 a2' =>
    cases hr with
    | @cons _ row _ r2 a3 a3' =>
      refine wpAny_bind (wpAny_bind (wpAny_holding ?_))
      show wpAny _ _ (Builtin.SmallTypes.nextOf (.ref i) >>= _) _ _ _
      have iz : i ≠ z := fun e => D.zi (e ▸ List.mem_cons_self)
      have lz : l ≠ z := fun e => D.zl (e ▸ List.mem_cons_self)
      refine wpAny_bind (RZ.nextOf_tuple_end (s := { s with heap := h1 }) hh (a2.extBut s1.extBut iz) (a3.extBut s1.extBut lz) (by simpa using hx row (.head _)) fun h2 e s2 he => ?_)
      exact hE h2 e (fun c o c1 c2 x => s2 _ _ (fun e' => c2 (e' ▸ List.mem_cons_self)) (s1.extBut _ _ c1 x)) he
def ZSt (h : Heap) (z TI TO : Addr) (is ls : List Addr) (S k : Nat) : Prop :=
  (k = 0 ∧ ZIt h z TI TO is ls 0 .none (.bool false)) ∨ ∃ (T : Addr) (f : Bool) (oT : Obj), ZIt h z TI TO is ls k (rawInt T) (.bool f) ∧ h.get? T = some oT ∧ T ≠ z ∧ T ∉ is ∧ T ≠ S
theorem ZIt.keep {h h' : Heap} {f0 f1 : Value} {S : Addr} (Z : ZIt h z TI TO is ls k f0 f1) (kp : ∀ b o, b ≠ S → h.get? b = some o → h'.get? b = some o) (hz : z ≠ S) (h1 : TI ≠ S) (h2 : TO ≠ S) (h3 : S ∉ is) : ZIt h' z TI TO is ls k f0 f1 := by
  obtain ⟨vs, hv, e⟩ := Z.to
  exact ⟨kp _ _ hz Z.o, kp _ _ h1 Z.ti, ⟨vs, hv, kp _ _ h2 e⟩, Z.it.mono fun j m hj hm ⟨o, e, r⟩ => ⟨o, kp _ _ (fun e' => h3 (e' ▸ hj)) e, r⟩⟩
theorem turn_item (D : ZAp z TI TO is ls) {S : Addr} (Z : ZSt s.heap z TI TO is ls S k) (hr : Rws s.heap ls rows) (hx : Al (fun (r : List Value) x => r[k]? = some x) rows xs) (ne : is ≠ []) (hS : S < s.heap.objs.size) {Q : Option Value → Shared → Prop} (hxl : xs.length ≤ 1000)
    (hQ : ∀ h', ZSt h' z TI TO is ls S (k + 1) → h'.get? s.heap.objs.size = some (To xs) → h'.objs.size = s.heap.objs.size + 1 →
      (∀ c o, c ≠ z → c ≠ TO → c ∉ is → s.heap.get? c = some o → h'.get? c = some o) → Q (some (.ref s.heap.objs.size)) { s with heap := h' }) :
    wpAny (model prog w) A (pyNext (.ref z)) Q E s := by
  have lt : ∀ {c o}, s.heap.get? c = some o → s.heap.objs.size ≠ c := fun e => Nat.ne_of_gt (Heap.lt_size e)
  have ilt : ∀ {f0 f1 : Value}, ZIt s.heap z TI TO is ls k f0 f1 → s.heap.objs.size ∉ is := fun {f0 f1} Z hm => by
    have q : ∀ {us : List Addr} {vs : List Addr}, Al (fun i l => s.heap.IsTupleIter i l k) us vs → s.heap.objs.size ∈ us → False := fun {us vs} q => by
      induction q with
      | nil => intro h; cases h
      | cons h t ih =>
        intro hm
        rcases List.mem_cons.mp hm with rfl | hm
        · obtain ⟨o, e, _⟩ := h
          exact lt e rfl
        · exact ih hm
    exact q Z.it hm
  have go : ∀ {F : Fin → Shared → Prop}, wpAny (model prog w) A.in1 (Builtin.«zip.__next__» ⟨[.ref z], []⟩) F E s → True := fun _ => trivial
  rcases Z with ⟨rfl, Z⟩ | ⟨T, f, oT, Z, hT, h1, h2, h3⟩
  · have hTy : s.TypeIs (.ref z) "zip" := ⟨_, Z.o, rfl⟩
    unfold pyNext
    refine wpAny_bind (wpAny_attempt (wpAny_callSpecial?_slot (name := Str.ofString "__next__") hTy F.slot_zip_next (wpAny_call_entry F.slot_zip_next hTy F.entry_zip_next (next_free D Z hr hx ne hxl fun h' a1 a2 a3 a4 => wpAny_pure ?_) (F.args_zip_next_1 _))))
    exact hQ h' (.inr ⟨_, false, _, a1, a2, lt Z.o, ilt Z, Nat.ne_of_gt hS⟩) a2 a3 a4
  · have hTy : s.TypeIs (.ref z) "zip" := ⟨_, Z.o, rfl⟩
    unfold pyNext
    refine wpAny_bind (wpAny_attempt (wpAny_callSpecial?_slot (name := Str.ofString "__next__") hTy F.slot_zip_next (wpAny_call_entry F.slot_zip_next hTy F.entry_zip_next (next_held D Z hT hr hx ne hxl fun h' a1 a2 a3 a4 => wpAny_pure ?_) (F.args_zip_next_1 _))))
    exact hQ h' (.inr ⟨T, true, oT, a1, a4 _ _ h1 h2 hT, h1, h2, h3⟩) a2 a3 fun c o c1 _ c3 e => a4 c o c1 c3 e
theorem turn_done (D : ZAp z TI TO is ls) {S : Addr} (Z : ZSt s.heap z TI TO is ls S (k + 1)) (hr : Rws s.heap ls rows) (hx : ∀ r ∈ rows, r[k + 1]? = none) (ne : is ≠ []) (hh : A.handled = none) {Q : Option Value → Shared → Prop}
    (hQ : ∀ h', (∀ c o, c ≠ z → c ∉ is → s.heap.get? c = some o → h'.get? c = some o) → Q none { s with heap := h' }) : wpAny (model prog w) A (pyNext (.ref z)) Q E s := by
  rcases Z with ⟨h, _⟩ | ⟨T, f, oT, Z, hT, h1, h2, h3⟩
  · cases h
  have hTy : s.TypeIs (.ref z) "zip" := ⟨_, Z.o, rfl⟩
  unfold pyNext
  refine wpAny_bind (wpAny_attempt (wpAny_callSpecial?_slot (name := Str.ofString "__next__") hTy F.slot_zip_next (wpAny_call_entry F.slot_zip_next hTy F.entry_zip_next (end_held (A := A.in1) D Z hT hr hx ne hh fun h' e hk he => ?_) (F.args_zip_next_1 _))))
  obtain ⟨o, ho, hc⟩ := he
  exact wpAny_bind (wpAny_isInstance (T := "StopIteration") (b := true) ⟨o, ho, hc⟩ isSubtype_stop (wpAny_pure (hQ _ hk)))
end
end Dz
set_option Elab.async false
set_option linter.all false
set_option maxRecDepth 100000
set_option maxHeartbeats 1000000
namespace Dz
open PySem PySem.Spec PyProof.Rows
theorem ZSt.keep {h h' : Heap} {z TI TO S k} {is ls : List Addr} (Z : ZSt h z TI TO is ls S k) (kp : ∀ b o, b ≠ S → h.get? b = some o → h'.get? b = some o) (hz : z ≠ S) (h1 : TI ≠ S) (h2 : TO ≠ S) (h3 : S ∉ is) : ZSt h' z TI TO is ls S k := by
  rcases Z with ⟨e, Z⟩ | ⟨T, f, oT, Z, hT, n1, n2, n3⟩
  · exact .inl ⟨e, Z.keep kp hz h1 h2 h3⟩
  · exact .inr ⟨T, f, oT, Z.keep kp hz h1 h2 h3, kp _ _ n3 hT, n1, n2, n3⟩
structure Cg (lo : Addr) (h : Heap) (cols : List (List Value)) (as : List Addr) : Prop where
  rise : as.Pairwise (· < ·)
  above : ∀ a ∈ as, lo < a
  tups : Al (fun a (c : List Value) => h.get? a = some (To c)) as cols
theorem al_mem {α β : Type} {F : α → β → Prop} : ∀ {xs : List α} {ys : List β}, Al F xs ys → ∀ {x}, x ∈ xs → ∃ y ∈ ys, F x y
  | _, _, .nil, _, h => by cases h
  | _, _, .cons h t, x, hx => by
    rcases List.mem_cons.mp hx with rfl | hx
    · exact ⟨_, .head _, h⟩
    · obtain ⟨y, hy, r⟩ := al_mem t hx
      exact ⟨y, .tail _ hy, r⟩
theorem Cg.there {lo h cols as} (g : Cg lo h cols as) {a : Addr} (ha : a ∈ as) : a < h.objs.size := by
  obtain ⟨c, _, e⟩ := al_mem g.tups ha
  exact Heap.lt_size e
structure Bel (z TI TO : Addr) (is ls : List Addr) (S : Addr) : Prop where
  z : z < S
  TI : TI < S
  TO : TO < S
  is : ∀ i ∈ is, i < S
  ls : ∀ l ∈ ls, l < S
section
variable {prog : Program} {w : World} {A : Around} {s : Shared} {R : Result → Shared → Prop} {z TI TO : Addr} {is ls : List Addr} {rows cols : List (List Value)}
theorem zloop {S : Addr} (D : ZAp z TI TO is ls) (B : Bel z TI TO is ls S) (hh : A.handled = none) (hn : cols.length ≤ 1000) (ne : is ≠ []) (hr1 : rows.length ≤ 1000) (h1c : 1 ≤ cols.length)
    (hx : ∀ (k : Nat) (c : List Value), cols[k]? = some c → Al (fun (r : List Value) x => r[k]? = some x) rows c) (hend : ∀ r ∈ rows, r[cols.length]? = none) (res : Value) {h₁ : Heap} (hls : ∀ l ∈ ls, l < S)
    (hR : ∀ h' acc c as, (∀ b o, b ≠ S → b ≠ z → b ≠ TO → b ∉ is → h₁.get? b = some o → h'.get? b = some o) → h'.get? S = some { cls := .type "list", dict := none, data := .seq acc c, slots := #[] } → Cg S h' cols as →
      acc.toList = as.map Value.ref → R (.ok (.ret res)) { s with heap := h' }) :
    ∀ (j k : Nat) (h : Heap) (c : Nat) (acc : Array Value) (as : List Addr), cols.length - k = j → k ≤ cols.length → ZSt h z TI TO is ls S k → Rws h ls rows → (∀ b o, b ≠ S → b ≠ z → b ≠ TO → b ∉ is → h₁.get? b = some o → h.get? b = some o) →
      h.get? S = some { cls := .type "list", dict := none, data := .seq acc c, slots := #[] } → acc.toList = as.map Value.ref → Cg S h (cols.take k) as →
      codeAny (model prog w) A (.builtin "list.extend.loop" ⟨[.ref S, .ref z, res], []⟩) R { s with heap := h } := by
  have Sz : z ≠ S := Nat.ne_of_lt B.z
  have STI : TI ≠ S := Nat.ne_of_lt B.TI
  have STO : TO ≠ S := Nat.ne_of_lt B.TO
  have Sis : S ∉ is := fun h => Nat.lt_irrefl _ (B.is _ h)
  intro j
  induction j with
  | zero =>
    intro k h c acc as hj hk Z hr kp hS ea g
    have ek : k = cols.length := by omega
    obtain ⟨k', rfl⟩ : ∃ k', k = k' + 1 := ⟨k - 1, by omega⟩
    refine codeAny_builtin PySem.F.entry_extend_loop ?_
    rw [Around.under_plainId PySem.F.plain_extend_loop _]
    show wpAny _ A.in1 (pyNext (.ref z) >>= _) _ _ _
    refine wpAny_bind (turn_done (s := { s with heap := h }) (A := A.in1) D Z hr (fun r hm => by rw [ek]; exact hend r hm) ne hh fun h' hk' => ?_)
    rw [ek, List.take_length] at g
    have ab : ∀ a ∈ as, a ≠ z ∧ a ∉ is := fun a ha => ⟨fun e => Nat.lt_asymm B.z (e ▸ g.above a ha), fun hm => Nat.lt_asymm (B.is a hm) (g.above a ha)⟩
    refine wpAny_pure (hR h' acc c as (fun b o h1 h2 h3 h4 e => hk' b o h2 h4 (kp b o h1 h2 h3 h4 e)) (hk' S _ (Ne.symm Sz) Sis hS) ⟨g.rise, g.above, ?_⟩ ea)
    exact g.tups.mono fun a c ha _ e => hk' a _ (ab a ha).1 (ab a ha).2 e
  | succ j ih =>
    intro k h c acc as hj hk Z hr kp hS ea g
    have hlt : k < cols.length := by omega
    obtain ⟨col, hc⟩ : ∃ col, cols[k]? = some col := ⟨cols[k], List.getElem?_eq_getElem hlt⟩
    have hcl := hx k col hc
    have hsz : acc.size = k := by
      have e1 : as.length = (cols.take k).length := g.tups.len
      rw [← Array.length_toList, ea, List.length_map, e1, List.length_take]
      omega
    refine codeAny_builtin PySem.F.entry_extend_loop ?_
    rw [Around.under_plainId PySem.F.plain_extend_loop _]
    show wpAny _ A.in1 (pyNext (.ref z) >>= _) _ _ _
    refine wpAny_bind (turn_item (s := { s with heap := h }) (S := S) D Z hr hcl ne (Heap.lt_size hS) (by rw [← hcl.len]; exact hr1) fun h' Z' hT hz' hk' => ?_)
    dsimp only at hT hz' hk' ⊢
    have hS' := hk' S _ (Ne.symm Sz) (Ne.symm STO) Sis hS
    have hSl : S < h.objs.size := Heap.lt_size hS
    have up : ∀ b o, b ≠ S → h'.get? b = some o → (h'.update S (Obj.mapSeq (·.push (Value.ref h.objs.size)))).get? b = some o := fun b o hb e => (Heap.get?_update_other _ _ (Ne.symm hb)).trans e
    have ab : ∀ a, S < a → a ≠ z ∧ a ≠ TO ∧ a ∉ is ∧ a ≠ S := fun a ha => ⟨fun e => Nat.lt_asymm B.z (e ▸ ha), fun e => Nat.lt_asymm B.TO (e ▸ ha), fun hm => Nat.lt_asymm (B.is a hm) ha, Nat.ne_of_gt ha⟩
    have lb : ∀ l ∈ ls, l ≠ z ∧ l ≠ TO ∧ l ∉ is ∧ l ≠ S := fun l hl => ⟨fun e => D.zl (e ▸ hl), fun e => D.TOl (e ▸ hl), fun hm => D.il l hm hl, Nat.ne_of_lt (B.ls l hl)⟩
    show wpAny _ A.in1 (updateSeq S (·.push (Value.ref h.objs.size)) >>= _) _ _ _
    refine wpAny_bind ?_
    refine wpAny_updateSeq hS' rfl (wpAny_pure ⟨plainId_quiet PySem.F.plain_extend_loop _, ih (k + 1) _ _ (acc.push (Value.ref h.objs.size)) (as ++ [h.objs.size]) (by omega) hlt (Z'.keep up Sz STI STO Sis) ?_
      (fun b o h1 h2 h3 h4 e => up b o h1 (hk' b o h2 h3 h4 (kp b o h1 h2 h3 h4 e))) (Heap.get?_update_self _ hS' rfl) (by rw [Array.toList_push, ea, List.map_append]; rfl) ⟨?_, ?_, ?_⟩⟩) (by rw [hsz]; exact Nat.le_trans (by omega) (show 1000 ≤ sizeLine by decide)) (by show (acc.push (Value.ref h.objs.size)).size ≤ sizeLine + 1; rw [Array.size_push, hsz]; exact Nat.le_trans (by omega) (show 1000 ≤ sizeLine + 1 by decide))
    · exact hr.mono fun l r hl _ q => by
        obtain ⟨n1, n2, n3, n4⟩ := lb l hl
        obtain ⟨o, e, rest⟩ := q
        exact ⟨o, up _ _ n4 (hk' _ _ n1 n2 n3 e), rest⟩
    · refine List.pairwise_append.mpr ⟨g.rise, List.pairwise_singleton _ _, fun a ha b hb => ?_⟩
      rw [List.mem_singleton.mp hb]
      exact g.there ha
    · intro a ha
      rcases List.mem_append.mp ha with ha | ha
      · exact g.above a ha
      · rw [List.mem_singleton.mp ha]; exact hSl
    · have et : cols.take (k + 1) = cols.take k ++ [col] := by rw [List.take_succ, hc]; rfl
      rw [et]
      refine (g.tups.mono fun a c ha _ e => ?_).app (.cons (up _ _ (Nat.ne_of_gt hSl) hT) .nil)
      obtain ⟨n1, n2, n3, n4⟩ := ab a (g.above a ha)
      exact up _ _ n4 (hk' _ _ n1 n2 n3 e)
end
theorem zip_no_len : typeLookup (.type "zip") "__len__" = pure none := by rw [typeLookup_type, builtinLookup_eq_fast]; kernel_rfl
theorem zip_no_hint : typeLookup (.type "zip") "__length_hint__" = pure none := by rw [typeLookup_type, builtinLookup_eq_fast]; kernel_rfl
section
variable {prog : Program} {w : World} {A : Around} {E : Value → Shared → Prop} {s : Shared} {z TI TO : Addr} {is ls : List Addr} {rows cols : List (List Value)}
theorem zlist {Q : Value → Shared → Prop} (D : ZAp z TI TO is ls) (hh : A.handled = none) (Z : ZIt s.heap z TI TO is ls 0 .none (.bool false)) (hr : Rws s.heap ls rows) (hn : cols.length ≤ 1000) (ne : is ≠ []) (hr1 : rows.length ≤ 1000) (h1c : 1 ≤ cols.length)
    (hx : ∀ (k : Nat) (c : List Value), cols[k]? = some c → Al (fun (r : List Value) x => r[k]? = some x) rows c) (hend : ∀ r ∈ rows, r[cols.length]? = none)
    (hQ : ∀ h' acc c as, (∀ b o, b ≠ z → b ≠ TO → b ∉ is → s.heap.get? b = some o → h'.get? b = some o) → h'.get? s.heap.objs.size = some { cls := .type "list", dict := none, data := .seq acc c, slots := #[] } → Cg s.heap.objs.size h' cols as →
      acc.toList = as.map Value.ref → Q (.ref s.heap.objs.size) { s with heap := h' }) :
    wpAny (model prog w) A (call (.type "list") [.ref z]) Q E s := by
  refine callType_codes (Q₁ := fun obj s₁ => obj = .ref s.heap.objs.size ∧ s₁ = { s with heap := s.heap.push { cls := .type "list", data := .seq #[] } }) PySem.F.called_list (PySem.F.typeCall_list_1 _) PySem.F.entry_list_init
    (code_list_new _ ⟨rfl, rfl⟩) fun obj s₁ h₁ => ?_
  obtain ⟨rfl, rfl⟩ := h₁
  have hS : (s.heap.push { cls := .type "list", data := .seq #[] }).get? s.heap.objs.size = some { cls := .type "list", data := .seq #[] } := Heap.get?_push_size _ rfl
  have lt : ∀ {c o}, s.heap.get? c = some o → c < s.heap.objs.size := fun e => Heap.lt_size e
  obtain ⟨vs, hvs, eTO⟩ := Z.to
  have B : Bel z TI TO is ls s.heap.objs.size := ⟨lt Z.o, lt Z.ti, lt eTO, fun i hi => by obtain ⟨_, _, o, e, _⟩ := al_mem Z.it hi; exact lt e, fun l hl => by obtain ⟨_, _, o, e, _⟩ := al_mem hr hl; exact lt e⟩
  have Sz : s.heap.objs.size ≠ z := Nat.ne_of_gt B.z
  have STI : TI ≠ s.heap.objs.size := Nat.ne_of_lt B.TI
  have STO : TO ≠ s.heap.objs.size := Nat.ne_of_lt B.TO
  have Sis : s.heap.objs.size ∉ is := fun h => Nat.lt_irrefl _ (B.is _ h)
  refine ⟨⟨_, hS, rfl⟩, PySem.F.args_list_init_2 _ _, ?_⟩
  show wpAny _ _ (do let old ← Builtin.List.listItems (.ref s.heap.objs.size); Builtin.List.listUpdate (.ref s.heap.objs.size) (fun _ => #[]); letGo old.toList.reverse; Builtin.List.listExtendWith (.ref s.heap.objs.size) (.ref z) .none) _ _ _
  refine wpAny_bind ?_
  unfold Builtin.List.listItems
  refine wpAny_bind (wpAny_seqItems hS rfl (wpAny_pure ?_))
  show wpAny _ _ (updateSeq s.heap.objs.size (fun _ => #[]) >>= fun _ => letGo (#[] : Array Value).toList.reverse >>= fun _ => Builtin.List.listExtendWith (.ref s.heap.objs.size) (.ref z) .none) _ _ _
  refine wpAny_bind (wpAny_updateSeq hS rfl ?_)
  have hS₂ := Heap.get?_update_self (Obj.mapSeq (fun _ => (#[] : Array Value))) hS rfl
  have k2 : ∀ b o, b ≠ s.heap.objs.size → s.heap.get? b = some o → ((s.heap.push { cls := .type "list", data := .seq #[] }).update s.heap.objs.size (Obj.mapSeq (fun _ => (#[] : Array Value)))).get? b = some o :=
    fun b o hb e => (Heap.get?_update_other _ _ (Ne.symm hb)).trans (Heap.get?_push_of_some _ e)
  refine wpAny_bind (wpAny_letGo ?_)
  generalize (s.heap.push { cls := .type "list", data := .seq #[] }).update s.heap.objs.size (Obj.mapSeq (fun _ => (#[] : Array Value))) = h2 at hS₂ k2
  have hz2 := k2 _ _ (Ne.symm Sz) Z.o
  have hT2 : Shared.TypeIs ({ s with heap := h2 } : Shared) (.ref z) "zip" := ⟨_, hz2, rfl⟩
  unfold Builtin.List.listExtendWith
  refine wpAny_bind (wpAny_typeOf hT2 ?_)
  have e1 : Builtin.List.listSameRef (.ref s.heap.objs.size) (.ref z) = false := by simp [Builtin.List.listSameRef, Sz]
  have e2 : (Value.type "zip" == Value.type "list") = false := by decide
  have e3 : (Value.type "zip" == Value.type "tuple") = false := by decide
  simp only [e1, e2, e3, Bool.or_false, Bool.false_eq_true, if_false]
  have it : ∀ {Q : Value → Shared → Prop} {E : Value → Shared → Prop}, Q (.ref z) { s with heap := h2 } → wpAny (model prog w) A.in1.in1 (pyIter (.ref z)) Q E { s with heap := h2 } := fun h => wpAny_pyIter_zip hz2 h
  refine wpAny_bind (it ?_)
  refine wpAny_bind (wpAny_holding ?_)
  unfold Builtin.List.listLengthHint
  refine wpAny_bind (wpAny_specialOf hT2 zip_no_len ?_)
  show wpAny _ _ (specialOf (Value.ref z) (Str.ofString "__length_hint__") >>= _) _ _ _
  refine wpAny_bind (wpAny_specialOf hT2 zip_no_hint ?_)
  refine wpAny_pure ?_
  show wpAny _ _ (rule "list.extend.makes-room" >>= fun _ => Builtin.List.listTouch (.ref s.heap.objs.size) >>= fun _ =>
    again (.builtin "list.extend.loop" ⟨[.ref s.heap.objs.size, .ref z, .none], []⟩)) _ _ _
  refine wpAny_bind (wpAny_rule ?_)
  refine wpAny_bind ?_
  show wpAny _ _ (updateSeq s.heap.objs.size (·.push .none) >>= fun _ => updateSeq s.heap.objs.size (·.pop)) _ _ _
  refine wpAny_bind (wpAny_updateSeq hS₂ rfl ?_)
  have hS₃ := Heap.get?_update_self (Obj.mapSeq (·.push Value.none)) hS₂ rfl
  refine wpAny_updateSeq (hz := by seq_fits) hS₃ rfl ?_
  have hS₄ := Heap.get?_update_self (Obj.mapSeq (·.pop)) hS₃ rfl
  have k4 : ∀ b o, b ≠ s.heap.objs.size → s.heap.get? b = some o → ((h2.update s.heap.objs.size (Obj.mapSeq (·.push Value.none))).update s.heap.objs.size (Obj.mapSeq (·.pop))).get? b = some o :=
    fun b o hb e => (Heap.get?_update_other _ _ (Ne.symm hb)).trans ((Heap.get?_update_other _ _ (Ne.symm hb)).trans (k2 b o hb e))
  refine wpAny_pure ⟨plainId_quiet PySem.F.plain_extend_loop _, zloop (A := A.in1) (cols := cols) (s := s) (h₁ := s.heap) D B hh hn ne hr1 h1c hx hend .none B.ls (fun h' acc c as kp hS' g ea => ?_) cols.length 0 _ _ #[] [] (Nat.sub_zero _) (Nat.zero_le _)
    (.inl ⟨rfl, Z.keep k4 (Ne.symm Sz) STI STO Sis⟩) (hr.mono fun l r hl _ q => ?_) (fun b o h1 _ _ _ e => k4 b o h1 e) hS₄ rfl ⟨.nil, (fun _ h => nomatch h), .nil⟩⟩
  · exact ⟨rfl, hQ h' acc c as (fun b o h1 h2 h3 e => kp b o (Nat.ne_of_lt (Heap.lt_size e)) h1 h2 h3 e) hS' g ea⟩
  · obtain ⟨o, e, rest⟩ := q
    exact ⟨o, k4 _ _ (Nat.ne_of_lt (B.ls l hl)) e, rest⟩
end
end Dz
set_option Elab.async false
set_option linter.all false
set_option maxRecDepth 100000
set_option maxHeartbeats 1000000
namespace Dz
open PySem PySem.Spec PyProof.Rows L2
section
variable {M : Model} {A : Around} {E : Value → Shared → Prop} {s : Shared} {env : Env} {pos p : Pos} {T : String} {Q : Value → Shared → Prop} {e : Expr}
theorem callWith_typeS (h : wpAny M A (eval e env) (fun v s1 => PySem.W.StarOf M A E v (fun vs s2 => wpAny M A (call (.type T) vs) Q E s2) s1) E s) (he : starEach [.Starred e p] env = [(true, eval e env)] := by rfl) :
    wpAny M A (callWith pos (.type T) [] (backTo pos (starEach [.Starred e p] env)) []) Q E s := by
  rw [he]
  refine PySem.W.ks_call (P := fun _ => True) rfl (fun _ _ => ⟨Keeper.machine, .inr (.inl rfl), PySem.W.Looks.of_pure rfl⟩) (PySem.W.ks_lone ?_)
  exact wpAny_mono h (fun v s1 h1 => wpAny_mono h1 (fun b s2 h2 => ⟨h2.1, wpAny_mono h2.2 (fun vs s3 h3 => ⟨trivial, h3⟩) fun _ _ y => y⟩) fun _ _ y => y) fun _ _ y => y
end
theorem tc1 (a : Value) : checkTypeCall "zip" ⟨[a], []⟩ = pure () := by kernel_rfl
theorem nc1 (a : Value) : checkBuiltinCall "zip.__new__" ⟨[.type "zip", a], []⟩ = pure () := by kernel_rfl
theorem meets_z1 (l : Addr) (xs : Array Value) : Meets (Builtin.«zip.__new__» ⟨[.type "zip", .ref l], []⟩) (fun _ R s => s.heap.IsTuple l xs ∧
      R (.ok (.ret (.ref (((s.heap.push { cls := .type "tuple_iterator", data := .fields #[.ref l, .int 0 0] }).push { cls := .type "tuple", data := .seq #[.ref s.heap.objs.size] }).push { cls := .type "tuple", data := .seq #[.none] }).objs.size)))
        { s with heap := ((((s.heap.push { cls := .type "tuple_iterator", data := .fields #[.ref l, .int 0 0] }).push { cls := .type "tuple", data := .seq #[.ref s.heap.objs.size] }).push { cls := .type "tuple", data := .seq #[.none] }).push
          { cls := .type "zip", data := .fields #[.none, .bool false, .bool false, .ref (s.heap.push { cls := .type "tuple_iterator", data := .fields #[.ref l, .int 0 0] }).objs.size, .ref ((s.heap.push { cls := .type "tuple_iterator", data := .fields #[.ref l, .int 0 0] }).push { cls := .type "tuple", data := .seq #[.ref s.heap.objs.size] }).objs.size] }) }) :=
  .of_wp fun prog w A R s h => by
    obtain ⟨hp, g, d, tk, os⟩ := s
    obtain ⟨h1, h⟩ := h
    have hsub := sub_zip
    have q1 : Heap.IsTuple (Shared.heap ⟨hp, g, d, tk, os⟩) l xs := h1
    wp_walk using wpAny_pyIter_tuple q1
    exact ⟨_, rfl, h⟩
section
variable {prog : Program} {w : World} {A : Around} {E : Value → Shared → Prop} {s : Shared}
theorem zip1 {l : Addr} {xs : Array Value} {Q : Value → Shared → Prop} (hl : s.heap.IsTuple l xs)
    (h : ∀ h', h'.get? (s.heap.objs.size + 3) = some (Zo .none (.bool false) (s.heap.objs.size + 1) (s.heap.objs.size + 2)) → h'.get? (s.heap.objs.size + 1) = some (To [.ref s.heap.objs.size]) → h'.get? (s.heap.objs.size + 2) = some (To [.none]) →
      h'.IsTupleIter s.heap.objs.size l 0 → (∀ c o, s.heap.get? c = some o → h'.get? c = some o) → Q (.ref (s.heap.objs.size + 3)) { s with heap := h' }) : wpAny (model prog w) A (call (.type "zip") [.ref l]) Q E s := by
  refine callType_new F.called_zip (by decide) (tc1 _) (nc1 _) (fun obj => F.args_object_init_2 obj _) F.entry_zip_new (meets_z1 l xs) ⟨hl, ?_⟩
  have p1 : (s.heap.push { cls := .type "tuple_iterator", data := .fields #[.ref l, .int 0 0] }).objs.size = s.heap.objs.size + 1 := Heap.size_push ..
  have p2 : ((s.heap.push { cls := .type "tuple_iterator", data := .fields #[.ref l, .int 0 0] }).push { cls := .type "tuple", data := .seq #[.ref s.heap.objs.size] }).objs.size = s.heap.objs.size + 2 := by rw [Heap.size_push, p1]
  have p3 : (((s.heap.push { cls := .type "tuple_iterator", data := .fields #[.ref l, .int 0 0] }).push { cls := .type "tuple", data := .seq #[.ref s.heap.objs.size] }).push { cls := .type "tuple", data := .seq #[.none] }).objs.size = s.heap.objs.size + 3 := by rw [Heap.size_push, p2]
  show _ ∧ _
  rw [p3, p2, p1]
  have up : ∀ {h : Heap} {o : Obj} {b : Addr} {u : Obj}, h.get? b = some u → (h.push o).get? b = some u := fun e => Heap.get?_push_of_some _ e
  have nw : ∀ {h : Heap} {o : Obj} {n : Nat}, h.objs.size = n → o.isFreed = false → (h.push o).get? n = some o := fun e f => by subst e; exact Heap.get?_push_size _ f
  refine ⟨⟨_, nw p3 rfl, rfl⟩, h _ (nw p3 rfl) (up (up (nw p1 rfl))) (up (nw p2 rfl)) ⟨_, up (up (up (nw rfl rfl))), rfl, rfl⟩ fun c o e => up (up (up (up e)))⟩
theorem zip_rows {ls : List Addr} {rows : List (List Value)} {Q : Value → Shared → Prop} (hr : Rws s.heap ls rows) (h1 : 1 ≤ ls.length) (h3 : ls.length ≤ 3)
    (hQ : ∀ (h' : Heap) (z TI TO : Addr) (is : List Addr), ZAp z TI TO is ls → ZIt h' z TI TO is ls 0 .none (.bool false) → is ≠ [] → s.heap.objs.size ≤ z → s.heap.objs.size ≤ TO → (∀ i ∈ is, s.heap.objs.size ≤ i) →
      (∀ c o, s.heap.get? c = some o → h'.get? c = some o) → Q (.ref z) { s with heap := h' }) : wpAny (model prog w) A (call (.type "zip") (ls.map Value.ref)) Q E s := by
  have lt : ∀ l ∈ ls, l < s.heap.objs.size := fun l hl => by obtain ⟨_, _, o, e, _⟩ := al_mem hr hl; exact Heap.lt_size e
  have neN : ∀ l ∈ ls, ∀ k : Nat, s.heap.objs.size + k ≠ l := fun l hl k e => Nat.not_lt.mpr (Nat.le_add_right _ k) (e ▸ lt l hl)
  have neN0 : ∀ l ∈ ls, s.heap.objs.size ≠ l := fun l hl e => Nat.lt_irrefl _ (e ▸ lt l hl)
  have nN : ∀ k : Nat, s.heap.objs.size + k ∉ ls := fun k hm => neN _ hm k rfl
  have nN0 : s.heap.objs.size ∉ ls := fun hm => neN0 _ hm rfl
  match ls, rows, hr with
  | [l1], [r1], .cons a1 .nil =>
    refine zip1 a1 fun h' e1 e2 e3 e4 kp => hQ h' _ _ _ [s.heap.objs.size] ⟨by simp, by simp, by simp, by simp, by simp, by simp, nN 3, nN 2, by simp, ?_⟩ ⟨e1, e2, ⟨_, rfl, e3⟩, .cons e4 .nil⟩ (by simp) (Nat.le_add_right _ _) (Nat.le_add_right _ _) (by simp) kp
    intro i hi
    rw [List.mem_singleton.mp hi]
    exact nN0
  | [l1, l2], [r1, r2], .cons a1 (.cons a2 .nil) =>
    refine zip_begins2 (begins_tuple l1 r1.toArray) (begins_tuple l2 r2.toArray) a1 a2 fun h' e1 e2 e3 i1 i2 _ kp => hQ h' _ _ _ [s.heap.objs.size, s.heap.objs.size + 1] ⟨by simp, by simp, by simp, by simp, by simp, by simp, nN 4, nN 3, by simp, ?_⟩ ⟨e1, e2, ⟨[.none, .none], rfl, e3⟩, .cons ⟨_, i1, rfl, rfl⟩ (.cons ⟨_, i2, rfl, rfl⟩ .nil)⟩ (by simp) (Nat.le_add_right _ _) (Nat.le_add_right _ _) (by simp) kp
    intro i hi
    rcases List.mem_cons.mp hi with rfl | hi
    · exact nN0
    · rw [List.mem_singleton.mp hi]
      exact nN 1
  | [l1, l2, l3], [r1, r2, r3], .cons a1 (.cons a2 (.cons a3 .nil)) =>
    refine zip_begins3 (begins_tuple l1 r1.toArray) (begins_tuple l2 r2.toArray) (begins_tuple l3 r3.toArray) a1 a2 a3 fun h' e1 e2 e3 i1 i2 i3 _ kp => hQ h' _ _ _ [s.heap.objs.size, s.heap.objs.size + 1, s.heap.objs.size + 2] ⟨by simp, by simp, by simp, by simp, by simp, by simp, nN 5, nN 4, by simp, ?_⟩
      ⟨e1, e2, ⟨[.none, .none, .none], rfl, e3⟩, .cons ⟨_, i1, rfl, rfl⟩ (.cons ⟨_, i2, rfl, rfl⟩ (.cons ⟨_, i3, rfl, rfl⟩ .nil))⟩ (by simp) (Nat.le_add_right _ _) (Nat.le_add_right _ _) (by simp) kp
    intro i hi
    rcases List.mem_cons.mp hi with rfl | hi
    · exact nN0
    · rcases List.mem_cons.mp hi with rfl | hi
      · exact nN 1
      · rw [List.mem_singleton.mp hi]
        exact nN 2
end
def lk : List Addr → List (List V) → Addr → Option (List V)
  | a :: as, c :: cs, b => if b = a then some c else lk as cs b
  | _, _, _ => none
theorem lk_none : ∀ {as : List Addr} {cs : List (List V)} {b : Addr}, b ∉ as → lk as cs b = none
  | [], _, _, _ => rfl
  | _ :: _, [], _, _ => rfl
  | a :: as, c :: cs, b, h => by
    unfold lk
    rw [if_neg fun e => h (by rw [e]; exact .head _)]
    exact lk_none fun hm => h (.tail _ hm)
theorem lk_at : ∀ {as : List Addr} {cs : List (List V)}, as.Nodup → as.length = cs.length → Al (fun t c => lk as cs t = some c) as cs
  | [], [], _, _ => .nil
  | [], _ :: _, _, h => by cases h
  | _ :: _, [], _, h => by cases h
  | a :: as, c :: cs, h, hl => by
    have h' := List.nodup_cons.mp h
    refine .cons (by unfold lk; rw [if_pos rfl]) ((lk_at h'.2 (Nat.succ.inj hl)).mono fun t d ht _ e => ?_)
    unfold lk
    rw [if_neg (show ¬ t = a from fun q => h'.1 (q ▸ ht))]
    exact e
theorem lk_some : ∀ {as : List Addr} {cs : List (List V)} {b : Addr} {c : List V}, lk as cs b = some c → ∃ j : Nat, as[j]? = some b ∧ cs[j]? = some c
  | [], _, _, _, h => by simp [lk] at h
  | _ :: _, [], _, _, h => by simp [lk] at h
  | a :: as, d :: cs, b, c, h => by
    unfold lk at h
    split at h
    · rename_i e
      subst e
      exact ⟨0, rfl, h⟩
    · obtain ⟨j, q1, q2⟩ := lk_some h
      exact ⟨j + 1, q1, q2⟩
theorem Al.get {α β : Type} {F : α → β → Prop} : ∀ {xs : List α} {ys : List β}, Al F xs ys → ∀ {j : Nat} {x : α}, xs[j]? = some x → ∃ y, ys[j]? = some y ∧ F x y
  | _, _, .nil, _, _, h => by cases h
  | _, _, .cons h t, 0, _, e => by cases e; exact ⟨_, rfl, h⟩
  | _, _, .cons _ t, j + 1, _, e => t.get (j := j) e
def putC (H : Hp) (p : Addr) (as : List Addr) (cs : List (List V)) : Hp := fun b => if b = p then some (.lst (as.map V.ref)) else match lk as cs b with
  | some c => some (.tup c)
  | none => H b
theorem refs_vals : ∀ as : List Addr, Vals (as.map V.ref) (as.map Value.ref)
  | [] => .nil
  | _ :: as => .cons rfl (refs_vals as)
theorem vals_refs' : ∀ {as : List Addr} {us : List Value}, Vals (as.map V.ref) us → us = as.map Value.ref
  | [], _, .nil => rfl
  | a :: as, _, .cons h t => by
    rw [vals_refs' t]
    exact congrArg (· :: _) h
section
variable {X : Cx} {pins : List (Addr × Obj)} {σ : L2.St} {H : Hp} {s : Shared} {h' : Heap} {S : Addr} {as : List Addr} {cols : List (List V)} {vcols : List (List Value)} {acc : Array Value} {c : Nat}
theorem cols_laid (I : Inv X pins σ H s) (hz : ∀ c ∈ cols, c.length ≤ sizeLine) (hn : cols.length ≤ sizeLine) (cv : Al (fun (c : List V) (v : List Value) => Vals c v) cols vcols) (hs : s.heap.objs.size ≤ S)
    (kp : ∀ b o, s.heap.get? b = some o → h'.get? b = some o) (hS : h'.get? S = some { cls := .type "list", dict := none, data := .seq acc c, slots := #[] }) (g : Cg S h' vcols as) (ea : acc.toList = as.map Value.ref) :
    ∃ H' : Hp, Dl.NewH H H' ∧ H S = none ∧ (∀ t ∈ as, H t = none) ∧ S ∉ as ∧ H' S = some (.lst (as.map V.ref)) ∧ Al (fun t c => H' t = some (.tup c)) as cols ∧ Inv X pins σ H' { s with heap := h' } := by
  have nS : S ∉ as := fun hm => Nat.lt_irrefl _ (g.above _ hm)
  have nd : as.Nodup := g.rise.imp fun {a b} (h : a < b) => Nat.ne_of_lt h
  have hl : as.length = cols.length := g.tups.len.trans cv.len.symm
  have new : ∀ t ∈ as, H t = none := fun t ht => I.hok.fresh (Nat.le_trans hs (Nat.le_of_lt (g.above t ht)))
  have newS : H S = none := I.hok.fresh hs
  have off : ∀ b, b ∉ as → b ≠ S → putC H S as cols b = H b := fun b h1 h2 => by
    unfold putC
    rw [if_neg h2, lk_none h1]
  have eS : putC H S as cols S = some (.lst (as.map V.ref)) := by
    unfold putC
    rw [if_pos rfl]
  have at_ : Al (fun t c => putC H S as cols t = some (.tup c)) as cols := (lk_at nd hl).mono fun t c ht _ e => by
    unfold putC
    rw [if_neg (show ¬ t = S from fun q => nS (q ▸ ht)), e]
  have up : Dl.NewH H (putC H S as cols) := fun b u e => by
    rw [off b (fun hm => by rw [new b hm] at e; cases e) (fun q => by rw [q, newS] at e; cases e)]
    exact e
  have low : ∀ b o, s.heap.get? b = some o → b ∉ as ∧ b ≠ S := fun b o e => by
    have q := Heap.lt_size e
    exact ⟨fun hm => absurd (Nat.lt_of_lt_of_le q hs) (Nat.lt_asymm (g.above b hm)), Nat.ne_of_lt (Nat.lt_of_lt_of_le q hs)⟩
  refine ⟨putC H S as cols, up, newS, new, nS, eS, at_, ?_⟩
  have un : Un (frs X.stack) [] H (putC H S as cols) s.heap h' :=
    { keep := fun b o q _ _ _ => kp b o q
      slot := fun b o q _ _ _ => ⟨o.slots, kp b o q⟩
      free := fun b o q n _ => by
        obtain ⟨z1, z2⟩ := low b o q
        rw [off b z1 z2]
        exact n
      there := fun b o q _ => ⟨o, kp b o q⟩
      tups := fun b xs q => up b _ q
      frzs := fun b o u q => up b _ q
      tbls := fun b ps q => ⟨#[], by rw [up b _ q]; simp⟩ }
  refine I.call' (s' := { s with heap := h' }) (ch := []) rfl un (fun b u q => ?_) I.bare fun b hb => nomatch hb
  by_cases hb : b ∈ as
  · obtain ⟨j, hj⟩ := List.mem_iff_getElem?.mp hb
    obtain ⟨cc, e1, e2⟩ := at_.get hj
    rw [e2] at q
    cases q
    obtain ⟨vc, f1, f2⟩ := g.tups.get hj
    obtain ⟨vc', f3, f4⟩ := cv.get e1
    rw [f1] at f3
    cases f3
    exact ⟨hz cc (List.mem_of_getElem? e1), vc, f4, ⟨_, f2, rfl, _, rfl⟩⟩
  · by_cases h2 : b = S
    · subst h2
      rw [eS] at q
      cases q
      refine ⟨by rw [List.length_map, hl]; exact hn, as.map Value.ref, c, refs_vals as, ?_⟩
      rw [← ea, Array.toArray_toList]
      exact hS
    · rw [off b hb h2] at q
      exact (I.hok b u q).stay (fun d v _ y => kp d v y) (fun d y => up d _ y) fun d xs y => up d _ y
end
end Dz
set_option Elab.async false
set_option linter.all false
set_option maxRecDepth 100000
set_option maxHeartbeats 1000000
namespace Dz
open PySem PySem.Spec PyProof.Rows L2
structure Cols {α : Type} (rows cols : List (List α)) : Prop where
  one : 1 ≤ cols.length
  few : cols.length ≤ 1000
  at_ : ∀ (k : Nat) (c : List α), cols[k]? = some c → Al (fun (r : List α) x => r[k]? = some x) rows c
  len : ∀ r ∈ rows, r.length = cols.length
theorem one_col {k : Nat} : ∀ {rows : List (List V)} {vrows : List (List Value)} {c : List V}, Al (fun (r : List V) (v : List Value) => Vals r v) rows vrows → Al (fun (r : List V) x => r[k]? = some x) rows c → ∃ vc, Al (fun (r : List Value) x => r[k]? = some x) vrows vc ∧ Vals c vc
  | _, _, _, .nil, .nil => ⟨[], .nil, .nil⟩
  | _, _, _, .cons h t, .cons e t' => by
    obtain ⟨u, hu, ru⟩ := h.get e
    obtain ⟨vc, q1, q2⟩ := one_col t t'
    exact ⟨u :: vc, .cons hu q1, .cons ru q2⟩
theorem all_cols {rows : List (List V)} {vrows : List (List Value)} (h : Al (fun (r : List V) (v : List Value) => Vals r v) rows vrows) : ∀ (n : Nat) (cols : List (List V)), (∀ (k : Nat) (c : List V), cols[k]? = some c → Al (fun (r : List V) x => r[n + k]? = some x) rows c) →
    ∃ vcols, Al (fun (c : List V) (v : List Value) => Vals c v) cols vcols ∧ ∀ (k : Nat) (c : List Value), vcols[k]? = some c → Al (fun (r : List Value) x => r[n + k]? = some x) vrows c
  | n, [], _ => ⟨[], .nil, fun k c e => by cases e⟩
  | n, c :: cs, hk => by
    obtain ⟨vc, q1, q2⟩ := one_col h (hk 0 c rfl)
    obtain ⟨vcs, z1, z2⟩ := all_cols h (n + 1) cs fun k d e => by
      have := hk (k + 1) d e
      rw [show n + (k + 1) = n + 1 + k by omega] at this
      exact this
    refine ⟨vc :: vcs, .cons q2 z1, fun k d e => ?_⟩
    cases k with
    | zero => cases e; exact q1
    | succ k =>
      have := z2 k d e
      rw [show n + (k + 1) = n + 1 + k by omega]
      exact this
def tZipL (K : PySem.W.Frag) (te : TE) : TE := fun σ H Q => te σ H fun x H1 => ∃ (a : Addr) (ls : List Addr) (rows cols : List (List V)), x = .ref a ∧ SqT K H1 a (ls.map V.ref) ∧ Al (fun l (r : List V) => SqT K H1 l r) ls rows ∧ 1 ≤ ls.length ∧ ls.length ≤ 3 ∧ Cols rows cols ∧
  ∀ (H' : Hp) (p : Addr) (ts : List Addr), Dl.NewH H1 H' → H1 p = none → (∀ t ∈ ts, H1 t = none) → p ∉ ts → H' p = some (.lst (ts.map V.ref)) → Al (fun t (c : List V) => H' t = some (.tup c)) ts cols → Q (.ref p) H'
theorem rows_vals {X : Cx} {pins : List (Addr × Obj)} {σ : L2.St} {H : Hp} {s : Shared} (I : Inv X pins σ H s) : ∀ {ls : List Addr} {rows : List (List V)}, Al (fun l (r : List V) => SqT X.K H l r) ls rows →
    ∃ vrows, Al (fun (r : List V) (v : List Value) => Vals r v) rows vrows ∧ Rws s.heap ls vrows
  | _, _, .nil => ⟨[], .nil, .nil⟩
  | _, _, .cons h t => by
    obtain ⟨its, rv, p, _⟩ := I.tuple h
    obtain ⟨vs, q1, q2⟩ := rows_vals I t
    exact ⟨its :: vs, .cons rv q1, .cons p q2⟩
section
variable {X : Cx} {e : Expr} {te : TE} {p p1 p2 p3 pos : Pos}
theorem pe_zipL (hc : X.calm = true) (he : PE X e te) (hg : Gl X "list") (hm : X.mg "list" = none) (hg2 : Gl X "zip") (hm2 : X.mg "zip" = none)
    (hs : starEach [.Call (.Name "zip" p1) [.Starred e p2] [] p3] X.env = (false, eval (.Call (.Name "zip" p1) [.Starred e p2] [] p3) X.env) :: starEach [] X.env := by rfl) (hst : starEach [.Starred e p2] X.env = [(true, eval e X.env)] := by rfl) :
    PE X (.Call (.Name "list" p) [.Call (.Name "zip" p1) [.Starred e p2] [] p3] [] pos) (tZipL X.K te) := by
  refine ⟨fun pins s σ H Q I hq => ?_⟩
  refine wpAny_Call_Name_kw (ld_blt I hg hm PySem.Pv.boot_list ?_)
  refine PyProof.Rows.callWith_type1 ?_ hs rfl
  rw [hs]
  show wpAny _ _ (spliced ((false, eval (.Call (.Name "zip" p1) [.Starred e p2] [] p3) X.env) :: backTo pos (starEach [] X.env))) _ _ s
  refine Calls.spliced_cons ?_
  refine wpAny_Call_Name_kw (ld_blt I hg2 hm2 PyProof.Rows.boot_zip ?_)
  refine callWith_typeS (thn (he.run pins s σ H _ I hq) fun u s1 ⟨x, H1, I1, rx, a, ls, rows, cols, ex, sq, al, l1, l3, hcol, q⟩ => ?_) hst
  subst ex
  obtain rfl : u = Value.ref a := rx
  refine star_tup I1 sq fun us s2 I2 rv => ?_
  obtain rfl := vals_refs' rv
  obtain ⟨vrows, q1, q2⟩ := rows_vals I2 al
  refine zip_rows q2 l1 l3 fun h3 z TI TO is D Z ne nz nTO nis kp => ?_
  refine Calls.spliced_nil ?_
  obtain ⟨vcols, w1, w2⟩ := all_cols q1 0 cols fun k c ek => by rw [Nat.zero_add]; exact hcol.at_ k c ek
  have lr : vrows.length = ls.length := q2.len.symm
  have hr3 : Rws h3 ls vrows := q2.mono fun l r _ _ ⟨o, eo, r'⟩ => ⟨o, kp _ _ eo, r'⟩
  have lvc : vcols.length = cols.length := w1.len.symm
  refine zlist (s := { s2 with heap := h3 }) (cols := vcols) D (I1.ok.hd hc) Z hr3 (by rw [lvc]; exact hcol.few) ne (by rw [lr]; omega) (by rw [lvc]; exact hcol.one) (fun k c ek => by have := w2 k c ek; rw [Nat.zero_add] at this; exact this) (fun r hr => ?_) fun h4 acc c as kp4 hS g ea => ?_
  · obtain ⟨j, hj⟩ := List.mem_iff_getElem?.mp hr
    have hj' : j < vrows.length := (List.getElem?_eq_some_iff.mp hj).1
    have hj2 : j < rows.length := by rw [q1.len]; exact hj'
    have hjr : rows[j]? = some rows[j] := List.getElem?_eq_getElem hj2
    obtain ⟨v, e1, e2⟩ := q1.get hjr
    rw [hj] at e1
    cases e1
    refine List.getElem?_eq_none ?_
    rw [lvc, ← e2.length, hcol.len _ (List.mem_of_getElem? hjr)]
    exact Nat.le_refl _
  have big : s2.heap.objs.size ≤ h3.objs.size := Nat.le_of_lt (Nat.lt_of_le_of_lt nz (Heap.lt_size Z.o))
  have kp2 : ∀ b o, s2.heap.get? b = some o → h4.get? b = some o := fun b o eb => by
    have lb := Heap.lt_size eb
    exact kp4 b o (Nat.ne_of_lt (Nat.lt_of_lt_of_le lb nz)) (Nat.ne_of_lt (Nat.lt_of_lt_of_le lb nTO)) (fun hm => Nat.lt_irrefl _ (Nat.lt_of_lt_of_le lb (nis b hm))) (kp b o eb)
  have few : ∀ c ∈ cols, c.length ≤ sizeLine := fun c hm => by
    obtain ⟨k, ek⟩ := List.mem_iff_getElem?.mp hm
    have := (hcol.at_ k c ek).len
    rw [← this, q1.len, lr]
    exact Nat.le_trans l3 (show 3 ≤ sizeLine by decide)
  obtain ⟨H', n1, n2, n3, n4, n5, n6, J⟩ := cols_laid I2 few (Nat.le_trans hcol.few (show 1000 ≤ sizeLine by decide)) w1 big kp2 hS g ea
  exact ⟨.ref h3.objs.size, H', J, rfl, q H' _ as n1 n2 n3 n4 n5 n6⟩
end
end Dz
set_option Elab.async false
set_option linter.all false
set_option maxRecDepth 100000
set_option maxHeartbeats 1000000
namespace Dl
open PySem PySem.Spec PyProof.Rows L2 Dz
def rowD : PD → Option (List PD)
  | .tuple ds => some ds
  | _ => none
def rowsD : List PD → Option (List (List PD))
  | [] => some []
  | d :: ds => match rowD d, rowsD ds with
    | some r, some rs => some (r :: rs)
    | _, _ => none
def colsOf {α : Type} (z : α) (rows : List (List α)) (m : Nat) : List (List α) := (List.range m).map fun k => rows.map fun r => r.getD k z
def colsD (rs : List PD) : Option (List PD) := match rowsD rs with
  | some (r :: rest) => if rest.length ≤ 2 ∧ 1 ≤ r.length ∧ r.length ≤ 1000 ∧ rest.all (fun q => q.length == r.length) = true then some ((colsOf .none (r :: rest) r.length).map .tuple) else none
  | _ => none
theorem cols_of {α : Type} (z : α) {rows : List (List α)} {m : Nat} (h1 : 1 ≤ m) (h2 : m ≤ 1000) (h : ∀ r ∈ rows, r.length = m) : Cols rows (colsOf z rows m) where
  one := by unfold colsOf; simpa using h1
  few := by unfold colsOf; simpa using h2
  len := fun r hr => by rw [h r hr]; unfold colsOf; simp
  at_ := fun k c e => by
    unfold colsOf at e
    rw [List.getElem?_map] at e
    obtain ⟨k', e1, rfl⟩ := Option.map_eq_some_iff.mp e
    obtain ⟨hk, rfl⟩ := List.getElem?_eq_some_iff.mp e1
    rw [List.length_range] at hk
    rw [List.getElem_range]
    clear e e1
    induction rows with
    | nil => exact .nil
    | cons r rs ih =>
      refine .cons ?_ (ih fun q hq => h q (.tail _ hq))
      have hl := h r (.head _)
      show r[k]? = some (r.getD k z)
      have hk' : k < r.length := by omega
      rw [List.getD_eq_getElem?_getD, List.getElem?_eq_getElem hk']
      rfl
section
variable {K : PySem.W.Frag} {H : Hp} {A : AS}
theorem rows_of : ∀ {xs : List V} {rs : List PD} {drs : List (List PD)}, DvA K H A xs rs → rowsD rs = some drs → ∃ (ls : List Addr) (rows : List (List V)), xs = ls.map V.ref ∧ Al (fun l (r : List V) => SqT K H l r) ls rows ∧ Al (fun (r : List V) (d : List PD) => DvA K H A r d) rows drs
  | _, _, _, .nil, e => by cases e; exact ⟨[], [], rfl, .nil, .nil⟩
  | _, d :: ds, _, .cons h t, e => by
    unfold rowsD at e
    split at e
    · rename_i r rs e1 e2
      cases e
      cases d with
      | tuple es =>
        cases e1
        cases h with
        | tup hl ha =>
          obtain ⟨ls, rows, q1, q2, q3⟩ := rows_of t e2
          exact ⟨_ :: ls, _ :: rows, by rw [q1]; rfl, .cons hl.sq q2, .cons ha q3⟩
      | _ => cases e1
    · cases e
theorem getD_dv {k : Nat} {v : List V} {d : List PD} (h : DvA K H A v d) : Dv K H A (v.getD k .non) (d.getD k .none) := by
  rw [List.getD_eq_getElem?_getD, List.getD_eq_getElem?_getD]
  cases e : d[k]? with
  | none =>
    have : v[k]? = none := by
      rw [List.getElem?_eq_none_iff] at e ⊢
      rw [h.len]
      exact e
    rw [this]
    exact .non
  | some x =>
    obtain ⟨y, e1, e2⟩ := h.get e
    rw [e1]
    exact e2
theorem col_dv (k : Nat) : ∀ {rows : List (List V)} {drs : List (List PD)}, Al (fun (r : List V) (d : List PD) => DvA K H A r d) rows drs → DvA K H A (rows.map fun r => r.getD k .non) (drs.map fun r => r.getD k .none)
  | _, _, .nil => .nil
  | _, _, .cons h t => .cons (getD_dv h) (col_dv k t)
theorem cols_dv {rows : List (List V)} {drs : List (List PD)} (h : Al (fun (r : List V) (d : List PD) => DvA K H A r d) rows drs) : ∀ ks : List Nat, Al (fun (c : List V) (d : List PD) => DvA K H A c d) (ks.map fun k => rows.map fun r => r.getD k .non) (ks.map fun k => drs.map fun r => r.getD k .none)
  | [] => .nil
  | k :: ks => .cons (col_dv k h) (cols_dv h ks)
theorem tups_dv {H' : Hp} : ∀ {ts : List Addr} {cols : List (List V)} {dcs : List (List PD)}, Al (fun t (c : List V) => H' t = some (.tup c)) ts cols → Al (fun (c : List V) (d : List PD) => DvA K H' A c d) cols dcs → (∀ t ∈ ts, ¬ A t) → DvA K H' A (ts.map V.ref) (dcs.map .tuple)
  | _, _, _, .nil, .nil, _ => .nil
  | _, _, _, .cons h t, .cons h' t', na => .cons (.tup (.inl ⟨.inl h, na _ (.head _)⟩) h') (tups_dv t t' fun q hq => na q (.tail _ hq))
end
theorem rowsD_len : ∀ {rs : List PD} {drs : List (List PD)}, rowsD rs = some drs → drs.length = rs.length
  | [], _, e => by cases e; rfl
  | d :: ds, _, e => by
    unfold rowsD at e
    split at e
    · rename_i e1 e2
      cases e
      rw [List.length_cons, List.length_cons, rowsD_len e2]
    · cases e
def oZipL (fe : Nv → Rs Ar) : Nv → Rs (List PD) := fun n => bnd (fe n) fun a n1 => match a with
  | .d (.tuple rs) => lft (colsD rs) fun ds => ret ds n1
  | _ => none
theorem do_zipL {c : Cz} {te : TE} {fe : Nv → Rs Ar} (h1 : DE c te fe) : DO c (tZipL c.K te) (oZipL fe) := fun S σ H n Q R h => by
  refine h1 S σ H n _ R (OkG.bind h fun v a n1 H1 s1 k1 R1 va h2 => ?_)
  match a, va, h2 with
  | .d (.tuple rs), va, h2 =>
    obtain ⟨ds, e, h2⟩ := h2.lft
    have va : Dv c.K H1 (AV S σ n1) v (.tuple rs) := va
    cases va with
    | tup hl ha =>
      unfold colsD at e
      split at e
      · rename_i r rest e1
        split at e
        · rename_i q
          cases e
          obtain ⟨q1, q2, q3, q4⟩ := q
          obtain ⟨ls, rows, rfl, w2, w3⟩ := rows_of ha e1
          have lr : ls.length = (r :: rest).length := w2.len.trans w3.len
          have hm : ∀ v ∈ rows, v.length = r.length := fun v hv => by
            obtain ⟨d, hd, z⟩ := al_mem w3 hv
            rw [z.len]
            rcases List.mem_cons.mp hd with rfl | hd
            · rfl
            · exact eq_of_beq (List.all_eq_true.mp q4 d hd)
          refine ⟨_, ls, rows, colsOf .non rows r.length, rfl, hl.sq, w2, by rw [lr, List.length_cons]; omega, by rw [lr, List.length_cons]; omega, cols_of _ q2 q3 hm, fun H' p ts up np nt nm hp ht => ?_⟩
          have na : ∀ t ∈ ts, ¬ (AV S σ n1 t ∨ t = p) := fun t hm z => z.elim (R1.nav (nt t hm)) fun z => nm (z ▸ hm)
          have ex : Ext (fun _ => False) H1 H' := fun a o _ e => up a o e
          have mv : ∀ a, (AV S σ n1 a ∨ a = p) → AV S σ n1 a ∨ H1 a = none := fun a z => z.elim .inl fun z => .inr (z ▸ np)
          have big : DvA c.K H' (fun a => AV S σ n1 a ∨ a = p) (ts.map V.ref) ((colsOf .none (r :: rest) r.length).map .tuple) := by
            refine tups_dv ht ?_ na
            exact (cols_dv w3 (List.range r.length)).mono fun v d _ _ z => z.mono ex (fun _ z => z.elim) mv
          refine h2.ret up (R1.ext up) ⟨p, rfl, s1.non np, ⟨R1.ext up, R1.nav np, ⟨_, hp, big⟩, fun i d e => ?_, fun i pm es e => ?_⟩⟩
          · obtain ⟨v, z1, z2⟩ := R1.im i d e
            exact ⟨v, z1, z2.mono ex (fun _ z => z.elim) mv⟩
          · obtain ⟨x, us, z1, z2, z3, _⟩ := R1.ow i pm es e
            exact ⟨x, us, z1, up _ _ z2, z3.mono ex (fun _ z => z.elim) mv⟩
        · cases e
      · cases e
section
variable {X : Cx} {c : Cz} {e : Expr} {te : TE} {fe : Nv → Rs Ar} {p p1 p2 p3 pos : Pos}
theorem ozipL (hc : X.calm = true) (hg : Gl X "list") (hm : X.mg "list" = none) (hg2 : Gl X "zip") (hm2 : X.mg "zip" = none) (h1 : EX X c e te fe)
    (hs : starEach [.Call (.Name "zip" p1) [.Starred e p2] [] p3] X.env = (false, eval (.Call (.Name "zip" p1) [.Starred e p2] [] p3) X.env) :: starEach [] X.env := by rfl) (hst : starEach [.Starred e p2] X.env = [(true, eval e X.env)] := by rfl) (hK : c.K = X.K := by rfl) :
    OX X c (.Call (.Name "list" p) [.Call (.Name "zip" p1) [.Starred e p2] [] p3] [] pos) (tZipL c.K te) (oZipL fe) := ⟨hK ▸ pe_zipL hc h1.p hg hm hg2 hm2 hs hst, do_zipL h1.d⟩
end
end Dl
set_option Elab.async false
set_option linter.all false
set_option maxRecDepth 100000
set_option maxHeartbeats 1000000
namespace Dl
open PySem PySem.Spec PyProof.Rows L2
def pick3 {α : Type} (a b c : α) : Nat → α
  | 0 => a
  | 1 => b
  | _ => c
def gP3 {α : Type} (pm : List Nat) (us ws : List α) : List α := match us, ws with
  | [], [a, b, c] => pm.map (pick3 a b c)
  | _, _ => []
theorem pick_vals {a b c : V} {x y z : Value} (h1 : RelV a x) (h2 : RelV b y) (h3 : RelV c z) : ∀ pm : List Nat, Vals (pm.map (pick3 a b c)) (pm.map (pick3 x y z))
  | [] => .nil
  | i :: is => by
    refine .cons ?_ (pick_vals h1 h2 h3 is)
    match i with
    | 0 => exact h1
    | 1 => exact h2
    | _ + 2 => exact h3
theorem kb_pm {K : PySem.W.Frag} {x qual : Str} {st : Stmt} {f : Addr} {fd : FuncData} {ps ks : List Str} {pm : List Nat} (F : Fun K x qual st f fd) (hp : ps ≠ [])
    (h : ∀ (kV doc pmo : Value) (an : Option Addr) (cdv ct : Value) (a b c : Value), bindArgs (PySem.W.fnOf x qual (defArgs st) (defBody st) (defScope st) .none kV doc pmo an cdv ct) ⟨[], ks.zip [a, b, c]⟩ = pure (ps.zip (pm.map (pick3 a b c)))) : KBinds K fd ps ks (gP3 pm) (gP3 pm) := by
  obtain ⟨oc, od, kV, doc, pmo, an, cdv, ct, osl, rfl, lk, hcd⟩ := F.ex
  have no : ∀ {n : Nat}, ps.length ≠ n → True := fun _ => trivial
  refine ⟨fun s us ws _ hl => ?_, fun {vs us zs ws} r rz => ?_⟩
  · match us, ws, hl with
    | [], [a, b, c], _ => exact .of_eq (h kV doc pmo an cdv ct a b c)
    | [], [], hl => exact (hp (List.eq_nil_of_length_eq_zero (by simpa [gP3] using hl.symm))).elim
    | [], [_], hl => exact (hp (List.eq_nil_of_length_eq_zero (by simpa [gP3] using hl.symm))).elim
    | [], [_, _], hl => exact (hp (List.eq_nil_of_length_eq_zero (by simpa [gP3] using hl.symm))).elim
    | [], _ :: _ :: _ :: _ :: _, hl => exact (hp (List.eq_nil_of_length_eq_zero (by simpa [gP3] using hl.symm))).elim
    | _ :: _, _, hl => exact (hp (List.eq_nil_of_length_eq_zero (by simpa [gP3] using hl.symm))).elim
  · cases r with
    | cons _ _ => exact .nil
    | nil =>
      cases rz with
      | nil => exact .nil
      | cons a rz =>
        cases rz with
        | nil => exact .nil
        | cons b rz =>
          cases rz with
          | nil => exact .nil
          | cons c rz =>
            cases rz with
            | nil => exact pick_vals a b c pm
            | cons _ _ => exact .nil
theorem pick_ar {K S σ n H} {a b c : V} {x y z : Ar} (h1 : ArV K S σ n H a x) (h2 : ArV K S σ n H b y) (h3 : ArV K S σ n H c z) : ∀ pm : List Nat, ArVs K S σ n H (pm.map (pick3 a b c)) (pm.map (pick3 x y z))
  | [] => .nil
  | i :: is => by
    refine .cons ?_ (pick_ar h1 h2 h3 is)
    match i with
    | 0 => exact h1
    | 1 => exact h2
    | _ + 2 => exact h3
theorem ArVs.p3 {K S σ n H} {pm : List Nat} {vs : List V} {as : List Ar} (r : ArVs K S σ n H vs as) : ArVs K S σ n H (gP3 pm [] vs) (gP3 pm [] as) := by
  cases r with
  | nil => exact .nil
  | cons a r =>
    cases r with
    | nil => exact .nil
    | cons b r =>
      cases r with
      | nil => exact .nil
      | cons c r =>
        cases r with
        | nil => exact pick_ar a b c pm
        | cons _ _ => exact .nil
def tCallP (sp : Sp) (pm : List Nat) (E : Sg → XK) (tk : TA) : TE := fun σ H Q => tk σ H fun zs H2 => sp (gP3 pm [] zs) H2 Q (E σ)
section
variable {X : Cx} {CX : CXT} {k : Nat} {f : Addr} {fd : FuncData} {ps ks : List Str} {sp : Sp} {E : Sg → XK} {x : Str} {p pos : Pos} {kws : List Keyword} {tk : TA} {pm : List Nat}
theorem pe_kwP (F : FnOk X.prog X.w X.K X.mg X.base CX k f fd ps sp) (hr : Room k X.A) (hg : Gl X x) (hm : X.mg x = some (.ref f)) (hk : PySem.W.keepIn X.K (.ref f) = true) (hb : KBinds X.K fd ps ks (gP3 pm) (gP3 pm)) (hx : ∀ σ, PassesAt CX X σ (E σ)) (hkw : PK X kws tk)
    (hall : (backToKw pos (keywordEach kws X.env)).all (·.1.isSome) = true := by rfl) (hks : (backToKw pos (keywordEach kws X.env)).filterMap (·.1) = ks := by rfl) (hdb : (x == ("__debug__" : Str)) = false := by decide)
    (hpl : ((backTo pos (starEach [] X.env)).any (·.1) || (backToKw pos (keywordEach kws X.env)).any (·.1.isNone)) = false := by rfl) : PE X (.Call (.Name x p) [] kws pos) (tCallP sp pm E tk) := by
  refine ⟨fun pins s σ H Q I h => wpAny_Call_Name_kw (ld_glob I hg hm ?_ hdb)⟩
  refine PySem.W.callWith_KW0 (h₀ := X.base) I.ok.mod.kin hk hall (thn (hkw.run pos pins s σ H _ I h) fun ws s2 ⟨zs, H2, I2, rz, q2⟩ => ⟨I2.kIn, ?_⟩) hpl
  rw [hks]
  have r2 := hb.rel (vs := []) (us := []) .nil rz
  have hl : (gP3 pm [] ws).length = ps.length := by rw [← r2.length]; exact F.len _ _ _ _ q2
  refine wpAny_call (codeAny_mono (F.run X.A X.stack s2 H2 ⟨[], ks.zip ws⟩ _ _ Q (E σ) hr I2.env0 (hb.to s2 [] ws I2.kIn hl) r2 q2) fun res s' hq => ?_)
  match res, hq with
  | .error e, hq => exact hx σ pins H2 s2 e s' I2 hq
  | .ok (.ret u), hq => exact I2.after hq
end
def eCallP (pm : List Nat) (f : Nv → Rs Rv) (fr : Nv → Rs (List Ar)) : Nv → Rs Ar := fun n => bnd (fr n) fun as n1 => if dist (gP3 pm [] as) = true then lft (slots n1 (gP3 pm [] as)) fun m => cal (f m) n1 (eRv (gP3 pm [] as) n1) else none
theorem de_callP {c : Cz} {k : Nat} {f : Nv → Rs Rv} {pm : List Nat} {ta : TA} {fr : Nv → Rs (List Ar)} {E : Sg → XK} (hr : DA c ta fr) (hf : Ary k f) (hE : ∀ σ, E σ = c.E σ) : DE c (tCallP (spM c.K c.cl k f) pm E ta) (eCallP pm f fr) := fun S σ H n Q R h => by
  refine hr S σ H n _ R (OkG.bind h fun vs as n1 H1 s1 k1 R1 va h1 => ?_)
  exact call_core (W := fun _ _ _ _ => True) hf (hE σ) R1 va.p3 h1
structure CalP (P : Program) (w : World) (K : PySem.W.Frag) (mg : Str → Option Value) (base : Heap) (cl : Str → Option Value) (lv : Nat) (x : Str) (ps ks : List Str) (pm : List Nat) (f : Nv → Rs Rv) : Prop where
  ex : ∃ (a : Addr) (fd : FuncData), FnOk P w K mg base (L2.CX P w) lv a fd ps (spM K cl ps.length f) ∧ mg x = some (.ref a) ∧ PySem.W.keepIn K (.ref a) = true ∧ KBinds K fd ps ks (gP3 pm) (gP3 pm)
  ar : Ary ps.length f
theorem Cal.kwP {P : Program} {w : World} {K : PySem.W.Frag} {mg : Str → Option Value} {base : Heap} {cl : Str → Option Value} {x qual : Str} {st : Stmt} {f : Addr} {fd : FuncData} {ps ks : List Str} {pm : List Nat} {lv : Nat} {ff : Nv → Rs Rv} (C : Cal P w K mg base cl lv x ps ff) (F : Fun K x qual st f fd) (hm : mg x = some (.ref f)) (hp : ps ≠ [])
    (h : ∀ (kV doc pmo : Value) (an : Option Addr) (cdv ct : Value) (a b c : Value), bindArgs (PySem.W.fnOf x qual (defArgs st) (defBody st) (defScope st) .none kV doc pmo an cdv ct) ⟨[], ks.zip [a, b, c]⟩ = pure (ps.zip (pm.map (pick3 a b c)))) : CalP P w K mg base cl lv x ps ks pm ff :=
  let ⟨oc, od, kV, doc, pmo, an, cdv, ct, osl, e, lk, _⟩ := F.ex
  ⟨⟨f, fd, C.any f fd oc od osl hm lk, hm, F.kp, kb_pm F hp h⟩, C.ar⟩
theorem xcalP {X : Cx} {K : PySem.W.Frag} {cl : Str → Option Value} {lv : Nat} {x : Str} {ps ks : List Str} {pm : List Nat} {f : Nv → Rs Rv} {kws : List Keyword} {p pos : Pos} {tA : TA} {fA : Nv → Rs (List Ar)} {k : Nat} {W : WX} (hK : X.K = K) (C : CalP X.prog X.w K X.mg X.base cl lv x ps ks pm f) (hr : Room k X.A) (tk : Takes X W) (hg : Gl X x)
    (ha : KX X ⟨K, cl, WE W⟩ kws tA fA) (hl : lv ≤ k := by decide) (hall : (backToKw pos (keywordEach kws X.env)).all (·.1.isSome) = true := by rfl) (hks : (backToKw pos (keywordEach kws X.env)).filterMap (·.1) = ks := by rfl) (hdb : (x == ("__debug__" : Str)) = false := by decide)
    (hpl : ((backTo pos (starEach [] X.env)).any (·.1) || (backToKw pos (keywordEach kws X.env)).any (·.1.isNone)) = false := by rfl) : EX X ⟨K, cl, WE W⟩ (.Call (.Name x p) [] kws pos) (tCallP (spM K cl ps.length f) pm (WE W) tA) (eCallP pm f fA) := by
  subst hK
  obtain ⟨a, fd, F, hm, kp, bd⟩ := C.ex
  exact ⟨pe_kwP F (hr.mono hl) hg hm kp bd (fun σ => passAt tk σ) ha.p hall hks hdb hpl, de_callP ha.d C.ar fun _ => rfl⟩
end Dl
set_option Elab.async false
set_option linter.all false
set_option maxRecDepth 100000
namespace Dl
open PySem PySem.Spec PyProof.Rows L2
theorem law_at {P : Program} {w : World} {K : PySem.W.Frag} {mg mb : Str → Option Value} {k : Nat} {fa a : Addr} {x : Str} {sp : Sp} {t : Shared} {us : List Value} {H : Hp}
    (KX : K.In t.heap) (G : t.heap.Ns mainGlobals mg) (B : t.heap.Ns builtinsNs mb) (nb : ∀ y : Str, y ≠ "__name__" → mb y = bootBuiltins y) (nl : t.heap.NoLimit) (ng : t.gens = #[])
    (ha : t.heap.get? a = some { cls := .type "list", data := .seq us.toArray }) (room : Room k callerA)
    (F : ∀ b : Heap, K.In b → b.Ns mainGlobals mg → ∃ fd, FnG P w K mg b (L2.CX P w) k fa fd [x] sp ∧ L2.Binds K fd [x] [])
    (on : Only H) (says : sp [.ref a] H (fun v _ => v = .bl true) fun _ _ _ => False) (hok : HOk P w H t.heap) (at_ : ∀ b, H b ≠ none → b = a) (outK : H a ≠ none → K.lookup a = none)
    (noX : ∀ e s', L2.CX P w [] H t (fun _ _ _ => False) e s' → False) :
    codeAny (model P w) callerA (.call (.ref fa) ⟨[.ref a], []⟩) (fun r s' => r = .ok (.ret (.bool true)) ∧ OldK t.heap s'.heap ∧ s'.os = t.os ∧ AllBare s'.gens) t := by
  have free : ∀ {b : Addr} {o : Obj} {es : Array DictEntry} {ep : Nat}, t.heap.get? b = some o → o.data = .dict es ep → H b = none := fun {b o es ep} e d => Classical.byContradiction fun q => by
    rw [at_ b q, ha] at e
    cases e
    cases (show Data.seq us.toArray _ = Data.dict es ep from d)
  have names : ∀ {b : Addr} {m : Str → Option Value}, t.heap.Ns b m → (hidT t.heap H).Ns b m := fun {b m} ⟨o, es, ep, e, d, r⟩ => ⟨o, es, ep, hidT_get e (free e d), d, r⟩
  have kin : K.In (hidT t.heap H) := fun b o e => hidT_get (KX b o e) (Classical.byContradiction fun q => by
    have eb := at_ b q
    subst eb
    rw [outK q] at e
    cases e)
  obtain ⟨mc, n1, n2⟩ := nl
  have env : Env0 P w K mg (hidT t.heap H) callerA [] t H :=
    ⟨rfl, ⟨kin, names G, ⟨mb, names B, nb⟩, mc, names n1, n2⟩, fun b o e => of_hidT e, Nat.le_of_eq (hidT_size _ _), trivial, fun b hb => (List.not_mem_nil hb).elim, hok, .of_eq ng⟩
  obtain ⟨fd, G1, bd⟩ := F _ kin (names G)
  have run := G1.run callerA [] t H ⟨[.ref a], []⟩ [.ref a] [.ref a] _ _ rfl room env (bd t [.ref a] KX rfl) (.cons rfl .nil) says
  refine codeAny_mono run fun r s' h => ?_
  match r, h with
  | .error e, h => exact (noX e s' h).elim
  | .ok .next, h => exact False.elim h
  | .ok .brk, h => exact False.elim h
  | .ok .cont, h => exact False.elim h
  | .ok (.ret u), h =>
    obtain ⟨v, H', os, bare, un, hok', ru, rfl⟩ := h
    obtain rfl : u = Value.bool true := ru
    refine ⟨rfl, OldK.of_keep fun b o e => ?_, os, bare⟩
    cases q : H b with
    | none => exact un.keep b o e q (fun z => (List.not_mem_nil z).elim) (by simp)
    | some y =>
      rcases on b with z | ⟨ob, xs, z⟩
      · rw [q] at z
        cases z
      · have e1 := (hok b _ z).1
        have e2 := (hok' b _ (un.frzs b ob _ z)).1
        rw [e] at e1
        cases e1
        exact e2
theorem law_callG {P : Program} {w : World} {K : PySem.W.Frag} {mg mb : Str → Option Value} {k : Nat} {fa a : Addr} {x : Str} {sp : Sp} {t : Shared} {us : List Value} {ns : List Int}
    (KX : K.In t.heap) (G : t.heap.Ns mainGlobals mg) (B : t.heap.Ns builtinsNs mb) (nb : ∀ y : Str, y ≠ "__name__" → mb y = bootBuiltins y) (nl : t.heap.NoLimit) (ng : t.gens = #[])
    (ha : t.heap.get? a = some { cls := .type "list", data := .seq us.toArray }) (hi : IntsAre us ns) (hl : ns.length ≤ sizeLine) (room : Room k callerA)
    (F : ∀ b : Heap, K.In b → b.Ns mainGlobals mg → ∃ fd, FnG P w K mg b (L2.CX P w) k fa fd [x] sp ∧ L2.Binds K fd [x] [])
    (says : ∀ H : Hp, Only H → SqL K H a (ns.map V.int) → sp [.ref a] H (fun v _ => v = .bl true) fun _ _ _ => False) (noX : ∀ H e s', L2.CX P w [] H t (fun _ _ _ => False) e s' → False) :
    codeAny (model P w) callerA (.call (.ref fa) ⟨[.ref a], []⟩) (fun r s' => r = .ok (.ret (.bool true)) ∧ OldK t.heap s'.heap ∧ s'.os = t.os ∧ AllBare s'.gens) t := by
  cases q : K.lookup a with
  | some o =>
    have e := KX a o q
    rw [ha] at e
    cases e
    have on : Only fun _ => none := fun _ => .inl rfl
    exact law_at KX G B nb nl ng ha room F on (says _ on (.inr ⟨_, us.toArray, _, q, rfl, rfl, rfl, by rw [List.size_toArray, hi.length]; exact hl, by simpa using vals_ints hi⟩)) (fun b u z => nomatch (show (none : Option HO) = some u from z)) (fun b z => (z rfl).elim) (fun z => (z rfl).elim) (noX _)
  | none =>
    have hd : ∀ {b : Addr} {u : HO}, (if b = a then some (.frz { cls := .type "list", data := .seq us.toArray } (.lst (ns.map V.int))) else none : Option HO) = some u → b = a ∧ u = .frz { cls := .type "list", data := .seq us.toArray } (.lst (ns.map V.int)) := fun {b u} z => by
      split at z
      · cases z
        exact ⟨by assumption, rfl⟩
      · cases z
    have on : Only fun b => if b = a then some (.frz { cls := .type "list", data := .seq us.toArray } (.lst (ns.map V.int))) else none := fun b => by
      by_cases hb : b = a
      · exact .inr ⟨_, _, if_pos hb⟩
      · exact .inl (if_neg hb)
    refine law_at KX G B nb nl ng ha room F on (says _ on (.inl (.inr ⟨_, if_pos rfl⟩))) (fun b u z => ?_) (fun b z => Classical.byContradiction fun hb => z (if_neg hb)) (fun _ => q) (noX _)
    obtain ⟨rfl, rfl⟩ := hd z
    exact ⟨ha, by rw [List.length_map]; exact hl, us, _, vals_ints hi, ha⟩
theorem walk_ofG {l : PySem.W.OpenLaw} {n k : Nat} {q : Program} {loose : List Str} {XP : (Str → Option Value) → Heap → Prop} {YP : World → Heap → Prop} {d : DefRec} {x : Str}
    (hn : l.most = some n) (hn2 : n ≤ sizeLine) (hdf : d.params.defaults = []) (hr : Room k callerA)
    (F : ∀ (w : World) (mg : Str → Option Value) (fa : Addr) (h : Heap), YP w h → h.Ns mainGlobals mg → mg d.name = some (.ref fa) →
      ∃ (K : PySem.W.Frag) (sp : Sp), K.In h ∧ (∀ (H : Hp) (a : Addr) (ns : List Int), ns.length ≤ n → (∀ i ∈ ns, Builtin.Int.intBits i ≤ 1048576) → Only H → SqL K H a (ns.map V.int) → sp [.ref a] H (fun v _ => v = .bl true) fun _ _ _ => False) ∧
        ∀ b : Heap, K.In b → b.Ns mainGlobals mg → ∃ fd, FnG l.prog w K mg b (L2.CX l.prog w) k fa fd [x] sp ∧ L2.Binds K fd [x] [])
    (noX : ∀ (w : World) (H : Hp) (t : Shared) (e : Value) (s' : Shared), L2.CX l.prog w [] H t (fun _ _ _ => False) e s' → False) : PySem.W.WalkO q loose XP YP l.row.toRowW d [] (fun f vs => PySem.call f vs) := by
  refine Att.attach_callB hn hdf fun w s₀ t mg mb fa o pm cd doc a us ns G Y ho hd hcd hmg hobj hints hlen hbits hg => ?_
  obtain ⟨K, sp, KX, hsp, hF⟩ := F w mg fa _ Y G.T.g hmg
  exact law_callG KX G.T.g G.T.b G.T.builtins G.T.nolimit hg hobj hints (Nat.le_trans hlen hn2) hr hF (fun H hO hS => hsp H a ns hlen hbits hO hS) (noX w · t · ·)
end Dl
set_option Elab.async false
set_option linter.all false
set_option maxRecDepth 100000
namespace Dl
open PySem PySem.Spec PyProof.Rows L2
theorem fun_of {K : PySem.W.Frag} {x q : Str} {st : Stmt} {f : Addr} {fd : FuncData} (h : FunD K x q (defArgs st) (defBody st) (defScope st) [] [] f fd) : Fun K x q st f fd := by
  obtain ⟨oc, od, dV, kV, doc, pm, an, cdv, ct, osl, rfl, lk, hc, hd, _⟩ := h.ex
  rcases hd with ⟨_, rfl⟩ | ⟨z, _⟩
  · exact ⟨⟨oc, od, kV, doc, pm, an, cdv, ct, osl, rfl, lk, hc⟩, h.kp⟩
  · exact (z rfl).elim
theorem oexB_ok {K : PySem.W.Frag} {C : Addr} (h : oexB K C = true) : OexC K C := by
  unfold oexB at h
  simp only [Bool.and_eq_true, decide_eq_true_eq] at h
  obtain ⟨⟨⟨⟨h1, h2⟩, h3⟩, h4⟩, h5⟩ := h
  refine ⟨?_, He.eqO_ok h2, h3, h4, h5⟩
  split at h1
  · rename_i t dd cd sl lk
    simp only [Bool.and_eq_true, decide_eq_true_eq] at h1
    obtain ⟨rfl, h1⟩ := h1
    split at h1
    · rename_i c bm k0 k1 k2 k3 n k5 hm hs
      simp only [Bool.and_eq_true, decide_eq_true_eq, Bool.not_eq_true'] at h1
      obtain ⟨⟨⟨⟨rfl, rfl⟩, hd⟩, hl⟩, hv⟩ := h1
      obtain ⟨nm, bs, mro, ns, qn, hd', sn, sub, ab, col, del⟩ := cd
      dsimp only at hm hl hd
      subst hm hl hd
      obtain ⟨l⟩ := sl
      dsimp only at hs
      subst hs
      exact ⟨nm, qn, ns, bs, bm, sn, sub, ab, col, dd, k0, k1, k2, k3, k5, lk, hv⟩
    · cases h1
  · cases h1
def exT_of {P : Program} {w : World} {K : PySem.W.Frag} {mg : Str → Option Value} {base : Heap} {x f g : Str} {fd : FuncData} {ps : List Str} (h : exB K x f g = true) (gC : mg x = some (.ref (He.ga K x)))
    (F1 : FnOk P w K mg base (L2.CX P w) 1 (He.ma K (He.ga K x) "__init__") fd ps (spI2 K f g)) (bd : Binds K fd ps []) : ExT P w K mg base x f g := by
  unfold exB at h
  simp only [Bool.and_eq_true, decide_eq_true_eq] at h
  exact ⟨He.ga K x, He.ma K (He.ga K x) "__init__", fd, ps, gC, oexB_ok h.1.1.1.1.1.1, He.eqO_ok h.1.1.1.1.2, He.eqO_ok h.1.1.1.2, He.eqO_ok h.1.1.2, h.1.2, F1, bd, L2.xfB_ok h.1.1.1.1.1.2, h.2⟩
theorem exT_C {P : Program} {w : World} {K : PySem.W.Frag} {mg : Str → Option Value} {base : Heap} {x f g : Str} {fd : FuncData} {ps : List Str} (h : exB K x f g = true) (gC : mg x = some (.ref (He.ga K x)))
    (F1 : FnOk P w K mg base (L2.CX P w) 1 (He.ma K (He.ga K x) "__init__") fd ps (spI2 K f g)) (bd : Binds K fd ps []) : (exT_of h gC F1 bd).C = He.ga K x := rfl
theorem ok_init2 {P : Program} {w : World} {K : PySem.W.Frag} {mg : Str → Option Value} {base : Heap} {q : Str} {st : Stmt} {C : Addr} {fd : FuncData} {ff g s a b : Str} {p1 p2 p3 p4 p5 p6 p7 p8 : Pos} (F : Fun K "__init__" q st C fd) (Sc : FnScope [s, a, b] [s, a, b] (defScope st))
    (hb : defBody st = [.Assign [.Attribute (.Name s p1) ff p2] (.Name a p3) p4, .Assign [.Attribute (.Name s p5) g p6] (.Name b p7) p8])
    (rs : ∀ x ∈ [s, a, b], (defScope st).names.lookup x = some .local) (hdb : ∀ x ∈ [s, a, b], (x == ("__debug__" : Str)) = false ∧ (x == ("__classdict__" : Str)) = false) :
    FnOk P w K mg base (L2.CX P w) 1 C fd [s, a, b] (spI2 K ff g) := by
  refine F.okX Sc (fun vs H Q E h => ?_) fun cdv A outer sh H vs Q E hr h => ?_
  · obtain ⟨_, _, _, _, rfl, _⟩ := h
    rfl
  · have v : ∀ {p : Pos} (i : Nat) (x : Str), [s, a, b][i]? = some x → PE (cxOf (L2.CX P w) P w K mg base [s, a, b] q (defScope st) C cdv A outer sh H E) (.Name x p) (tVar i) := fun i x e => by
      have m := List.mem_of_getElem? e
      exact pe_var (i := i) e (.inl (rs x m)) (hdb x m).1 (hdb x m).2
    rw [hb]
    refine ⟨_, pss_cons (ps_ost (v 0 s rfl) (v 1 a rfl)) (pss_one (ps_ost (v 0 s rfl) (v 2 b rfl))), ?_⟩
    have e : L2.start [s, a, b] vs = vs.map some := by
      obtain ⟨_, _, _, _, rfl, _⟩ := h
      rfl
    rw [e]
    exact init_read rfl h
theorem nsIn_none {K : PySem.W.Frag} {w : World} {a : Addr} {ks : List Str} (h : He.dicW K a = some (He.keysIn w.params ks)) {z : Str} (hz : z ∉ ks) : PySem.W.nsIn K a z = some none := by
  have gen : ∀ {l : List DictEntry} {ks : List Str}, l.map He.keyOf = He.keysIn w.params ks → z ∉ ks → l.find? (·.key.isStr z) = none ∧ l.any (·.refKey) = false := fun {l} => by
    induction l with
    | nil => exact fun {ks} _ _ => ⟨rfl, rfl⟩
    | cons e r ih =>
      intro ks h hz
      cases ks with
      | nil => cases h
      | cons k ks =>
        have h1 : He.keyOf e :: r.map He.keyOf = some (k, PyData.keyHash w.params k) :: He.keysIn w.params ks := h
        injection h1 with h2 h3
        obtain ⟨i1, i2⟩ := ih h3 fun q => hz (List.mem_cons_of_mem _ q)
        unfold He.keyOf at h2
        split at h2
        · rename_i x t q
          obtain ⟨h5, h6⟩ := Prod.mk.inj (Option.some.inj h2)
          have ne : ¬ x = z := fun y => hz (by rw [← y, h5]; exact List.mem_cons_self)
          have n1 : e.key.isStr z = false := by
            rw [q]
            exact decide_eq_false ne
          have n2 : e.refKey = false := by
            unfold DictEntry.refKey
            rw [q]
          exact ⟨by rw [List.find?_cons, n1]; exact i1, by rw [List.any_cons, n2, i2]; rfl⟩
        · cases h2
  obtain ⟨es, n, D⟩ := He.dicW_ok (w := w) h
  unfold He.dicW at h
  rw [D.at_] at h
  dsimp only at h
  split at h
  · have g := gen (Option.some.inj h) hz
    unfold PySem.W.nsIn
    rw [D.at_]
    dsimp only
    rw [g.1]
    simp [g.2]
  · cases h
theorem dtab_of {K : PySem.W.Frag} {w : World} {a : Addr} {ts : List (Str × Int)} (h : He.dicW K a = some (He.keysIn w.params (ts.map (·.1)))) (hv : He.valsB K a (ts.map fun q => (q.1, He.Dv.int q.2)) = true) : DTab K w a (ts.map fun q => (q.1, PyData.int q.2)) := by
  refine ⟨He.dicW_ok h, fun z => ?_⟩
  have lk : ∀ l : List (Str × Int), (l.map fun q => (q.1, PyData.int q.2)).lookup z = (l.lookup z).map PyData.int := fun l => by
    induction l with
    | nil => rfl
    | cons q r ih =>
      rw [List.map_cons, List.lookup_cons, List.lookup_cons, ih]
      cases z == q.1 <;> rfl
  have mem : ∀ (l : List (Str × Int)) (i : Int), l.lookup z = some i → (z, i) ∈ l := fun l i => by
    induction l with
    | nil => exact fun e => nomatch e
    | cons q r ih =>
      rw [List.lookup_cons]
      cases e : z == q.1 with
      | true =>
        intro y
        cases y
        rw [beq_iff_eq.mp e]
        exact List.mem_cons_self
      | false => exact fun y => List.mem_cons_of_mem _ (ih y)
  have non : ∀ l : List (Str × Int), l.lookup z = none → z ∉ l.map (·.1) := fun l => by
    induction l with
    | nil => exact fun _ m => nomatch m
    | cons q r ih =>
      rw [List.lookup_cons]
      cases e : z == q.1 with
      | true => exact fun y => nomatch y
      | false =>
        intro y m
        rcases List.mem_cons.mp m with m | m
        · rw [m] at e
          simp at e
        · exact ih y m
  rw [lk]
  cases e : ts.lookup z with
  | none => exact .inr ⟨rfl, nsIn_none h (non _ e)⟩
  | some i =>
    obtain ⟨u, h1, h2⟩ := He.valsB_ok hv (q := (z, He.Dv.int i)) (List.mem_map_of_mem (f := fun q : Str × Int => (q.1, He.Dv.int q.2)) (mem _ _ e))
    exact .inl ⟨_, rfl, .int i, u, h1, h2, fun H A => .int i⟩
theorem kdct_of {K : PySem.W.Frag} {w : World} {a : Addr} {kvs : List (Str × He.Dv)} {es : Array DictEntry} {n : Nat} (D : KDict K w a es n) (hv : He.valsB K a kvs = true) {z : Str} {v : He.Dv} (hm : (z, v) ∈ kvs) : KDct K w a z (v.v K) := by
  obtain ⟨u, h1, h2⟩ := He.valsB_ok hv hm
  exact ⟨es, n, u, D.at_, D.lit, h1, h2⟩
theorem tupS_of {K : PySem.W.Frag} {x : Str} {zs : List Str} (h : He.tupB K x (zs.map He.Dv.str) = true) (H : Hp) (A : AS) : Dv K H A (.ref (He.ga K x)) (.tuple (zs.map PyData.str)) := by
  have t := He.tupB_ok h fun _ => none
  have dv : ∀ zs : List Str, DvA K H A ((zs.map He.Dv.str).map (He.Dv.v K)) (zs.map PyData.str) := fun zs => by
    induction zs with
    | nil => exact .nil
    | cons z r ih => exact .cons (.str z) ih
  rcases t with t | t
  · exact (rd_some t rfl).elim
  · exact .tup (.inr t) (dv zs)
end Dl
set_option Elab.async false
set_option linter.all false
set_option maxRecDepth 100000
set_option maxHeartbeats 1000000
namespace Dl
open PySem PySem.Spec PyProof.Rows L2
def noName (i : Nat) (D : Ends) : Ends := { nx := fun s h => D.nx (s.set i none) h, rt := D.rt, bk := fun s h => D.bk (s.set i none) h, ct := fun s h => D.ct (s.set i none) h }
def wAsM (K : PySem.W.Frag) (i : Nat) (D : Ends) : List (Value × (Addr → Value → Option Addr → TS)) → WX
  | [] => fun _ _ _ _ => False
  | q :: r => fun cls d σ H => ∃ b, PySem.W.exmOne K cls q.1 = some b ∧ (b = true → ∀ a, H a = none → q.2 a cls d (noName i D) (σ.set i (some (.ref a))) H) ∧ (b = false → wAsM K i D r cls d σ H)
inductive HdAs (X : Cx) (n : Str) : List ExceptHandler → List (Value × (Addr → Value → Option Addr → TS)) → Prop
  | nil : HdAs X n [] []
  | cons {x : Str} {c : Value} {ts : Addr → Value → Option Addr → TS} {b0 : Stmt} {su : List Stmt} {np ps : Pos} {hs : List ExceptHandler} {l : List (Value × (Addr → Value → Option Addr → TS))} (hc : Names X x c)
      (hsu : ∀ (a : Addr) (oe : Obj) (cls : Value) (d : Option Addr) (pn : List (Addr × Obj)), Zc cls d oe → (∃ vs, oe.data = .fields vs) → PSs (X.suite a ((a, oe) :: pn)) (b0 :: su) (ts a cls d)) (r : HdAs X n hs l) :
      HdAs X n (.ExceptHandler (some (.Name x np)) (some n) (b0 :: su) ps :: hs) ((c, ts) :: l)
section
variable {X : Cx} {n : Str} {i : Nat} {body : List Stmt} {h1 : ExceptHandler} {hs : List ExceptHandler} {l : List (Value × (Addr → Value → Option Addr → TS))} {pos : Pos} {tb : WX → TS}
theorem ps_try_asM (st : X.stack = X.env :: X.outer) (fr : X.env.frame = some X.env.locals) (nd : X.N.Nodup) (ni : X.N[i]? = some n) (nl : X.env.kindOf n = some .local)
    (B : ∀ (W : WX) (pn : List (Addr × Obj)) (xe : Value → Shared → Prop), Takes (X.tr pn xe) W → PassesOwn (model X.prog X.w) X.A X.env xe → PSs (X.tr pn xe) body (tb W)) (hh : HdAs X n (h1 :: hs) l) :
    PS X (.Try body (h1 :: hs) [] [] pos) (fun D σ H => tb (wAsM X.K i D l) D σ H) := by
  refine ⟨fun pins s σ H D I q => ?_⟩
  have K0 := I.ok
  have frs0 : X.A.frames = some (X.env :: X.outer) := K0.frames.trans (congrArg some st)
  refine wpAny_Try_except (wpAny_mono ((B (wAsM X.K i D l) (X.pn ++ pins) (fun e t1 => wpAny (model X.prog X.w) X.A (noteFrame e X.env) (fun _ t2 => wpAny (model X.prog X.w) X.A (setFlight e none) (fun _ t3 => wpAny (model X.prog X.w) X.A (handleBy e X.env (h1 :: hs)) (SP X pins D) X.xe t3) X.xe t2) X.xe t1) (fun u s' y => ?_) PassesOwn.looking).run [] s σ H D (I.toTry _) q) (fun f s1 z => ?_) (fun _ _ z => z))
  · obtain ⟨a, G, sI, pn', σ', H', cls, d, rfl, J0, nb, up, sky, na, os, ag, w⟩ := y
    have J : Inv X pins σ' H' sI := J0.ofTry K0
    refine Sky.land Zc.steady frs0 fr (st ▸ sky) fun h3 f3 u3 => ?_
    have J3 : Inv X pins σ' H' { s' with heap := h3 } := J.landed nb f3.1 (up.trans u3) os ag
    obtain ⟨oe, vs, e3, z3, d3⟩ := f3.there
    have nfr : a ∉ frs (X.env :: X.outer) := fun m => by
      obtain ⟨_, o, e, ho⟩ := f3.2.2.1.mem m
      rw [e3] at e
      cases e
      exact ho _ d3
    have aL : a ≠ X.env.locals := fun y => nfr (List.mem_filterMap.mpr ⟨X.env, .head _, by rw [fr, y]⟩)
    have aF : a ∉ X.fs := fun m => let ⟨e, he, y⟩ := List.mem_filterMap.mp m; nfr (List.mem_filterMap.mpr ⟨e, .tail _ he, y⟩)
    have go : ∀ {hs' : List ExceptHandler} {l' : List (Value × (Addr → Value → Option Addr → TS))}, HdAs X n hs' l' → wAsM X.K i D l' cls d σ' H' → wpAny (model X.prog X.w) X.A (handleBy (.ref a) X.env hs') (SP X pins D) X.xe { s' with heap := h3 } := by
      intro hs' l' k
      induction k with
      | nil => exact fun w => w.elim
      | @cons x c ts b0 su np ps hs2 l2 hc hsu r ih =>
        rintro ⟨b, eb, yes, no⟩
        refine wpAny_handleBy_cons (codeAny_handlers_test ?_) (fun y => nomatch y)
        have tyE : PySem.W.Looks (model X.prog X.w) h3 (typeOf (.ref a)) cls := fun _ _ _ _ k y => wpAny_typeOf_ref (k _ _ e3) (z3.1.symm ▸ y)
        have mt := PySem.W.exm_one (M := model X.prog X.w) J3.kIn tyE eb
        have S3 := J3.suite e3 d3 na aL aF
        have nm : ∀ {Q E : Value → Shared → Prop}, Q c { s' with heap := h3 } → wpAny (model X.prog X.w) (X.A.mark (some (.ref a))) (eval (.Name x np) X.env) Q E { s' with heap := h3 } := fun {Q E} y => by
          obtain ⟨g1, g2, g3 | ⟨g3, g4, g5⟩⟩ := hc
          · exact ld_glob (X := X.suite a ((a, oe) :: (X.pn ++ pins))) S3 g1 g3 y g2
          · exact ld_blt (X := X.suite a ((a, oe) :: (X.pn ++ pins))) S3 g1 g3 g4 y g5 g2
        refine nm (mt.here ?_)
        cases b with
        | false => exact ih (no rfl)
        | true =>
          refine codeAny_handlers_suite_as (HandSPX.lands_againZ f3 fun h4 f4 u4 => ?_)
          obtain ⟨oe4, vs4, e4, z4, d4⟩ := f4.there
          have S4 := (J.landed nb f4.1 ((up.trans u3).trans u4) os ag : Inv X pins σ' H' { s' with heap := h4 }).suite e4 d4 na aL aF
          refine store_ok (X := X.suite a ((a, oe4) :: (X.pn ++ pins))) (v := .ref a) S4 nd ni (.inl nl) rfl (fun s5 S5 => ?_) (.inr nl)
          refine wpAny_mono ((hsu a oe4 cls d (X.pn ++ pins) z4 ⟨_, d4⟩).run [] s5 _ H' _ S5 (yes rfl a na)) (fun f s6 y => ?_) (fun _ _ y => False.elim y)
          have fin : ∀ {σ6 : L2.St} {H6 : Hp} {Q : Shared → Prop}, Inv (X.suite a ((a, oe4) :: (X.pn ++ pins))) [] σ6 H6 s6 → (∀ s7, Inv X pins (σ6.set i none) H6 s7 → Q s7) → wpAny (model X.prog X.w) X.A (do bindName X.env n .none; unbindBehindTheSuite X.env n ps) (fun _ s7 => Q s7) X.xe s6 :=
            fun S6 y => gone_ok (S6.unsuite K0) nd ni nl y
          match f, y with
          | .next, ⟨σ6, H6, S6, y⟩ => exact fin S6 fun s7 J7 => ⟨_, _, J7, y⟩
          | .brk, ⟨σ6, H6, S6, y⟩ => exact fin S6 fun s7 J7 => ⟨_, _, J7, y⟩
          | .cont, ⟨σ6, H6, S6, y⟩ => exact fin S6 fun s7 J7 => ⟨_, _, J7, y⟩
          | .ret u, ⟨v6, σ6, H6, S6, r6, y⟩ => exact fin S6 fun s7 J7 => ⟨_, _, _, J7, r6, y⟩
    exact go hh w
  · match f, z with
    | .next, ⟨σ1, H1, J1, y⟩ => exact wpAny_execs_nil ⟨σ1, H1, J1.ofTry K0, y⟩
    | .brk, ⟨σ1, H1, J1, y⟩ => exact ⟨σ1, H1, J1.ofTry K0, y⟩
    | .cont, ⟨σ1, H1, J1, y⟩ => exact ⟨σ1, H1, J1.ofTry K0, y⟩
    | .ret u, ⟨v, σ1, H1, J1, r1, y⟩ => exact ⟨v, σ1, H1, J1.ofTry K0, r1, y⟩
end
structure ExI (K : PySem.W.Frag) (C : Addr) : Prop where
  cl : (PySem.W.clsIn K C).isSome = true
  ga : PySem.W.findIn K (.ref C) "__getattribute__" = some (some (.builtin "BaseException.__getattribute__"))
  gg : PySem.W.findIn K (.ref C) "__getattr__" = some none
  sb : PySem.W.subIn K (.ref C) (.type "BaseException") = some true
  ca : PySem.W.findIn K (.ref C) "__class__" = some (some (.builtin "object.__class__"))
  sp : PySem.W.specialIn K (.builtin "object.__class__") "__get__" = some (some (.builtin "getset_descriptor.__get__"))
  tk : PySem.W.takesIn K (.builtin "object.__class__") = some true
  mr : PySem.W.mroIn K C (.type "object") = some true
theorem exiB_ok {K : PySem.W.Frag} {C : Addr} (h : exiB K C = true) : ExI K C := by
  unfold exiB at h
  simp only [Bool.and_eq_true, decide_eq_true_eq] at h
  obtain ⟨⟨⟨⟨⟨⟨⟨a, b⟩, c⟩, d⟩, e⟩, f⟩, g⟩, i⟩ := h
  exact ⟨a, He.eqO_ok b, He.eqO_ok c, d, He.eqO_ok e, He.eqO_ok f, g, i⟩
def rIsX (K : PySem.W.Frag) (C a : Addr) (d : Option Addr) : List V → Hp → VK → Prop := fun xs H Q => ∃ (c : V) (u : Value) (b : Bool) (dd : Addr) (fs : List (Str × V)), xs = [.ref a, c] ∧ ClsV c u ∧ d = some dd ∧ H dd = some (.xd fs) ∧ PySem.W.kitOne K (.ref C) u = some b ∧ Q (.bl b) H
theorem call_isX {X : Cx} {a C : Addr} {oe : Obj} {d : Option Addr} {pn : List (Addr × Obj)} (T : ExI X.K C) (hz : Zc (.ref C) d oe) (hf : ∃ vs, oe.data = .fields vs) : CallR (X.suite a ((a, oe) :: pn)) (.builtin "isinstance") (rIsX X.K C a d) := by
  intro pins s σ H xs us Q I r h
  obtain ⟨c, u, b, dd, fs, rfl, k, rfl, ed, e, q⟩ := h
  obtain ⟨u1, u2, rfl, r1, r2⟩ := vals2 r
  have e2 := k.eq r2
  subst e2
  cases r1
  obtain ⟨ha, _⟩ := I.pin (a, oe) (List.mem_append_left _ (.head _))
  obtain ⟨vs, hd⟩ := hf
  obtain ⟨mA, hns, _⟩ := (show ObjOk X.prog X.w H s.heap dd (.xd fs) from I.hok dd _ ed)
  obtain ⟨od, ho, _⟩ := lookIn_ns hns
  have J : PySem.W.InstAt s.heap a oe C (some od) := ⟨ha, hz.1, by unfold PySem.W.notCls; rw [hd] <;> rfl, by rw [hz.2]; exact ho⟩
  exact PySem.W.kia_one (PySem.W.kitx_exc T.cl T.ga T.gg T.sb T.ca T.sp T.tk T.mr) I.kIn J e (fun z => nomatch z) fun tk => ⟨.bl b, H, I.tok tk, rfl, q⟩
structure SC (K : PySem.W.Frag) (i : Nat) (L : List (Nat × Bool)) (a od : Addr) (fs : List (Str × PD)) (σ : Sg) (H : Hp) (A : AS) : Prop where
  e : σ[i]? = some (some (.ref a))
  f : ∃ vs : List (Str × V), H od = some (.xd vs) ∧ vs.map (·.1) = fs.map (·.1) ∧ DvA K H A (vs.map (·.2)) (fs.map (·.2))
  l : ∀ p ∈ L, σ[p.1]? = some (some (.bl p.2))
  na : ∀ a, A a → H a ≠ none
theorem SC.grow {K i L a od fs σ H H' A} (s : SC K i L a od fs σ H A) (g : NewH H H') : SC K i L a od fs σ H' A :=
  let ⟨vs, h1, h2, h3⟩ := s.f
  ⟨s.e, ⟨vs, g _ _ h1, h2, h3.mono (S := fun _ => False) (fun b o _ e => g b o e) (fun _ z => z.elim) fun _ z => .inl z⟩, s.l, fun a z => g.dom a (s.na a z)⟩
abbrev GI := List (Str × PD) → Option PD
def UD (K : PySem.W.Frag) (i : Nat) (L : List (Nat × Bool)) (t : Addr → Option Addr → TE) (g : GI) : Prop := ∀ (a od : Addr) (fs : List (Str × PD)) (σ : Sg) (H : Hp) (A : AS) (Q : VK) (x : PD), SC K i L a od fs σ H A → g fs = some x →
  (∀ v H', NewH H H' → Dv K H' A v x → Q v H') → t a (some od) σ H Q
def UDs (K : PySem.W.Frag) (i : Nat) (L : List (Nat × Bool)) (t : Addr → Option Addr → TA) (g : List (Str × PD) → Option (List PD)) : Prop := ∀ (a od : Addr) (fs : List (Str × PD)) (σ : Sg) (H : Hp) (A : AS) (Q : List V → Hp → Prop) (x : List PD), SC K i L a od fs σ H A → g fs = some x →
  (∀ v H', NewH H H' → DvA K H' A v x → Q v H') → t a (some od) σ H Q
def SD (K : PySem.W.Frag) (i : Nat) (L : List (Nat × Bool)) (t : Addr → Option Addr → TS) (g : GI) : Prop := ∀ (a od : Addr) (fs : List (Str × PD)) (σ : Sg) (H : Hp) (A : AS) (D : Ends) (x : PD), SC K i L a od fs σ H A → g fs = some x →
  (∀ v H', NewH H H' → Dv K H' A v x → D.rt v H') → t a (some od) D σ H
structure UX (X : Cx) (K : PySem.W.Frag) (C : Addr) (i : Nat) (L : List (Nat × Bool)) (e : Expr) (t : Addr → Option Addr → TE) (g : GI) : Prop where
  p : ∀ (a : Addr) (oe : Obj) (d : Option Addr) (pn : List (Addr × Obj)), Zc (.ref C) d oe → (∃ vs, oe.data = .fields vs) → PE (X.suite a ((a, oe) :: pn)) e (t a d)
  d : UD K i L t g
structure UXs (X : Cx) (K : PySem.W.Frag) (C : Addr) (i : Nat) (L : List (Nat × Bool)) (es : List Expr) (t : Addr → Option Addr → TA) (g : List (Str × PD) → Option (List PD)) : Prop where
  p : ∀ (a : Addr) (oe : Obj) (d : Option Addr) (pn : List (Addr × Obj)), Zc (.ref C) d oe → (∃ vs, oe.data = .fields vs) → PA (X.suite a ((a, oe) :: pn)) es (t a d)
  d : UDs K i L t g
structure SU (X : Cx) (K : PySem.W.Frag) (C : Addr) (i : Nat) (L : List (Nat × Bool)) (ss : List Stmt) (t : Addr → Option Addr → TS) (g : GI) : Prop where
  p : ∀ (a : Addr) (oe : Obj) (d : Option Addr) (pn : List (Addr × Obj)), Zc (.ref C) d oe → (∃ vs, oe.data = .fields vs) → PSs (X.suite a ((a, oe) :: pn)) ss (t a d)
  d : SD K i L t g
section
variable {X : Cx} {K : PySem.W.Frag} {C : Addr} {i : Nat} {L : List (Nat × Bool)} {e e2 : Expr} {es rest : List Expr} {t u : Addr → Option Addr → TE} {ta : Addr → Option Addr → TA} {g : GI} {gs : List (Str × PD) → Option (List PD)} {pos p p2 : Pos} {b b2 : Bool}
theorem ux_s {x : Str} {j} : UX X K C i L (.Constant (.str x) j pos) (fun _ _ => tC (.str x)) (fun _ => some (.str x)) := ⟨fun _ _ _ _ _ _ => pe_str, fun a od fs σ H A Q y s e k => by cases e; exact k _ H .refl (.str x)⟩
theorem ux_i {x : Int} {j} : UX X K C i L (.Constant (.int x) j pos) (fun _ _ => tC (.int x)) (fun _ => some (.int x)) := ⟨fun _ _ _ _ _ _ => pe_int, fun a od fs σ H A Q y s e k => by cases e; exact k _ H .refl (.int x)⟩
theorem ux_b {x : Bool} {j} : UX X K C i L (.Constant (.bool x) j pos) (fun _ _ => tC (.bl x)) (fun _ => some (.bool x)) := ⟨fun _ _ _ _ _ _ => pe_bl, fun a od fs σ H A Q y s e k => by cases e; exact k _ H .refl (.bl x)⟩
theorem ux_neg {x : Int} {j} : UX X K C i L (.UnaryOp .USub (.Constant (.int x) j p) pos) (fun _ _ => tUn (rU fun i => .int (-i)) (tC (.int x))) (fun _ => some (.int (-x))) := ⟨fun _ _ _ _ _ _ => pe_un un_neg pe_int, fun a od fs σ H A Q y s e k => by cases e; exact ⟨x, rfl, k _ H .refl (.int _)⟩⟩
theorem ux_f {n f : Str} (hK : X.K = K) (T : XfC K C) (hno : PySem.W.findIn K (.ref C) f = some none) (hN : X.N[i]? = some n := by rfl) (hv : Vis X.env.scope n := by first | exact Or.inl rfl | exact Or.inr (Or.inl rfl) | exact Or.inr (Or.inr rfl)) (hd : (n == ("__debug__" : Str)) = false := by decide) (hcd : (n == ("__classdict__" : Str)) = false := by decide)
    (hb : attributeBase (.Name n p) f X.env (eval (.Name n p) X.env) = eval (.Name n p) X.env := by rfl) : UX X K C i L (.Attribute (.Name n p) f pos) (fun a d => tXf a (.ref C) d C f (tVar i)) (fun fs => fs.lookup f) := by
  subst hK
  refine ⟨fun a oe d pn hz hf => pe_xf T hno hz hf (pe_var hN hv hd hcd) hb, fun a od fs σ H A Q x s eg k => ?_⟩
  obtain ⟨vs, h1, h2, h3⟩ := s.f
  obtain ⟨v, lv, hv'⟩ := fs_lookup h2 h3 eg
  exact ⟨.ref a, s.e, rfl, rfl, od, vs, v, rfl, h1, lv, k _ H .refl hv'⟩
theorem ux_v (j : Nat) {n : Str} (hm : (j, b) ∈ L) (hN : X.N[j]? = some n := by rfl) (hv : Vis X.env.scope n := by first | exact Or.inl rfl | exact Or.inr (Or.inl rfl) | exact Or.inr (Or.inr rfl)) (hd : (n == ("__debug__" : Str)) = false := by decide) (hcd : (n == ("__classdict__" : Str)) = false := by decide) :
    UX X K C i L (.Name n pos) (fun _ _ => tVar j) (fun _ => some (.bool b)) := ⟨fun _ _ _ _ _ _ => pe_var hN hv hd hcd, fun a od fs σ H A Q x s eg k => by cases eg; exact ⟨_, s.l _ hm, k _ H .refl (.bl b)⟩⟩
theorem ux_is {n x : Str} {q q2 : Pos} {cv : V} {u : Value} (hK : X.K = K) (T : ExI K C) (hk : ClsV cv u) (hi : PySem.W.kitOne K (.ref C) u = some b) (hg : Gl X "isinstance") (hm : X.mg "isinstance" = none)
    (hc : ∀ (a : Addr) (oe : Obj) (pn : List (Addr × Obj)), PE (X.suite a ((a, oe) :: pn)) (.Name x q2) (tC cv)) (hN : X.N[i]? = some n := by rfl) (hv : Vis X.env.scope n := by first | exact Or.inl rfl | exact Or.inr (Or.inl rfl) | exact Or.inr (Or.inr rfl)) (hd : (n == ("__debug__" : Str)) = false := by decide) (hcd : (n == ("__classdict__" : Str)) = false := by decide)
    (he : starEach [.Name n q, .Name x q2] X.env = (false, eval (.Name n q) X.env) :: starEach [.Name x q2] X.env := by rfl) (he2 : starEach [.Name x q2] X.env = (false, eval (.Name x q2) X.env) :: starEach [] X.env := by rfl) (hpl : (backTo pos (starEach [.Name x q2] X.env)).any (·.1) = false := by rfl) :
    UX X K C i L (.Call (.Name "isinstance" p) [.Name n q, .Name x q2] [] pos) (fun a d => tCB (rIsX K C a d) (tCons (tVar i) (tCons (tC cv) tNil))) (fun _ => some (.bool b)) := by
  subst hK
  refine ⟨fun a oe d pn hz hf => pe_callB (X := X.suite a ((a, oe) :: pn)) (call_isX T hz hf) hg hm (by decide +kernel) (pa_cons (pe_var hN hv hd hcd) (pa_cons (hc a oe pn) pa_nil he2) he) (he := he) (hpl := hpl), fun a od fs σ H A Q x s eg k => ?_⟩
  cases eg
  obtain ⟨vs, h1, _⟩ := s.f
  exact ⟨.ref a, s.e, cv, u, b, od, vs, rfl, hk, rfl, h1, hi, k _ H .refl (.bl b)⟩
theorem ux_not (h : UX X K C i L e t fun _ => some (.bool b)) : UX X K C i L (.UnaryOp .Not e pos) (fun a d => tNotV (t a d)) (fun _ => some (.bool (!b))) :=
  ⟨fun a oe d pn hz hf => pe_not (h.p a oe d pn hz hf), fun a od fs σ H A Q x s eg k => h.d a od fs σ H A _ _ s rfl fun v H1 g1 w => by cases eg; cases w; exact ⟨b, rfl, k _ H1 g1 (.bl _)⟩⟩
theorem ux_and (h : UX X K C i L e t fun _ => some (.bool b)) (h2 : UX X K C i L (.BoolOp .And (e2 :: rest) pos) u fun _ => some (.bool b2)) : UX X K C i L (.BoolOp .And (e :: e2 :: rest) pos) (fun a d => tAndV (t a d) (u a d)) (fun _ => some (.bool (b && b2))) :=
  ⟨fun a oe d pn hz hf => pe_and (h.p a oe d pn hz hf) (h2.p a oe d pn hz hf), fun a od fs σ H A Q x s eg k => h.d a od fs σ H A _ _ s rfl fun v H1 g1 w => by
    cases eg
    cases w
    refine ⟨b, rfl, ?_⟩
    cases b with
    | false => exact k _ H1 g1 (.bl _)
    | true => exact h2.d a od fs σ H1 A _ _ (s.grow g1) rfl fun v H2 g2 w => k v H2 (g1.trans g2) w⟩
theorem ux_one (h : UX X K C i L e t g) {op} : UX X K C i L (.BoolOp op [e] pos) t g := ⟨fun a oe d pn hz hf => pe_one (h.p a oe d pn hz hf), h.d⟩
theorem us0 : UXs X K C i L [] (fun _ _ => tNil) (fun _ => some []) := ⟨fun _ _ _ _ _ _ => pa_nil, fun a od fs σ H A Q x s eg k => by cases eg; exact k _ H .refl .nil⟩
theorem us1 (h : UX X K C i L e t g) (h2 : UXs X K C i L es ta gs) (hs : starEach (e :: es) X.env = (false, eval e X.env) :: starEach es X.env := by rfl) : UXs X K C i L (e :: es) (fun a d => tCons (t a d) (ta a d)) (fun fs => (g fs).bind fun x => (gs fs).map (x :: ·)) :=
  ⟨fun a oe d pn hz hf => pa_cons (h.p a oe d pn hz hf) (h2.p a oe d pn hz hf) hs, fun a od fs σ H A Q x s eg k => by
    obtain ⟨y, e1, e2⟩ := Option.bind_eq_some_iff.mp eg
    obtain ⟨ys, e3, e4⟩ := Option.map_eq_some_iff.mp e2
    subst e4
    exact h.d a od fs σ H A _ _ s e1 fun v H1 g1 w => h2.d a od fs σ H1 A _ _ (s.grow g1) e3 fun vs H2 g2 w2 => k _ H2 (g1.trans g2) (.cons (w.mono (S := fun _ => False) (fun b o _ e => g2 b o e) (fun _ z => z.elim) fun _ z => .inl z) w2)⟩
theorem ux_tup {k} (h : UXs X K C i L es ta gs) (hl : es.length ≤ 100 := by decide) : UX X K C i L (.Tuple es k pos) (fun a d => tTup (ta a d)) (fun fs => (gs fs).bind fun xs => if lineB xs.length = true then some (.tuple xs) else none) :=
  ⟨fun a oe d pn hz hf => pe_tup (h.p a oe d pn hz hf), fun a od fs σ H A Q x s eg k => by
    obtain ⟨ys, e1, e2⟩ := Option.bind_eq_some_iff.mp eg
    split at e2
    · rename_i q
      cases e2
      exact h.d a od fs σ H A _ _ s e1 fun vs H1 g1 w => ⟨by rw [w.len]; exact of_decide_eq_true q, fun p np => k _ _ (g1.trans (.upd np)) (.newTup (s.grow g1).na np w)⟩
    · cases e2⟩
theorem su_ret (h : UX X K C i L e t g) : SU X K C i L [.Return (some e) pos] (fun a d => tRet (t a d)) g :=
  ⟨fun a oe d pn hz hf => pss_one (ps_ret (h.p a oe d pn hz hf)), fun a od fs σ H A D x s eg k => h.d a od fs σ H A _ _ s eg k⟩
end
end Dl
set_option Elab.async false
set_option linter.all false
set_option maxRecDepth 100000
set_option maxHeartbeats 1000000
namespace Dl
open PySem PySem.Spec PyProof.Rows L2
def sTryM (i : Nat) (hs : List (Str × GI)) (fb : Nv → RS) : Nv → RS := fun n => match fb n with
  | some (.error (e, n1)) => if (noOw n1 && decide (i < n1.length)) = true then match hs.lookup e.nm with
      | some g => match g e.fs with
        | some x => some (.ok (.rt (.d x), n1.set i .un))
        | none => none
      | none => none
    else none
  | r => r
inductive TcX (X : Cx) (c : Cz) (XS : List (Str × Addr)) (n : Str) (i : Nat) : List ExceptHandler → List (Value × (Addr → Value → Option Addr → TS)) → List (Str × GI) → Prop
  | nil : TcX X c XS n i [] [] []
  | cons {x : Str} {C : Addr} {t : Addr → Option Addr → TS} {g : GI} {b0 : Stmt} {su : List Stmt} {np ps : Pos} {hs : List ExceptHandler} {l : List (Value × (Addr → Value → Option Addr → TS))} {gs : List (Str × GI)}
      (hx : (x, C) ∈ XS) (hcl : c.cl x = some (.ref C)) (hc : Names X x (.ref C)) (s : SU X c.K C i [] (b0 :: su) t g) (r : TcX X c XS n i hs l gs) :
      TcX X c XS n i (.ExceptHandler (some (.Name x np)) (some n) (b0 :: su) ps :: hs) ((.ref C, fun a cls d D σ H => cls = .ref C ∧ t a d D σ H) :: l) ((x, g) :: gs)
theorem pss_if {X : Cx} {ss : List Stmt} {t : TS} {P : Prop} (h : P → PSs X ss t) : PSs X ss (fun D σ H => P ∧ t D σ H) := ⟨fun pins s σ H D I k => (h k.1).run pins s σ H D I k.2⟩
theorem TcX.hd {X : Cx} {c : Cz} {XS n i hs l gs} (h : TcX X c XS n i hs l gs) : HdAs X n hs l := by
  induction h with
  | nil => exact .nil
  | cons hx hcl hc s r ih => exact .cons hc (fun a oe cls d pn z f => pss_if fun e => s.p a oe d pn (e ▸ z) f) ih
theorem TcX.takes {X : Cx} {c : Cz} {XS : List (Str × Addr)} {n : Str} {i : Nat} {hs l gs} (M : ∀ p ∈ XS, ∀ q ∈ XS, PySem.W.exmOne c.K (.ref p.2) (.ref q.2) = some (decide (p.1 = q.1))) (h : TcX X c XS n i hs l gs)
    {nm : Str} {cls : Value} (hcl : c.cl nm = some cls) {g : GI} (hl : gs.lookup nm = some g) {fs : List (Str × PD)} {x : PD} (hx : g fs = some x) {od : Addr} {σ : Sg} {H : Hp} {A : AS} {D : Ends} (hi : i < σ.length)
    (hf : ∃ vs : List (Str × V), H od = some (.xd vs) ∧ vs.map (·.1) = fs.map (·.1) ∧ DvA c.K H A (vs.map (·.2)) (fs.map (·.2))) (na : ∀ a, A a → H a ≠ none) (k : ∀ v H', NewH H H' → Dv c.K H' A v x → D.rt v H') : wAsM c.K i D l cls (some od) σ H := by
  have ex : ∃ C, cls = .ref C ∧ (nm, C) ∈ XS := by
    induction h with
    | nil => cases hl
    | @cons y C _ _ _ _ _ _ _ _ _ m cl _ _ _ ih =>
      rw [List.lookup_cons] at hl
      split at hl
      · rename_i q
        have e := beq_iff_eq.mp q
        subst e
        rw [cl] at hcl
        cases hcl
        exact ⟨C, rfl, m⟩
      · exact ih hl
  obtain ⟨C0, rfl, m0⟩ := ex
  induction h with
  | nil => cases hl
  | @cons y C t g' _ _ _ _ _ _ _ m cl _ s _ ih =>
    refine ⟨decide (nm = y), M _ m0 _ m, fun e a na' => ?_, fun e => ih ?_⟩
    · have e := of_decide_eq_true e
      subst e
      rw [cl] at hcl
      cases hcl
      rw [List.lookup_cons, beq_self_eq_true] at hl
      cases hl
      exact ⟨rfl, s.d a od fs _ H A _ x ⟨List.getElem?_set_self hi, hf, (fun _ z => nomatch z), na⟩ hx k⟩
    · rw [List.lookup_cons] at hl
      split at hl
      · rename_i q
        rw [beq_iff_eq.mp q] at e
        simp at e
      · exact hl
theorem ds_tryM {X : Cx} {c : Cz} {XS : List (Str × Addr)} {n : Str} {i : Nat} {hs l gs} (M : ∀ p ∈ XS, ∀ q ∈ XS, PySem.W.exmOne c.K (.ref p.2) (.ref q.2) = some (decide (p.1 = q.1))) (h : TcX X c XS n i hs l gs) {tb : WX → TS} {fb : Nv → RS}
    (hb : ∀ W : WX, DS ⟨c.K, c.cl, WE W⟩ (tb W) fb) : DS c (fun D σ H => tb (wAsM c.K i D l) D σ H) (sTryM i gs fb) := fun S H0 σ H n' D R hd h1 => by
  refine hb _ S H0 σ H n' D R hd ?_
  unfold sTryM at h1
  match fb n', h1 with
  | some (.ok (.nx, _)), h1 => exact h1
  | some (.ok (.bk, _)), h1 => exact h1
  | some (.ok (.ct, _)), h1 => exact h1
  | some (.ok (.rt _, _)), h1 => exact h1
  | some (.error (e, n1)), h1 =>
    dsimp only at h1
    split at h1
    · rename_i q
      simp only [Bool.and_eq_true, decide_eq_true_eq] at q
      obtain ⟨q2, q3⟩ := q
      split at h1
      · rename_i g hl
        split at h1
        · rename_i x hx
          intro σ' H' st R' C' od H2 ext dom z
          obtain ⟨z1, d, vs, rfl, hd', hk, hv⟩ := z
          have gr : NewH H' H2 := fun b o e => ext b o (noOw_own q2 b) e
          have fr : Fre n1 i := fun ds e => by
            have z := List.all_eq_true.mp q2 _ (List.mem_of_getElem? e)
            cases z
          have na : ∀ b, AV S σ' n1 b → H2 b ≠ none := (Rel.ext R' gr).avSome
          refine h.takes M z1 hl hx (by rw [← R'.len]; exact q3) ⟨vs, hd', hk, hv⟩ na fun v H3 g3 w => ?_
          have R2 : Rel c.K S H3 σ' n1 := Rel.ext (Rel.ext R' gr) g3
          have S2 : Stp σ' n1 H' σ' n1 H3 := .grown (gr.trans g3)
          refine h1 _ _ _ (st.trans (S2.trans (.setUn (x := some (.ref 0)) fr))) (R2.setUn (x := some (.ref 0)) fr) ?_
          exact w.weak fun b z => z.elim .inl fun q => .inr (own_set (fun _ _ w => by cases w) b q)
        · exact h1.elim
      · exact h1.elim
    · exact h1.elim
section
variable {X : Cx} {K : PySem.W.Frag} {cl : Str → Option Value} {EE : Sg → XK} {XS : List (Str × Addr)} {n : Str} {body : List Stmt} {h1 : ExceptHandler} {hs : List ExceptHandler} {l : List (Value × (Addr → Value → Option Addr → TS))} {gs : List (Str × GI)} {pos : Pos} {tb : WX → TS} {fb : Nv → RS}
theorem stryM (i : Nat) (hN : X.N.Nodup) (hK : X.K = K) (hst : X.stack = X.env :: X.outer) (hf : X.env.frame = some X.env.locals) (hex : X.ex = []) (M : ∀ p ∈ XS, ∀ q ∈ XS, PySem.W.exmOne K (.ref p.2) (.ref q.2) = some (decide (p.1 = q.1)))
    (hb : ∀ (W : WX) (pn : List (Addr × Obj)) (xe : Value → Shared → Prop), Takes (X.tr pn xe) W → PassesOwn (model X.prog X.w) X.A X.env xe → BX (X.tr pn xe) ⟨K, cl, WE W⟩ body (tb W) fb) (h : TcX X ⟨K, cl, EE⟩ XS n i (h1 :: hs) l gs)
    (hi : X.N[i]? = some n := by rfl) (hln : X.env.kindOf n = some .local := by rfl) : SX X ⟨K, cl, EE⟩ (.Try body (h1 :: hs) [] [] pos) (fun D σ H => tb (wAsM K i D l) D σ H) (sTryM i gs fb) := by
  subst hK
  refine ⟨ps_try_asM hst hf hN hi hln (fun W pn xe t1 t2 => (hb W pn xe t1 t2).p) h.hd, ds_tryM (c := ⟨X.K, cl, EE⟩) M h fun W => ?_⟩
  let xe : Value → Shared → Prop := fun e s' => wpAny (model X.prog X.w) X.A (leaving X.env e) (fun _ s'' => L2.CX X.prog X.w X.outer X.H_0 X.s_0 (fun cls d H => ∃ σ, W cls d σ H) e s'') (fun _ _ => True) s'
  have tk : Takes (X.tr [] xe) W := fun u s' z => takes_of (X := X.tr [] xe) (E := fun cls d H => ∃ σ, W cls d σ H) hst hf hex rfl u s' (xe_mono (fun cls d σ H w => ⟨σ, w⟩) z)
  exact (hb W [] xe tk (passes_of (X := X.tr [] xe) rfl)).d
end
def sFrz (i : Nat) (f : Nv → RS) : Nv → RS := fun n => f (frz i n)
theorem frz_own {i : Nat} {n : Nv} {σ : Sg} : ∀ a, Own σ (frz i n) a → Own σ n a := fun a ⟨j, pm, ds, e1, e2⟩ => by
  unfold frz at e1
  split at e1
  · by_cases q : i = j
    · subst q
      have := (get_set_at e1).1
      cases this
    · rw [get_set_ne q] at e1
      exact ⟨j, pm, ds, e1, e2⟩
  · exact ⟨j, pm, ds, e1, e2⟩
theorem frz_stp {i : Nat} {n : Nv} {σ : Sg} {H : Hp} : Stp σ n H σ (frz i n) H := by
  refine ⟨fun _ _ _ h => h, fun a h => .inl (frz_own a h), fun _ h => h, fun j ds h => ⟨rfl, ds, ?_⟩⟩
  unfold frz
  split
  · rename_i e
    by_cases q : i = j
    · subst q
      rw [h] at e
      cases e
    · rw [get_set_ne q]
      exact h
  · exact h
theorem frz_rel {K : PySem.W.Frag} {S : AS} {i : Nat} {n : Nv} {σ : Sg} {H : Hp} (R : Rel K S H σ n) : Rel K S H σ (frz i n) := by
  have st : Stp σ n H σ (frz i n) H := frz_stp
  unfold frz at st ⊢
  split
  · rename_i ds e
    rw [e] at st
    dsimp only at st
    obtain ⟨p, o, e1, e2, e3, e4⟩ := R.ow i _ _ e
    obtain ⟨vs, rfl, e3⟩ := e3.lst
    have hl : i < n.length := (List.getElem?_eq_some_iff.mp e).1
    have nS : ¬ S p := e4 rfl
    have nO : ¬ Own σ (n.set i (.im (.list ds))) p := fun ⟨j, pm, ct, z1, z2⟩ => by
      by_cases q : i = j
      · subst q
        have := (get_set_at z1).1
        cases this
      · rw [get_set_ne q] at z1
        exact q (R.inj i j _ _ _ _ p e z1 e1 z2)
    refine ⟨by simp [R.len], fun j d h => ?_, fun j pm ct h => ?_, fun j k pm qm ct dt q h1 h2 h3 h4 => ?_, R.trk⟩
    · by_cases q : i = j
      · subst q
        obtain ⟨z, _⟩ := get_set_at h
        cases z
        exact ⟨_, e1, .lst (.inl ⟨.inl e2, fun z => z.elim nS nO⟩) (st.dvA e3)⟩
      · rw [get_set_ne q] at h
        obtain ⟨v, h1, h2⟩ := R.im j d h
        exact ⟨v, h1, st.dv h2⟩
    · by_cases q : i = j
      · subst q
        have := (get_set_at h).1
        cases this
      · rw [get_set_ne q] at h
        obtain ⟨p', o', h1, h2, h3, h4⟩ := R.ow j pm ct h
        exact ⟨p', o', h1, h2, st.ctV h3, h4⟩
    · by_cases z1 : i = j
      · subst z1
        have := (get_set_at h1).1
        cases this
      · by_cases z2 : i = k
        · subst z2
          have := (get_set_at h2).1
          cases this
        · rw [get_set_ne z1] at h1
          rw [get_set_ne z2] at h2
          exact R.inj j k _ _ _ _ q h1 h2 h3 h4
  · exact R
theorem sfrz {X : Cx} {c : Cz} {s : Stmt} {t : TS} {f : Nv → RS} (i : Nat) (h : SX X c s t f) : SX X c s t (sFrz i f) :=
  ⟨h.p, fun S H0 σ H n D R hd k => h.d S H0 σ H (frz i n) D (frz_rel R) (hd.trans frz_stp) (OkS.move frz_stp k)⟩
def oAdd (fa fb : Nv → Rs Ar) : Nv → Rs (List PD) := fun n => bnd (fa n) fun a n1 => bnd (fb n1) fun b n2 => lft (ArD n2 a) fun x => lft (ArD n2 b) fun y => match x, y with
  | .list ds, .list es => if lineB (ds.length + es.length) = true then ret (ds ++ es) n2 else none
  | _, _ => none
section
variable {X : Cx} {c : Cz} {a b e : Expr} {ta tb te : TE} {fa fb fe : Nv → Rs Ar} {pos p pos' : Pos}
theorem do_addL (h1 : DE c ta fa) (h2 : DE c tb fb) : DO c (tOp (rAddD c.K) ta tb) (oAdd fa fb) := fun S σ H n Q R h => by
  refine h1 S σ H n _ R (OkG.bind h fun v x n1 H1 s1 k1 R1 va h => ?_)
  refine h2 S σ H1 n1 _ R1 (OkG.bind h fun u y n2 H2 s2 k2 R2' vb h => ?_)
  obtain ⟨dx, ex, h⟩ := h.lft
  obtain ⟨dy, ey, h⟩ := h.lft
  match dx, dy, h with
  | .list ds, .list es, h =>
    dsimp only at h
    split at h
    · rename_i q
      obtain ⟨p, vs, rfl, g1, g2⟩ := (ArV.dw R2' (va.move s2 k2) ex).lst
      obtain ⟨p', us, rfl, g3, g4⟩ := (ArV.dw R2' vb ey).lst
      refine .inr (.inr (.inr (.inr ⟨p, p', vs, us, rfl, rfl, g1, g3, ?_, fun r nr => ?_⟩)))
      · rw [g2.len, g4.len]
        exact of_decide_eq_true q
      · exact h.ret (.upd nr) (R2'.new nr) ⟨r, rfl, s1.non (s2.non nr), .new R2' nr (g2.append g4)⟩
    · exact h.elim
theorem oaddl (h1 : EX X c a ta fa) (h2 : EX X c b tb fb) (hK : c.K = X.K := by rfl) : OX X c (.BinOp a .Add b pos) (tOp (rAddD c.K) ta tb) (oAdd fa fb) := ⟨hK ▸ pe_op op_addD h1.p h2.p, do_addL h1.d h2.d⟩
def sAug (g : Int → Int → Int) (i : Nat) (fe : Nv → Rs Ar) : Nv → RS := fun n => match n[i]? with
  | some (.im (.int x)) => sbn (fe n) fun a n1 => match a with
    | .d (.int y) => if free? n1 i = true then nxt (n1.set i (.im (.int (g x y)))) else none
    | _ => none
  | _ => none
theorem ds_aug {g : Int → Int → Int} {i : Nat} (h1 : DE c te fe) : DS c (tAug i te (ipI g)) (sAug g i fe) := fun S H0 σ H n D R hd h => by
  unfold sAug at h
  split at h
  · rename_i x e
    obtain ⟨v, e1, w⟩ := R.im _ _ e
    cases w
    refine ⟨.int x, e1, h1 S σ H n _ R (OkS.bind h fun u a n1 H1 s1 k1 R1 va h => ?_)⟩
    match a, va, h with
    | .d (.int y), va, h =>
      cases va
      dsimp only at h
      split at h
      · rename_i q
        exact ⟨x, y, rfl, rfl, h _ H1 (.setIm (free_of q)) (R1.setIm (free_of q) (.int _))⟩
      · exact h.elim
  · exact h.elim
theorem saugA (i : Nat) {x : Str} (hN : X.N.Nodup) (h1 : EX X c e te fe) (hi : X.N[i]? = some x := by rfl) (hx : Loc X.env.scope x := by first | exact Or.inl rfl | exact Or.inr rfl) (hf : X.fn x = true ∨ X.env.scope.names.lookup x = some .local := by first | exact .inl rfl | exact .inr rfl) :
    SX X c (.AugAssign (.Name x pos') .Add e pos) (tAug i te (ipI fun a b => a + b)) (sAug (fun a b => a + b) i fe) := ⟨ps_aug hN hi hx h1.p ip_add hf, ds_aug h1.d⟩
theorem saugS (i : Nat) {x : Str} (hN : X.N.Nodup) (h1 : EX X c e te fe) (hi : X.N[i]? = some x := by rfl) (hx : Loc X.env.scope x := by first | exact Or.inl rfl | exact Or.inr rfl) (hf : X.fn x = true ∨ X.env.scope.names.lookup x = some .local := by first | exact .inl rfl | exact .inr rfl) :
    SX X c (.AugAssign (.Name x pos') .Sub e pos) (tAug i te (ipI fun a b => a - b)) (sAug (fun a b => a - b) i fe) := ⟨ps_aug hN hi hx h1.p ip_sub hf, ds_aug h1.d⟩
end
def gPn {α : Type} (k : Nat) (pm : List Nat) (us ws : List α) : List α := match us with
  | [] => if ws.length = k then pm.filterMap (ws[·]?) else []
  | _ => []
theorem vals_get : ∀ {zs : List V} {ws : List Value}, Vals zs ws → ∀ i : Nat, (zs[i]? = none ∧ ws[i]? = none) ∨ ∃ z w, zs[i]? = some z ∧ ws[i]? = some w ∧ RelV z w
  | _, _, .nil, i => .inl (by simp)
  | _, _, .cons h t, 0 => .inr ⟨_, _, rfl, rfl, h⟩
  | _, _, .cons h t, i + 1 => by simpa using vals_get t i
theorem vals_pm {zs : List V} {ws : List Value} (h : Vals zs ws) : ∀ pm : List Nat, Vals (pm.filterMap (zs[·]?)) (pm.filterMap (ws[·]?))
  | [] => .nil
  | i :: r => by
    rcases vals_get h i with ⟨e1, e2⟩ | ⟨z, w, e1, e2, q⟩
    · rw [List.filterMap_cons, List.filterMap_cons, e1, e2]
      exact vals_pm h r
    · rw [List.filterMap_cons, List.filterMap_cons, e1, e2]
      exact .cons q (vals_pm h r)
theorem ars_get {K S σ n H} : ∀ {zs : List V} {ws : List Ar}, ArVs K S σ n H zs ws → ∀ i : Nat, (zs[i]? = none ∧ ws[i]? = none) ∨ ∃ z w, zs[i]? = some z ∧ ws[i]? = some w ∧ ArV K S σ n H z w
  | _, _, .nil, i => .inl (by simp)
  | _, _, .cons h t, 0 => .inr ⟨_, _, rfl, rfl, h⟩
  | _, _, .cons h t, i + 1 => by simpa using ars_get t i
theorem ars_pm {K S σ n H} {zs : List V} {ws : List Ar} (h : ArVs K S σ n H zs ws) : ∀ pm : List Nat, ArVs K S σ n H (pm.filterMap (zs[·]?)) (pm.filterMap (ws[·]?))
  | [] => .nil
  | i :: r => by
    rcases ars_get h i with ⟨e1, e2⟩ | ⟨z, w, e1, e2, q⟩
    · rw [List.filterMap_cons, List.filterMap_cons, e1, e2]
      exact ars_pm h r
    · rw [List.filterMap_cons, List.filterMap_cons, e1, e2]
      exact .cons q (ars_pm h r)
theorem kb_pn {K : PySem.W.Frag} {x qual : Str} {st : Stmt} {f : Addr} {fd : FuncData} {ps ks : List Str} {k : Nat} {pm : List Nat} (F : Fun K x qual st f fd) (hp : ps ≠ [])
    (h : ∀ (kV doc pmo : Value) (an : Option Addr) (cdv ct : Value) (ws : List Value), ws.length = k → bindArgs (PySem.W.fnOf x qual (defArgs st) (defBody st) (defScope st) .none kV doc pmo an cdv ct) ⟨[], ks.zip ws⟩ = pure (ps.zip (pm.filterMap (ws[·]?)))) : KBinds K fd ps ks (gPn k pm) (gPn k pm) := by
  obtain ⟨oc, od, kV, doc, pmo, an, cdv, ct, osl, rfl, lk, hcd⟩ := F.ex
  refine ⟨fun s us ws _ hl => ?_, fun {vs us zs ws} r rz => ?_⟩
  · match us, hl with
    | [], hl =>
      unfold gPn at hl ⊢
      dsimp only at hl ⊢
      split at hl
      · rename_i q
        rw [if_pos q]
        exact .of_eq (h kV doc pmo an cdv ct ws q)
      · exact (hp (List.eq_nil_of_length_eq_zero (by simpa using hl.symm))).elim
    | _ :: _, hl => exact (hp (List.eq_nil_of_length_eq_zero (by simpa [gPn] using hl.symm))).elim
  · cases r with
    | cons _ _ => exact .nil
    | nil =>
      unfold gPn
      dsimp only
      rw [rz.length]
      split
      · exact vals_pm rz pm
      · exact .nil
theorem ars_len {K S σ n H} : ∀ {vs : List V} {as : List Ar}, ArVs K S σ n H vs as → vs.length = as.length
  | _, _, .nil => rfl
  | _, _, .cons _ t => by simp [ars_len t]
theorem ArVs.pn {K S σ n H} {k : Nat} {pm : List Nat} {vs : List V} {as : List Ar} (r : ArVs K S σ n H vs as) : ArVs K S σ n H (gPn k pm [] vs) (gPn k pm [] as) := by
  unfold gPn
  dsimp only
  rw [ars_len r]
  split
  · exact ars_pm r pm
  · exact .nil
def tCallN (sp : Sp) (k : Nat) (pm : List Nat) (E : Sg → XK) (tk : TA) : TE := fun σ H Q => tk σ H fun zs H2 => sp (gPn k pm [] zs) H2 Q (E σ)
def eCallN (k : Nat) (pm : List Nat) (f : Nv → Rs Rv) (fr : Nv → Rs (List Ar)) : Nv → Rs Ar := fun n => bnd (fr n) fun as n1 => if dist (gPn k pm [] as) = true then lft (slots n1 (gPn k pm [] as)) fun m => cal (f m) n1 (eRv (gPn k pm [] as) n1) else none
structure CalN (P : Program) (w : World) (K : PySem.W.Frag) (mg : Str → Option Value) (base : Heap) (cl : Str → Option Value) (lv : Nat) (x : Str) (ps ks : List Str) (pm : List Nat) (f : Nv → Rs Rv) : Prop where
  ex : ∃ (a : Addr) (fd : FuncData), FnOk P w K mg base (L2.CX P w) lv a fd ps (spM K cl ps.length f) ∧ mg x = some (.ref a) ∧ PySem.W.keepIn K (.ref a) = true ∧ KBinds K fd ps ks (gPn ps.length pm) (gPn ps.length pm)
  ar : Ary ps.length f
section
variable {X : Cx} {CX : CXT} {k m : Nat} {f : Addr} {fd : FuncData} {ps ks : List Str} {sp : Sp} {E : Sg → XK} {x : Str} {p pos : Pos} {kws : List Keyword} {tk : TA} {pm : List Nat}
theorem pe_kwN (F : FnOk X.prog X.w X.K X.mg X.base CX k f fd ps sp) (hr : Room k X.A) (hg : Gl X x) (hm : X.mg x = some (.ref f)) (hk : PySem.W.keepIn X.K (.ref f) = true) (hb : KBinds X.K fd ps ks (gPn m pm) (gPn m pm)) (hx : ∀ σ, PassesAt CX X σ (E σ)) (hkw : PK X kws tk)
    (hall : (backToKw pos (keywordEach kws X.env)).all (·.1.isSome) = true := by rfl) (hks : (backToKw pos (keywordEach kws X.env)).filterMap (·.1) = ks := by rfl) (hdb : (x == ("__debug__" : Str)) = false := by decide)
    (hpl : ((backTo pos (starEach [] X.env)).any (·.1) || (backToKw pos (keywordEach kws X.env)).any (·.1.isNone)) = false := by rfl) : PE X (.Call (.Name x p) [] kws pos) (tCallN sp m pm E tk) := by
  refine ⟨fun pins s σ H Q I h => wpAny_Call_Name_kw (ld_glob I hg hm ?_ hdb)⟩
  refine PySem.W.callWith_KW0 (h₀ := X.base) I.ok.mod.kin hk hall (thn (hkw.run pos pins s σ H _ I h) fun ws s2 ⟨zs, H2, I2, rz, q2⟩ => ⟨I2.kIn, ?_⟩) hpl
  rw [hks]
  have r2 := hb.rel (vs := []) (us := []) .nil rz
  have hl : (gPn m pm [] ws).length = ps.length := by rw [← r2.length]; exact F.len _ _ _ _ q2
  refine wpAny_call (codeAny_mono (F.run X.A X.stack s2 H2 ⟨[], ks.zip ws⟩ _ _ Q (E σ) hr I2.env0 (hb.to s2 [] ws I2.kIn hl) r2 q2) fun res s' hq => ?_)
  match res, hq with
  | .error e, hq => exact hx σ pins H2 s2 e s' I2 hq
  | .ok (.ret u), hq => exact I2.after hq
theorem de_callN {c : Cz} {k : Nat} {f : Nv → Rs Rv} {m : Nat} {pm : List Nat} {ta : TA} {fr : Nv → Rs (List Ar)} {E : Sg → XK} (hr : DA c ta fr) (hf : Ary k f) (hE : ∀ σ, E σ = c.E σ) : DE c (tCallN (spM c.K c.cl k f) m pm E ta) (eCallN m pm f fr) := fun S σ H n Q R h => by
  refine hr S σ H n _ R (OkG.bind h fun vs as n1 H1 s1 k1 R1 va h1 => ?_)
  exact call_core (W := fun _ _ _ _ => True) hf (hE σ) R1 va.pn h1
theorem Cal.kwN {P : Program} {w : World} {K : PySem.W.Frag} {mg : Str → Option Value} {base : Heap} {cl : Str → Option Value} {x qual : Str} {st : Stmt} {f : Addr} {fd : FuncData} {ps ks : List Str} {pm : List Nat} {lv : Nat} {ff : Nv → Rs Rv} (C : Cal P w K mg base cl lv x ps ff) (F : Fun K x qual st f fd) (hm : mg x = some (.ref f)) (hp : ps ≠ [])
    (h : ∀ (kV doc pmo : Value) (an : Option Addr) (cdv ct : Value) (ws : List Value), ws.length = ps.length → bindArgs (PySem.W.fnOf x qual (defArgs st) (defBody st) (defScope st) .none kV doc pmo an cdv ct) ⟨[], ks.zip ws⟩ = pure (ps.zip (pm.filterMap (ws[·]?)))) : CalN P w K mg base cl lv x ps ks pm ff :=
  let ⟨oc, od, kV, doc, pmo, an, cdv, ct, osl, e, lk, _⟩ := F.ex
  ⟨⟨f, fd, C.any f fd oc od osl hm lk, hm, F.kp, kb_pn F hp h⟩, C.ar⟩
theorem xcalN {K : PySem.W.Frag} {cl : Str → Option Value} {lv : Nat} {f : Nv → Rs Rv} {tA : TA} {fA : Nv → Rs (List Ar)} {W : WX} (hK : X.K = K) (C : CalN X.prog X.w K X.mg X.base cl lv x ps ks pm f) (hr : Room k X.A) (tk : Takes X W) (hg : Gl X x)
    (ha : KX X ⟨K, cl, WE W⟩ kws tA fA) (hl : lv ≤ k := by decide) (hall : (backToKw pos (keywordEach kws X.env)).all (·.1.isSome) = true := by rfl) (hks : (backToKw pos (keywordEach kws X.env)).filterMap (·.1) = ks := by rfl) (hdb : (x == ("__debug__" : Str)) = false := by decide)
    (hpl : ((backTo pos (starEach [] X.env)).any (·.1) || (backToKw pos (keywordEach kws X.env)).any (·.1.isNone)) = false := by rfl) : EX X ⟨K, cl, WE W⟩ (.Call (.Name x p) [] kws pos) (tCallN (spM K cl ps.length f) ps.length pm (WE W) tA) (eCallN ps.length pm f fA) := by
  subst hK
  obtain ⟨a, fd, F, hm, kp, bd⟩ := C.ex
  exact ⟨pe_kwN F (hr.mono hl) hg hm kp bd (fun σ => passAt tk σ) ha.p hall hks hdb hpl, de_callN ha.d C.ar fun _ => rfl⟩
theorem xcalNE {K : PySem.W.Frag} {cl : Str → Option Value} {lv : Nat} {f : Nv → Rs Rv} {tA : TA} {fA : Nv → Rs (List Ar)} {E : XK} (hK : X.K = K) (C : CalN X.prog X.w K X.mg X.base cl lv x ps ks pm f) (hr : Room k X.A) (tk : Takes X fun cls d _ H => E cls d H) (hg : Gl X x)
    (ha : KX X ⟨K, cl, fun _ => E⟩ kws tA fA) (hl : lv ≤ k := by decide) (hall : (backToKw pos (keywordEach kws X.env)).all (·.1.isSome) = true := by rfl) (hks : (backToKw pos (keywordEach kws X.env)).filterMap (·.1) = ks := by rfl) (hdb : (x == ("__debug__" : Str)) = false := by decide)
    (hpl : ((backTo pos (starEach [] X.env)).any (·.1) || (backToKw pos (keywordEach kws X.env)).any (·.1.isNone)) = false := by rfl) : EX X ⟨K, cl, fun _ => E⟩ (.Call (.Name x p) [] kws pos) (tCallN (spM K cl ps.length f) ps.length pm (fun _ => E) tA) (eCallN ps.length pm f fA) := by
  subst hK
  obtain ⟨a, fd, F, hm, kp, bd⟩ := C.ex
  exact ⟨pe_kwN F (hr.mono hl) hg hm kp bd (fun σ pins H s e s2 I c => passes_call tk (fun _ _ _ _ h => h) pins σ H s e s2 I c) ha.p hall hks hdb hpl, de_callN ha.d C.ar fun _ => rfl⟩
end
end Dl
set_option Elab.async false
set_option linter.all false
set_option maxRecDepth 100000
set_option maxHeartbeats 3200000
namespace Dl
open PySem PySem.Spec PyProof.Rows L2
section
variable {P : Program} {w : World} {A : Around} {E : Value → Shared → Prop} {s : Shared}
theorem set_of_tuple {l : Addr} {items : Array Value} (ks : List (Addr × List Int)) {Q : Value → Shared → Prop} (hh : A.handled = none) (hl : s.heap.IsTuple l items) (hit : items.toList = ks.map fun p => Value.ref p.1)
    (hk : ∀ p ∈ ks, IsT P w s.heap p.2 p.1) (h64 : ks.length < 64) (hu : A.units + 3 < cLine)
    (h : ∀ (h' : Heap) (tk : Nat) L es ep t, SetTR P w h' s.heap.objs.size L es ep t → Got ks ks.length L → (∀ b o, s.heap.get? b = some o → h'.get? b = some o) → Q (.ref s.heap.objs.size) { s with heap := h', toks := tk }) :
    wpAny (model P w) A (call (.type "set") [.ref l]) Q E s := by
  have isz : items.size = ks.length := by
    have q := congrArg List.length hit
    simpa using q
  obtain ⟨c, tl, mro⟩ := F.called_set.mro
  have made := F.called_set.made; have sub := F.called_set.sub
  refine wpAny_call (codeAny_of_tree (show wpAny _ _ (callAny (.type "set") _) _ _ _ from wpAny_pure ⟨Code.quiet_builtin _ (by decide +kernel), codeAny_builtin F.entry_type_call ?_⟩))
  rw [Around.under_plain (weight_type_call_type "set" [.ref l] []) rfl]
  have h1 := F.called_set.notType; have h2 := F.called_set.canCreate; have hct := F.typeCall_set_1 (.ref l)
  repeat (any_goals (first | assumption | wp_step))
  refine codeAny_mono (code_set_led1 (.ref l) (E := E) (Q₁ := fun obj s₁ => obj = .ref s.heap.objs.size ∧ s₁ = { s with heap := s.heap.push (eso w) }) ⟨rfl, rfl⟩) fun r s₁ hr => ?_
  cases r with
  | error e => exact hr
  | ok fl =>
    cases fl with
    | ret obj =>
      obtain ⟨rfl, rfl⟩ := hr
      have hS : (s.heap.push (eso w)).get? s.heap.objs.size = some (eso w) := Heap.get?_push_size _ rfl
      have hT : Shared.TypeIs { s with heap := s.heap.push (eso w) } (.ref s.heap.objs.size) "set" := ⟨_, hS, rfl⟩
      have li := F.called_set.init.lookup; have bi := F.called_set.init.bind (.ref s.heap.objs.size)
      repeat (any_goals (first | assumption | wp_step))
      refine codeAny_mono (codeAny_call_builtin (R := wants (fun r s₂ => r = .none ∧ ∃ h' tk L es ep t, s₂ = { s with heap := h', toks := tk } ∧ SetTR P w h' s.heap.objs.size L es ep t ∧ Got ks ks.length L ∧ (∀ b o, s.heap.get? b = some o → h'.get? b = some o)) E) F.called_set.init.plain F.entry_set_init (check_set_init_1 hT ?_)) fun r₂ s₂ hr₂ => ?_
      · obtain ⟨⟨oc, od, odt, osl⟩, hol, hcl, nl, hdl⟩ := hl
        simp only at hcl hdl
        subst hcl hdl
        have hol' : (s.heap.push (eso w)).get? l = some { cls := .type "tuple", dict := od, data := .seq items nl, slots := osl } := Heap.get?_push_of_some _ hol
        have s1 := F.sub_tuple_set; have s2 := F.sub_tuple_frozenset; have ne : (Value.type "tuple" == Value.type "dict") = false := by decide
        have hl1 : (s.heap.push (eso w)).IsTuple l items := ⟨_, hol', rfl, nl, rfl⟩
        unfold Builtin.«set.__init__» noKeywords Builtin.Frozenset.updateFrom
        generalize hPI : pyIter = PI
        wp_walk
        subst hPI
        refine wpAny_pyIter_tuple hl1 (wpAny_bind (wpAny_runValue ?_))
        have lS : l < s.heap.objs.size := Heap.lt_size hol
        have hh3 : A.in1.in1.in1.handled = none := by simp [hh]
        have z1 : (s.heap.push (eso w)).objs.size = s.heap.objs.size + 1 := Heap.size_push ..
        have nI : l ≠ (s.heap.push (eso w)).objs.size := by rw [z1]; exact Nat.ne_of_lt (Nat.lt_succ_of_lt lS)
        have nf : s.heap.objs.size ∉ [(s.heap.push (eso w)).objs.size, l] := by
          rw [z1]
          simp only [List.mem_cons, List.not_mem_nil, or_false, not_or]
          exact ⟨Nat.ne_of_lt (Nat.lt_succ_self _), Nat.ne_of_gt lS⟩
        have val : ∀ (i : Nat) (v : Value), items[i]? = some v → ∃ p, ks[i]? = some p ∧ v = .ref p.1 := fun i v hv => by
          have q : items.toList[i]? = some v := by rw [Array.getElem?_toList]; exact hv
          rw [hit, List.getElem?_map] at q
          obtain ⟨p, q1, q2⟩ := Option.map_eq_some_iff.mp q
          exact ⟨p, q1, q2.symm⟩
        have non : ∀ b, s.heap.objs.size ≤ b → s.heap.get? b = none := fun b hb => by
          cases q : s.heap.get? b with
          | none => rfl
          | some o => exact absurd (Nat.lt_of_lt_of_le (Heap.lt_size q) hb) (Nat.lt_irrefl _)
        refine set_update_tups ((Walks.tuple hh3 _ l nI items).toS) s.heap.objs.size nf ks isz h64 val s.heap hk (non _ (Nat.le_refl _)) (fun b hb => non b (by rw [List.mem_singleton.mp hb, z1]; exact Nat.le_succ _)) hu (items.size - 0) 0 _ (by omega) (Nat.zero_le _)
          ⟨⟨_, Heap.get?_push_size _ rfl, rfl, rfl⟩, (hl1.push _)⟩ (fun b o e => Heap.get?_push_of_some _ (Heap.get?_push_of_some _ e)) ⟨[], #[], 0, _, setTR_fresh (Heap.get?_push_of_some _ hS), Got.zero ks⟩ fun s' L es ep t hm hS' g' hkp => ?_
        obtain ⟨h', g2, d', tk', os'⟩ := s'
        obtain rfl : g2 = s.gens := hm.gens
        obtain rfl : d' = s.drawn := hm.drawn
        obtain rfl : os' = s.os := hm.os
        rw [isz] at g'
        show wpAny _ _ _ _ _ _
        exact wpAny_pure (show wpAny _ _ (PySem.ret Value.none) _ _ _ from wpAny_pure ⟨rfl, h', tk', L, es, ep, t, rfl, hS', g', hkp⟩)
      · cases r₂ with
        | error e => exact hr₂
        | ok fl₂ =>
          cases fl₂ with
          | ret r =>
            obtain ⟨rfl, h', tk, L, es, ep, t, rfl, hS', g', hk'⟩ := hr₂
            repeat (any_goals (first | assumption | wp_step))
            exact h _ _ _ _ _ _ hS' g' hk'
          | _ => exact hr₂.elim
    | _ => exact hr.elim
end
end Dl
set_option Elab.async false
set_option linter.all false
set_option maxRecDepth 100000
set_option maxHeartbeats 3200000
namespace Dl
open PySem PySem.Spec PyProof.Rows L2
section
variable {P : Program} {w : World} {A : Around} {E : Value → Shared → Prop} {s : Shared}
theorem sorted_seq {l : Addr} {ob : Obj} {T : String} {vs : List Value} {n d : Nat} {B : Int} {Q : Value → Shared → Prop} (hT : T = "list" ∨ T = "tuple") (ho : s.heap.get? l = some ob) (hc : ob.cls = .type T) (hd : ob.data = .seq vs.toArray n) (h64 : vs.length < 64) (hd1 : 1 ≤ d) (x : TS.TupsOk s.heap d B vs)
    (h : ∀ (h1 h' : Heap) (out : Array Value) (e : Nat), (∀ b o, s.heap.get? b = some o → h1.get? b = some o) → out.toList.Perm vs → out.toList.Pairwise (fun u v => TS.code B (TS.intsOf s.heap u) ≤ TS.code B (TS.intsOf s.heap v)) → h'.get? h1.objs.size = some (seqObj "list" out e) → (∀ b o, h1.get? b = some o → h'.get? b = some o) → Q (.ref h1.objs.size) { s with heap := h' }) :
    wpAny (model P w) A (call (.builtin "sorted") [.ref l]) Q E s := by
  refine Calls.call_function_entry kind_sorted plain_sorted entry_sorted (args_sorted1 _) ?_
  unfold Builtin.«sorted»
  refine wpAny_bind (m := checkCount "sorted" 1 1 _) (wpAny_pure ?_)
  refine wpAny_bind (wpAny_collect_seq l hT ho hc hd (fun h1 k1 => ?_) (by rw [List.size_toArray, sizeLine_eq]; omega))
  have e0 : vs.toArray.toList = vs := by simp
  rw [e0]
  refine wpAny_bind (wpAny_newList ?_ (by rw [sizeLine_eq]; omega))
  have hoL : (h1.push (seqObj "list" vs.toArray 0)).get? h1.objs.size = some (seqObj "list" vs.toArray 0) := Heap.get?_push_size _ rfl
  have k2 : ∀ b o, s.heap.get? b = some o → (h1.push (seqObj "list" vs.toArray 0)).get? b = some o := fun b o q => Heap.get?_push_of_some _ (k1 b o q)
  refine wpAny_bind (wpAny_holding (TS.call_sort_tups (s := { s with heap := h1.push (seqObj "list" vs.toArray 0) }) hoL h64 hd1 (x.keeps fun b o q _ => k2 b o q) fun out a1 a2 => ?_))
  obtain ⟨c, hc'⟩ := sortedHeap_at (vs := vs) (out := out) hoL
  refine wpAny_pure ⟨_, rfl, h h1 _ out c k1 a1 ?_ hc' fun b u q => ?_⟩
  · refine List.Pairwise.imp_of_mem (fun {u v} hu hv hle => ?_) a2
    obtain ⟨n1, t1, _⟩ := x u (a1.mem_iff.mp hu)
    obtain ⟨n2, t2, _⟩ := x v (a1.mem_iff.mp hv)
    rw [t1.ints, t2.ints]
    rw [(t1.keeps fun b o q _ => k2 b o q).ints, (t2.keeps fun b o q _ => k2 b o q).ints] at hle
    exact hle
  · have hlt := Heap.lt_size q
    show (sortedHeap (h1.push (seqObj "list" vs.toArray 0)) h1.objs.size vs out).get? b = some u
    rw [sortedHeap_old (Nat.ne_of_lt hlt) (by rw [size_push']; exact Nat.lt_succ_of_lt hlt)]
    exact Heap.get?_push_of_some _ q
end
def BQ : Int := 1048576
def tupI : PD → Option (List Int)
  | .tuple ds => intsOf ds
  | _ => none
def tupsOf : List PD → Option (List (List Int))
  | [] => some []
  | d :: r => (tupI d).bind fun x => (tupsOf r).map (x :: ·)
def tD (ns : List Int) : PD := .tuple (ns.map .int)
def inQ (ns : List Int) : Bool := ns.all fun m => decide (0 ≤ m) && decide (m < BQ)
def okQ (L : List (List Int)) : Bool := L.all fun ns => decide (ns.length = (L.headD []).length) && decide (1 ≤ ns.length) && inQ ns
def cQ (ns : List Int) : Int := TS.code BQ ns
theorem bd_of {ns : List Int} (h : inQ ns = true) : TS.Bd BQ ns := fun m hm => by
  have := List.all_eq_true.mp h m hm
  simpa using this
theorem code_inj : ∀ {a b : List Int}, a.length = b.length → TS.Bd BQ a → TS.Bd BQ b → cQ a = cQ b → a = b
  | [], [], _, _, _, _ => rfl
  | [], _ :: _, h, _, _, _ => by simp at h
  | _ :: _, [], h, _, _, _ => by simp at h
  | x :: r, y :: q, h, h1, h2, e => by
    have hl : r.length = q.length := by simpa using h
    rcases Int.lt_trichotomy x y with c | c | c
    · have := TS.code_lt (B := BQ) hl h1.tail h2.tail c
      unfold cQ at e
      omega
    · subst c
      have e2 : cQ r = cQ q := by
        have z : TS.code BQ (x :: r) = TS.code BQ (x :: q) := e
        unfold TS.code at z
        rw [hl] at z
        unfold cQ
        omega
      rw [code_inj hl h1.tail h2.tail e2]
    · have := TS.code_lt (B := BQ) hl.symm h2.tail h1.tail c
      unfold cQ at e
      omega
def insQ (x : List Int) : List (List Int) → List (List Int)
  | [] => [x]
  | y :: r => if cQ x ≤ cQ y then x :: y :: r else y :: insQ x r
def sortQ : List (List Int) → List (List Int)
  | [] => []
  | x :: r => insQ x (sortQ r)
def insQU (x : List Int) : List (List Int) → List (List Int)
  | [] => [x]
  | y :: r => if cQ x < cQ y then x :: y :: r else if cQ x = cQ y then y :: r else y :: insQU x r
def uniqQ : List (List Int) → List (List Int)
  | [] => []
  | x :: r => insQU x (uniqQ r)
theorem insQ_perm {x : List Int} : ∀ L : List (List Int), (insQ x L).Perm (x :: L)
  | [] => .refl _
  | y :: r => by
    unfold insQ
    split
    · exact .refl _
    · exact ((insQ_perm r).cons y).trans (List.Perm.swap x y r)
theorem sortQ_perm : ∀ L : List (List Int), (sortQ L).Perm L
  | [] => .refl _
  | x :: r => (insQ_perm _).trans ((sortQ_perm r).cons x)
theorem insQ_pw {x : List Int} : ∀ {L : List (List Int)}, L.Pairwise (fun a b => cQ a ≤ cQ b) → (insQ x L).Pairwise (fun a b => cQ a ≤ cQ b)
  | [], _ => by simp [insQ]
  | y :: r, h => by
    unfold insQ
    rw [List.pairwise_cons] at h
    split
    · rename_i q
      rw [List.pairwise_cons]
      refine ⟨fun a ha => ?_, List.pairwise_cons.mpr h⟩
      rcases List.mem_cons.mp ha with rfl | ha
      · exact q
      · exact Int.le_trans q (h.1 a ha)
    · rename_i q
      rw [List.pairwise_cons]
      refine ⟨fun a ha => ?_, insQ_pw h.2⟩
      rcases List.mem_cons.mp ((insQ_perm r).mem_iff.mp ha) with rfl | ha
      · omega
      · exact h.1 a ha
theorem sortQ_pw : ∀ L : List (List Int), (sortQ L).Pairwise (fun a b => cQ a ≤ cQ b)
  | [] => .nil
  | x :: r => insQ_pw (sortQ_pw r)
theorem mem_insQU {x k : List Int} (hi : ∀ y, y ∈ L → cQ x = cQ y → x = y) : k ∈ insQU x L ↔ k = x ∨ k ∈ L := by
  induction L with
  | nil => simp [insQU]
  | cons y r ih =>
    unfold insQU
    split
    · simp
    · split
      · rename_i e
        have := hi y (List.mem_cons_self ..) e
        subst this
        simp
      · simp only [List.mem_cons]
        rw [ih fun z hz => hi z (List.mem_cons_of_mem _ hz)]
        constructor <;> rintro (h | h | h) <;> simp [h]
theorem mem_uniqQ : ∀ {L : List (List Int)}, (∀ a ∈ L, ∀ b ∈ L, cQ a = cQ b → a = b) → ∀ k, k ∈ uniqQ L ↔ k ∈ L
  | [], _, k => by simp [uniqQ]
  | x :: r, h, k => by
    have ih := mem_uniqQ (L := r) fun a ha b hb => h a (List.mem_cons_of_mem _ ha) b (List.mem_cons_of_mem _ hb)
    unfold uniqQ
    rw [mem_insQU fun y hy e => h x (List.mem_cons_self ..) y (List.mem_cons_of_mem _ ((ih y).mp hy)) e, ih k]
    simp
theorem insQU_mem {x k : List Int} : ∀ {L : List (List Int)}, k ∈ insQU x L → k = x ∨ k ∈ L
  | [], h => by simpa [insQU] using h
  | y :: r, h => by
    unfold insQU at h
    split at h
    · simpa using h
    · split at h
      · exact .inr h
      · rcases List.mem_cons.mp h with h | h
        · exact .inr (by rw [h]; simp)
        · rcases insQU_mem h with h | h
          · exact .inl h
          · exact .inr (List.mem_cons_of_mem _ h)
theorem insQU_pw {x : List Int} : ∀ {L : List (List Int)}, L.Pairwise (fun a b => cQ a < cQ b) → (insQU x L).Pairwise (fun a b => cQ a < cQ b)
  | [], _ => by simp [insQU]
  | y :: r, h => by
    unfold insQU
    have h' := List.pairwise_cons.mp h
    split
    · rename_i q
      rw [List.pairwise_cons]
      refine ⟨fun a ha => ?_, h⟩
      rcases List.mem_cons.mp ha with rfl | ha
      · exact q
      · exact Int.lt_trans q (h'.1 a ha)
    · split
      · exact h
      · rename_i q1 q2
        rw [List.pairwise_cons]
        refine ⟨fun a ha => ?_, insQU_pw h'.2⟩
        rcases insQU_mem ha with rfl | ha
        · omega
        · exact h'.1 a ha
theorem uniqQ_pw : ∀ L : List (List Int), (uniqQ L).Pairwise (fun a b => cQ a < cQ b)
  | [] => .nil
  | x :: r => insQU_pw (uniqQ_pw r)
end Dl
set_option Elab.async false
set_option linter.all false
set_option maxRecDepth 100000
set_option maxHeartbeats 3200000
namespace Dl
open PySem PySem.Spec PyProof.Rows L2
def rSrtQ (K : PySem.W.Frag) : List V → Hp → VK → Prop := fun vs H Q => ∃ (a : Addr) (xs : List V) (d : Nat), vs = [.ref a] ∧ (SqL K H a xs ∨ SqT K H a xs) ∧ xs.length < 64 ∧ 1 ≤ d ∧ (∀ x ∈ xs, ∃ ns, TupI K H x ns ∧ ns.length = d ∧ TS.Bd BQ ns) ∧
  ∀ (f : V → List Int) (ys : List V) (p : Addr), (∀ x ∈ xs, ∀ ns, TupI K H x ns → f x = ns) → ys.Perm xs → ys.Pairwise (fun x y => cQ (f x) ≤ cQ (f y)) → H p = none → Q (.ref p) (L2.upd H p (.lst ys))
section
variable {X : Cx}
theorem cr_srtQ : CallR X (.builtin "sorted") (rSrtQ X.K) := by
  intro pins s σ H vs us Q I r h
  obtain ⟨a, xs, d, rfl, hs, h64, hd1, hx, q⟩ := h
  rw [Vals.ref1 r]
  have ex : ∃ (its : List Value) (T : String) (o : Obj) (n : Nat), Vals xs its ∧ (T = "list" ∨ T = "tuple") ∧ s.heap.get? a = some o ∧ o.cls = .type T ∧ o.data = .seq its.toArray n ∧ xs.length ≤ sizeLine := by
    rcases hs with hs | hs
    · obtain ⟨its, rv, ⟨o, n, h1, h2, h3, h4⟩, hz⟩ := I.list hs
      exact ⟨its, "list", o, n, rv, .inl rfl, h1, h2, h4, hz⟩
    · obtain ⟨its, rv, ⟨o, h1, h2, n, h3⟩, hz⟩ := I.tuple hs
      exact ⟨its, "tuple", o, n, rv, .inr rfl, h1, h2, h3, hz⟩
  obtain ⟨its, T, o, n, rv, hT, ho, hc, hdt, hz⟩ := ex
  obtain ⟨e1, e2⟩ := bkV_refs rv fun x m => by
    obtain ⟨ns, ⟨t, e, _⟩, _⟩ := hx x m
    exact ⟨t, e⟩
  have inx : ∀ v ∈ its, ∃ t, v = Value.ref t ∧ V.ref t ∈ xs := fun v hv => by
    obtain ⟨t, rfl⟩ := e2 v hv
    exact ⟨t, rfl, by rw [e1]; exact List.mem_map.mpr ⟨_, hv, rfl⟩⟩
  refine sorted_seq (d := d) (B := BQ) hT ho hc hdt (by rw [← rv.length]; exact h64) hd1 (fun v hv => ?_) fun h1 h' out e k1 p1 pw he k2 => ?_
  · obtain ⟨t, rfl, m⟩ := inx v hv
    obtain ⟨ns, ⟨t', e, ht⟩, hn, hb⟩ := hx _ m
    cases e
    exact ⟨ns, tupI_raw I ht, hn, hb⟩
  · have I1 : Inv X pins σ H { s with heap := h1 } := I.kept (t' := s.toks) k1
    have h3 : ∀ u ∈ out.toList, ∃ a, u = Value.ref a := fun u hu => e2 u (p1.mem_iff.mp hu)
    have hp : (out.toList.map bkV).Perm xs := by
      rw [e1]
      exact p1.map bkV
    have hlen : (out.toList.map bkV).length ≤ sizeLine := by
      rw [hp.length_eq]
      exact hz
    refine ⟨.ref _, L2.upd H h1.objs.size (.lst (out.toList.map bkV)), I1.laid (t' := s.toks) k2 (Nat.le_refl _) ⟨hlen, out.toList, e, bkV_vals h3, he⟩, rfl,
      q (fun x => match x with | .ref t => TS.intsOf s.heap (.ref t) | _ => []) _ _ (fun x m ns hn => ?_) hp ?_ (I1.hok.fresh (Nat.le_refl _))⟩
    · obtain ⟨t, rfl, ht⟩ := hn
      exact (tupI_raw I ht).ints
    · rw [List.pairwise_map]
      refine List.Pairwise.imp_of_mem (fun {u v} hu hv huv => ?_) pw
      obtain ⟨t, rfl, _⟩ := inx u (p1.mem_iff.mp hu)
      obtain ⟨t', rfl, _⟩ := inx v (p1.mem_iff.mp hv)
      exact huv
def rSetTT (K : PySem.W.Frag) (P : Program) (w : World) : List V → Hp → VK → Prop := fun xs H Q => ∃ (l : Addr) (ks : List (Addr × List Int)), xs = [V.ref l] ∧ SqT K H l (ks.map fun p => V.ref p.1) ∧ (∀ p ∈ ks, SqT K H p.1 (p.2.map V.int)) ∧ ks.length < 64 ∧
  ∀ a L, H a = none → (∀ p ∈ L, p ∈ ks) → (∀ p ∈ ks, p.2 ∈ L.map (·.2)) → Q (.ref a) (L2.upd H a (SetTO P w a L))
theorem cr_setTT (hc : X.calm = true) (hu : X.A.units + 64 < cLine) : CallR X (.type "set") (rSetTT X.K X.prog X.w) := by
  intro pins s σ H xs us Q I r h
  obtain ⟨l, ks, rfl, hl, hk, hf, q⟩ := h
  rw [Vals.ref1 r]
  obtain ⟨its, rv, ⟨o, h1, h2, n, h3⟩, hz⟩ := I.tuple hl
  refine set_of_tuple (P := X.prog) (w := X.w) ks (I.ok.hd hc) ⟨o, h1, h2, n, h3⟩ (by simpa using refs_of_vals rv) (fun p hp => I.isT (hk p hp)) hf (by omega) fun h' tk L es ep t R g k => ?_
  exact ⟨.ref s.heap.objs.size, L2.upd H s.heap.objs.size (SetTO X.prog X.w s.heap.objs.size L), I.laid (t' := tk) k (Nat.le_refl _) (setTO_new R.t0), rfl, q _ L (I.hok.fresh (Nat.le_refl _)) (fun p hp => List.mem_of_mem_take (g.sub p hp)) fun p hp => g.all p (by rw [List.take_length]; exact hp)⟩
def rSetQ (K : PySem.W.Frag) (P : Program) (w : World) : List V → Hp → VK → Prop := fun xs H Q => rSetOfT K P w xs H Q ∨ rSetTT K P w xs H Q
theorem cr_setQ (hc : X.calm = true) (hu : X.A.units + 64 < cLine) : CallR X (.type "set") (rSetQ X.K X.prog X.w) := (cr_setOfT hc hu).or (cr_setTT hc hu)
end
def gSrtL (ds : List PD) : Option (List PD) := match tupsOf ds with
  | some L => if (decide (L.length < 64) && okQ L) = true then some ((sortQ L).map tD) else none
  | none => none
def gSrtQ : List PD → Option (List PD)
  | [.list ds] => gSrtL ds
  | [.tuple ds] => gSrtL ds
  | _ => none
def gSetL (ds : List PD) : Option (List PD) := match tupsOf ds with
  | some L => if (decide (L.length < 64) && okQ L) = true then some ((uniqQ L).map tD) else none
  | none => none
def gSetQ : List PD → Option (List PD)
  | [.list ds] => gSetL ds
  | [.tuple ds] => gSetL ds
  | _ => none
section
variable {K : PySem.W.Frag} {H : Hp} {A : AS}
def TpAt (K : PySem.W.Frag) (H : Hp) (A : AS) (q : Addr × List Int) : Prop := TAv K H A q.1 (q.2.map V.int)
theorem tups_of : ∀ {vs : List V} {ds : List PD} {L : List (List Int)}, DvA K H A vs ds → tupsOf ds = some L → ∃ ks : List (Addr × List Int), vs = ks.map (fun q => V.ref q.1) ∧ ks.map (·.2) = L ∧ ∀ q ∈ ks, TpAt K H A q
  | _, _, L, .nil, e => by cases e; exact ⟨[], rfl, rfl, fun q h => nomatch h⟩
  | _, d :: ds, L, .cons h t, e => by
    unfold tupsOf at e
    obtain ⟨ns, e1, e2⟩ := Option.bind_eq_some_iff.mp e
    obtain ⟨L', e3, e4⟩ := Option.map_eq_some_iff.mp e2
    subst e4
    obtain ⟨ks, h1, h2, h3⟩ := tups_of t e3
    unfold tupI at e1
    split at e1
    · cases h with
      | tup hl ha =>
        have ev := ints_of ha e1
        subst ev
        rename_i a
        refine ⟨(a, ns) :: ks, by rw [h1]; rfl, by simp [h2], fun q hm => ?_⟩
        rcases List.mem_cons.mp hm with rfl | hm
        · exact hl
        · exact h3 q hm
    · cases e1
theorem dv_tD {q : Addr × List Int} (h : TpAt K H A q) : Dv K H A (.ref q.1) (tD q.2) := .tup h (dvInts _)
theorem dv_tups : ∀ {L : List (Addr × List Int)}, (∀ q ∈ L, TpAt K H A q) → DvA K H A (L.map fun q => V.ref q.1) ((L.map (·.2)).map tD)
  | [], _ => .nil
  | q :: r, h => .cons (dv_tD (h q (List.mem_cons_self ..))) (dv_tups fun q hq => h q (List.mem_cons_of_mem _ hq))
theorem okQ_of {L : List (List Int)} (h : okQ L = true) : ∃ d, 1 ≤ d ∧ ∀ ns ∈ L, ns.length = d ∧ TS.Bd BQ ns := by
  have h := List.all_eq_true.mp h
  cases L with
  | nil => exact ⟨1, Nat.le_refl _, fun ns hn => nomatch hn⟩
  | cons x r =>
    have hx := h x (List.mem_cons_self ..)
    simp only [Bool.and_eq_true, decide_eq_true_eq] at hx
    refine ⟨x.length, hx.1.2, fun ns hn => ?_⟩
    have hn := h ns hn
    simp only [Bool.and_eq_true, decide_eq_true_eq] at hn
    exact ⟨hn.1.1, bd_of hn.2⟩
theorem okQ_inj {L : List (List Int)} (h : okQ L = true) : ∀ a ∈ L, ∀ b ∈ L, cQ a = cQ b → a = b := fun a ha b hb e => by
  obtain ⟨d, _, k⟩ := okQ_of h
  exact code_inj ((k a ha).1.trans (k b hb).1.symm) (k a ha).2 (k b hb).2 e
theorem perm_back {α β : Type} (f : α → β) : ∀ {l : List α} {m : List α}, l.Perm m → (l.map f).Perm (m.map f) := fun h => h.map f
theorem sort_uniqQ {a b : List (List Int)} (p : a.Perm b) (h : ∀ x ∈ a, ∀ y ∈ a, cQ x = cQ y → x = y) (h1 : a.Pairwise fun x y => cQ x ≤ cQ y) (h2 : b.Pairwise fun x y => cQ x ≤ cQ y) : a = b :=
  List.Perm.eq_of_pairwise (le := fun x y => cQ x ≤ cQ y) (fun x y hx hy q r => h x hx y (p.mem_iff.mpr hy) (Int.le_antisymm q r)) h1 h2 p
theorem srtQ_core {Q : VK} {a : Addr} {us : List V} {ds es : List PD} (h1 : SqL K H a us ∨ SqT K H a us) (h2 : DvA K H A us ds) (e : gSrtL ds = some es) (k : ∀ p ws, H p = none → DvA K H A ws es → Q (.ref p) (L2.upd H p (.lst ws))) : rSrtQ K [.ref a] H Q := by
  unfold gSrtL at e
  split at e
  · rename_i L eL
    split at e
    · rename_i q
      cases e
      simp only [Bool.and_eq_true, decide_eq_true_eq] at q
      obtain ⟨ks, ev, e2, e3⟩ := tups_of h2 eL
      obtain ⟨d, d1, hd⟩ := okQ_of q.2
      have lk : ks.length = L.length := by rw [← e2]; simp
      have inL : ∀ p ∈ ks, p.2 ∈ L := fun p hp => by rw [← e2]; exact List.mem_map.mpr ⟨p, hp, rfl⟩
      subst ev
      refine ⟨a, _, d, rfl, h1, by simp; omega, d1, fun x hx => ?_, fun f ys p hf pm pw np => k p ys np ?_⟩
      · obtain ⟨p, hp, rfl⟩ := List.mem_map.mp hx
        exact ⟨p.2, ⟨p.1, rfl, (e3 p hp).sq⟩, hd _ (inL p hp)⟩
      · have fv : ∀ p ∈ ks, f (.ref p.1) = p.2 := fun p hp => hf _ (List.mem_map.mpr ⟨p, hp, rfl⟩) _ ⟨p.1, rfl, (e3 p hp).sq⟩
        have em : (ks.map fun q => V.ref q.1).map f = L := by
          rw [List.map_map, ← e2]
          exact List.map_congr_left fun p hp => fv p hp
        have pmL : (ys.map f).Perm L := by
          rw [← em]
          exact pm.map f
        have es : ys.map f = sortQ L := sort_uniqQ (pmL.trans (sortQ_perm L).symm) (fun x hx y hy => okQ_inj q.2 x (pmL.mem_iff.mp hx) y (pmL.mem_iff.mp hy)) (List.pairwise_map.mpr pw) (sortQ_pw L)
        rw [← es]
        have all : ∀ y ∈ ys, Dv K H A y (tD (f y)) := fun y hy => by
          obtain ⟨p, hp, rfl⟩ := List.mem_map.mp (pm.mem_iff.mp hy)
          rw [fv p hp]
          exact dv_tD (e3 p hp)
        clear pm pw pmL es
        induction ys with
        | nil => exact .nil
        | cons y r ih => exact .cons (all y (List.mem_cons_self ..)) (ih fun z hz => all z (List.mem_cons_of_mem _ hz))
    · cases e
  · cases e
theorem srtQ_ok : CopL K (rSrtQ K) gSrtQ := fun A H Q vs ds es na w e k => by
  unfold gSrtQ at e
  split at e
  · obtain ⟨v, rfl, h⟩ := dws1 w
    obtain ⟨p, us, rfl, h1, h2⟩ := h.lst
    exact srtQ_core (.inl h1) h2 e k
  · obtain ⟨v, rfl, h⟩ := dws1 w
    obtain ⟨p, us, rfl, h1, h2⟩ := h.tup
    exact srtQ_core (.inr h1) h2 e k
  · cases e
end
theorem setQ_core {K : PySem.W.Frag} {P : Program} {w : World} {A : AS} {H : Hp} {Q : VK} {ds es : List PD} {us : List V} (h2 : DvA K H A us ds) (e : gSetL ds = some es)
    (k : ∀ p H1 us, NewH H H1 → H1 p = none → DvA K H1 A us es → Q (.ref p) (L2.upd H1 p (.lst us))) : ∃ ks : List (Addr × List Int), us = ks.map (fun q => V.ref q.1) ∧ (∀ p ∈ ks, SqT K H p.1 (p.2.map V.int)) ∧ ks.length < 64 ∧
      ∀ (a : Addr) (L : List (Addr × List Int)), H a = none → (∀ p ∈ L, p ∈ ks) → (∀ p ∈ ks, p.2 ∈ L.map (·.2)) → rSortedT K P w [V.ref a] (L2.upd H a (SetTO P w a L)) Q := by
  unfold gSetL at e
  split at e
  · rename_i M eL
    split at e
    · rename_i q
      cases e
      simp only [Bool.and_eq_true, decide_eq_true_eq] at q
      obtain ⟨ks, ev, e2, e3⟩ := tups_of h2 eL
      obtain ⟨d, d1, hd⟩ := okQ_of q.2
      have lk : ks.length = M.length := by rw [← e2]; simp
      have inL : ∀ p ∈ ks, p.2 ∈ M := fun p hp => by rw [← e2]; exact List.mem_map.mpr ⟨p, hp, rfl⟩
      refine ⟨ks, ev, fun p hp => (e3 p hp).sq, by omega, fun r L nr sub all => ?_⟩
      have g : NewH H (L2.upd H r (SetTO P w r L)) := .upd nr
      have mv : ∀ q ∈ L, TpAt K (L2.upd H r (SetTO P w r L)) A q := fun q hq => (e3 q (sub q hq)).mono (S := fun _ => False) (fun a o _ e => g a o e) (fun _ z => z.elim) fun a z => .inl z
      refine ⟨r, L, d, BQ, rfl, upd_same, fun q hq => (mv q hq).sq, d1, fun q hq => hd _ (inL q (sub q hq)), fun L' t pm nd _ pw nt => ?_⟩
      have mv' : ∀ q ∈ L', TpAt K (L2.upd H r (SetTO P w r L)) A q := fun q hq => mv q (pm.mem_iff.mp hq)
      have iM : ∀ q ∈ L', q.2 ∈ M := fun q hq => inL q (sub q (pm.mem_iff.mp hq))
      have fin := dv_tups mv'
      have ec : L'.map (·.2) = uniqQ M := by
        have inj := okQ_inj q.2
        have st1 : (L'.map (·.2)).Pairwise fun x y => cQ x < cQ y := by
          have nd' := nd
          unfold List.Nodup at nd'
          have pw' : (L'.map (·.2)).Pairwise fun x y => cQ x ≤ cQ y := List.pairwise_map.mpr pw
          refine List.Pairwise.imp_of_mem (fun {a b} ha hb ⟨h1, h2⟩ => ?_) (List.Pairwise.and pw' nd')
          obtain ⟨qa, hqa, rfl⟩ := List.mem_map.mp ha
          obtain ⟨qb, hqb, rfl⟩ := List.mem_map.mp hb
          rcases Int.lt_or_eq_of_le h1 with z | z
          · exact z
          · exact (h2 (inj _ (iM qa hqa) _ (iM qb hqb) z)).elim
        have mem : ∀ x, x ∈ L'.map (·.2) ↔ x ∈ uniqQ M := fun x => by
          rw [mem_uniqQ inj]
          constructor
          · intro hx
            obtain ⟨q0, hq0, rfl⟩ := List.mem_map.mp hx
            exact iM q0 hq0
          · intro hx
            rw [← e2] at hx
            obtain ⟨p, hp, rfl⟩ := List.mem_map.mp hx
            obtain ⟨p', hp', e5⟩ := List.mem_map.mp (all p hp)
            exact List.mem_map.mpr ⟨p', pm.mem_iff.mpr hp', e5⟩
        have n1 : (L'.map (·.2)).Nodup := nd
        have n2 : (uniqQ M).Nodup := (uniqQ_pw M).imp fun h z => by rw [z] at h; exact Int.lt_irrefl _ h
        have pp : (L'.map (·.2)).Perm (uniqQ M) := (List.perm_ext_iff_of_nodup n1 n2).mpr mem
        exact sort_uniqQ pp (fun x hx y hy => inj x ((mem_uniqQ inj x).mp ((mem x).mp hx)) y ((mem_uniqQ inj y).mp ((mem y).mp hy))) (st1.imp fun h => Int.le_of_lt h) ((uniqQ_pw M).imp fun h => Int.le_of_lt h)
      rw [ec] at fin
      exact k t _ _ g nt fin
    · cases e
  · cases e
theorem setQ_ok {K : PySem.W.Frag} {P : Program} {w : World} : ∀ (A : AS) (H : Hp) (Q : VK) (vs : List V) (ds es : List PD), (∀ a, A a → H a ≠ none) → Dws K H A vs ds → gSetQ ds = some es →
    (∀ p H1 us, NewH H H1 → H1 p = none → DvA K H1 A us es → Q (.ref p) (L2.upd H1 p (.lst us))) → rSetQ K P w vs H fun v H1 => rSortedT K P w [v] H1 Q := fun A H Q vs ds es na wd e k => by
  unfold gSetQ at e
  split at e
  · obtain ⟨v, rfl, h⟩ := dws1 wd
    obtain ⟨p, us, rfl, h1, h2⟩ := h.lst
    obtain ⟨ks, rfl, a1, a2, a3⟩ := setQ_core (K := K) (P := P) (w := w) h2 e k
    exact .inl ⟨p, ks, rfl, h1, a1, a2, a3⟩
  · obtain ⟨v, rfl, h⟩ := dws1 wd
    obtain ⟨p, us, rfl, h1, h2⟩ := h.tup
    obtain ⟨ks, rfl, a1, a2, a3⟩ := setQ_core (K := K) (P := P) (w := w) h2 e k
    exact .inr ⟨p, ks, rfl, h1, a1, a2, a3⟩
  · cases e
theorem do_setQ {c : Cz} {P : Program} {w : World} {ta : TA} {fr : Nv → Rs (List Ar)} (ha : DA c ta fr) : DO c (tCB (rSortedT c.K P w) (tCons (tCB (rSetQ c.K P w) ta) tNil)) (oCb gSetQ fr) := fun S σ H n Q R h => by
  refine ha S σ H n _ R (OkG.bind h fun vs as n1 H1 s1 k1 R1 va h1 => ?_)
  obtain ⟨ds, e1, h1⟩ := h1.lft
  obtain ⟨es, e2, h1⟩ := h1.lft
  exact setQ_ok (AV S σ n1) H1 Q vs ds es R1.avSome (va.dws R1 e1) e2 fun p H2 us g np hv => h1.ret (g.trans (.upd np)) ((R1.ext g).new np) ⟨p, rfl, s1.non ((Stp.grown (σ := σ) (n := n1) g).non np), .new (R1.ext g) np hv⟩
section
variable {X : Cx} {c : Cz} {a : Expr} {tA : TA} {fA : Nv → Rs (List Ar)} {p p1 q pos : Pos}
theorem osetQ {k : Nat} (hr : Room k X.A) (hc : X.calm = true) (T : Tx X.mg) (hg : Gl X "sorted") (hg2 : Gl X "set") (ha : AX X c [a] tA fA) (na : starEach [a] X.env = (false, eval a X.env) :: starEach [] X.env := by rfl)
    (nb : starEach [.Call (.Name "set" p1) [a] [] q] X.env = (false, eval (.Call (.Name "set" p1) [a] [] q) X.env) :: starEach [] X.env := by rfl) (hK : c.K = X.K := by rfl) :
    OX X c (.Call (.Name "sorted" p) [.Call (.Name "set" p1) [a] [] q] [] pos) (tCB (rSortedT c.K X.prog X.w) (tCons (tCB (rSetQ c.K X.prog X.w) tA) tNil)) (oCb gSetQ fA) :=
  ⟨hK ▸ pe_callB (cr_sortedT hc) hg T.sorted (by decide +kernel) (pa_cons (pe_callTy (cr_setQ hc hr.units) hg2 T.set (by decide +kernel) ha.p (he := na) (hpl := by rfl)) pa_nil nb) (he := nb) (hpl := by rfl), do_setQ ha.d⟩
end
end Dl
set_option Elab.async false
set_option linter.all false
set_option maxRecDepth 100000
set_option maxHeartbeats 3200000
namespace Dl
open PySem PySem.Spec PyProof.Rows L2
def spS (K : PySem.W.Frag) (cl : Str → Option Value) (f : Nv → Rs Rv) : Sp := fun vs H Q E => ∃ ws rest : List V, vs = ws ++ rest ∧ ws.length = ([] : List Str).length ∧ rest.length ≤ sizeLine ∧ ∀ p, H p = none → spM K cl 1 f (ws ++ [V.ref p]) (L2.upd H p (.tup rest)) Q E
structure CalSt (P : Program) (w : World) (K : PySem.W.Frag) (mg : Str → Option Value) (base : Heap) (cl : Str → Option Value) (lv : Nat) (x : Str) (f : Nv → Rs Rv) : Prop where
  ex : ∃ (a : Addr), FnR P w K mg base (L2.CX P w) lv a (spS K cl f) ∧ mg x = some (.ref a) ∧ PySem.W.keepIn K (.ref a) = true
  ar : Ary 1 f
theorem calSt_mk {P : Program} {w : World} {K : PySem.W.Frag} {mg : Str → Option Value} {base : Heap} {cl : Str → Option Value} {k : Nat} {x qual pv : Str} {st : Stmt} {f : Addr} {fd : FuncData} {N : List Str} {g : Nv → RS} {m : Nat}
    (F : Fun K x qual st f fd) (hm : mg x = some (.ref f)) (Sc : FnScope N [pv] (defScope st)) (hN : N.length = 1 + m)
    (hb : ∀ (kV doc pm : Value) (an : Option Addr) (cdv ct : Value) (us rest : List Value), us.length = ([] : List Str).length → bindArgs (PySem.W.fnOf x qual (defArgs st) (defBody st) (defScope st) .none kV doc pm an cdv ct) ⟨us ++ rest, []⟩ = (newTuple rest >>= fun t => pure (([] : List Str).zip us ++ [(pv, t)])))
    (hbody : ∀ (cdv : Value) (A : Around) (outer : List Env) (s : Shared) (H : Hp) (E : XK), Room k (A.deeper (envOfC qual (defScope st) s.heap.objs.size f cdv)) →
      ∃ t, BX (cxOf (L2.CX P w) P w K mg base N qual (defScope st) f cdv A outer s H E) ⟨K, cl, fun _ => E⟩ (defBody st) t g) : CalSt P w K mg base cl (k + 1) x (ary 1 (body m g)) := by
  obtain ⟨oc, od, kV, doc, pm, an, cdv, ct, osl, e, lk, hcd⟩ := F.ex
  subst e
  refine ⟨⟨f, StX.fn_star (ps := []) (pv := pv) (sp := spM K cl 1 (ary 1 (body m g))) lk hcd Sc StX.cxUp (fun us rest hl => hb kV doc pm an cdv ct us rest hl) fun A outer s H vs Q E hr hsp => ?_, hm, F.kp⟩, ary_ok⟩
  obtain ⟨t, bx⟩ := hbody cdv A outer s H E hr
  obtain ⟨hl, S, as, R, sub, nf, hf⟩ := sp_ary hsp
  refine ⟨t, bx.p, ?_⟩
  have e : L2.start N vs = vs.map some ++ List.replicate m none := by
    unfold L2.start
    rw [hN, hl]
    congr 2
    omega
  rw [e]
  refine bx.d S H _ H _ _ (Rel.start (c := ⟨K, cl, fun _ => E⟩) R) ⟨vs.map some, as, sub, ⟨fun a o z q => q, fun a z => .inl (own_app R.len a z), fun a z => z, fun i ds q => ?_⟩⟩ (OkF.body (c := ⟨K, cl, fun _ => E⟩) (fun _ _ => rfl) R sub nf hf)
  have hi : i < as.length := (List.getElem?_eq_some_iff.mp q).1
  exact ⟨by rw [List.getElem?_append_left (by rw [← R.len]; exact hi)], ds, by rw [List.getElem?_append_left hi]; exact q⟩
def stc (f : Nv → Rs Rv) (ds : List PD) (n : Nv) : Rs Ar := if lineB ds.length = true then cal (f [.im (.tuple ds)]) n (eRv [.d (.tuple ds)] n) else none
def eCallSt (f : Nv → Rs Rv) (fe : Nv → Rs Ar) : Nv → Rs Ar := fun n => bnd (fe n) fun a n1 => lft (ArD n1 a) fun d => match d with
  | .list ds => stc f ds n1
  | .tuple ds => stc f ds n1
  | _ => none
theorem de_callSt {c : Cz} {te : TE} {fe : Nv → Rs Ar} {f : Nv → Rs Rv} {E : XK} (h1 : DE c te fe) (hf : Ary 1 f) (hE : ∀ σ, E = c.E σ) :
    DE c (fun σ H Q => te σ H fun y H1 => ∃ a xs, y = V.ref a ∧ (SqT c.K H1 a xs ∨ SqL c.K H1 a xs) ∧ spS c.K c.cl f xs H1 Q E) (eCallSt f fe) := fun S σ H n Q R h => by
  refine h1 S σ H n _ R (OkG.bind h fun v a n1 H1 s1 k1 R1 va h => ?_)
  obtain ⟨d, ed, h⟩ := h.lft
  have core : ∀ (vs : List V) (ds : List PD), DvA c.K H1 (AV S σ n1) vs ds → OkG c S (fun n' H' v a => ArV c.K S σ n' H' v a) (stc f ds n1) σ n1 H1 Q → spS c.K c.cl f vs H1 Q E := fun vs ds w h => by
    unfold stc at h
    split at h
    · rename_i q
      refine ⟨[], vs, rfl, rfl, by rw [w.len]; exact of_decide_eq_true q, fun p np => ?_⟩
      have dv : Dv c.K (L2.upd H1 p (.tup vs)) (AV S σ n1) (.ref p) (.tuple ds) := .newTup R1.avSome np w
      refine call_core (E := fun _ => E) (W := fun _ _ _ _ => True) hf (hE σ) (R1.new np) (as := [.d (.tuple ds)]) (.cons dv .nil) ?_
      exact OkG.move (.new np) .refl h
    · exact h.elim
  match d, ed, h with
  | .list ds, ed, h =>
    obtain ⟨p, vs, rfl, g1, g2⟩ := (ArV.dw R1 va ed).lst
    exact ⟨p, vs, rfl, .inr g1, core vs ds g2 h⟩
  | .tuple ds, ed, h =>
    obtain ⟨p, vs, rfl, g1, g2⟩ := (ArV.dw R1 va ed).tup
    exact ⟨p, vs, rfl, .inl g1, core vs ds g2 h⟩
theorem xcalSt {X : Cx} {K : PySem.W.Frag} {cl : Str → Option Value} {E : XK} {lv : Nat} {x : Str} {f : Nv → Rs Rv} {e : Expr} {te : TE} {fe : Nv → Rs Ar} {p sp_ pos : Pos} {k : Nat} (hK : X.K = K) (C : CalSt X.prog X.w K X.mg X.base cl lv x f) (hr : Room k X.A) (tk : Takes X fun cls d _ H => E cls d H) (hg : Gl X x)
    (h1 : EX X ⟨K, cl, fun _ => E⟩ e te fe) (hl : lv ≤ k := by decide) (hdb : (x == ("__debug__" : Str)) = false := by decide) (hst : starEach [.Starred e sp_] X.env = [(true, eval e X.env)] := by rfl) :
    EX X ⟨K, cl, fun _ => E⟩ (.Call (.Name x p) [.Starred e sp_] [] pos) (fun σ H Q => te σ H fun y H1 => ∃ a xs, y = V.ref a ∧ (SqT K H1 a xs ∨ SqL K H1 a xs) ∧ spS K cl f xs H1 Q E) (eCallSt f fe) := by
  subst hK
  obtain ⟨a, F, hm, kp⟩ := C.ex
  exact ⟨StX.pe_callS1 F (hr.mono hl) kp hg hm (passes_call tk fun _ _ _ _ h => h) h1.p hdb hst, de_callSt h1.d C.ar fun _ => rfl⟩
section
variable {prog : Program} {w : World} {A : Around} {E : Value → Shared → Prop} {s : Shared}
theorem sliceApplied_rev {sl : Addr} {n : Nat} {t : Tok} {Q : Int × Int × Nat → Shared → Prop} (hs : s.heap.IsSliceOf sl .none .none (.int (-1) t)) (h : Q ((n : Int) - 1, -1, n) s) : wpAny (model prog w) A (Builtin.Slice.sliceApplied (.ref sl) (pure (n : Int))) Q E s := by
  obtain ⟨os, hos, hcs, hds⟩ := id hs
  unfold Builtin.Slice.sliceApplied Builtin.Slice.sliceFields
  refine wpAny_bind (wpAny_bind (wpAny_field hos hds (x := .none) rfl (wpAny_bind (wpAny_field hos hds (x := .none) rfl (wpAny_bind (wpAny_field hos hds (x := .int (-1) t) rfl (wpAny_pure ?_)))))))
  refine wpAny_bind (HT.slicePart_ (.int (-1) t) ?_)
  show wpAny _ _ (if ((-1 : Int) == 0) = true then _ else _) _ _ s
  rw [if_neg (by decide)]
  refine wpAny_bind (HT.slicePart_ .none (wpAny_bind (HT.slicePart_ .none (wpAny_bind (wpAny_pure ?_)))))
  have e : Builtin.Slice.slicePlaces ((n : Int) - 1) (-1) (-1) = n := by
    unfold Builtin.Slice.slicePlaces
    have h1 : ¬ ((-1 : Int) > 0) := by decide
    simp only [h1, if_false]
    split
    · rw [show (- -1 : Int) = 1 by decide, Int.ediv_one]
      omega
    · omega
  show wpAny _ _ (pure ((n : Int) - 1, (-1 : Int), Builtin.Slice.slicePlaces ((n : Int) - 1) (-1) (-1))) _ _ s
  rw [e]
  exact wpAny_pure h
theorem pick_rev (xs : Array Value) : ((List.range xs.size).filterMap fun (k : Nat) => xs[(((xs.size : Int) - 1) + (k : Int) * (-1)).toNat]?) = xs.toList.reverse := by
  apply List.ext_getElem?
  have key : ((List.range xs.size).filterMap fun (k : Nat) => xs[(((xs.size : Int) - 1) + (k : Int) * (-1)).toNat]?) = (List.range xs.size).map fun k => xs.getD (xs.size - 1 - k) .none := by
    rw [← List.filterMap_eq_map]
    have : ∀ l : List Nat, (∀ k ∈ l, k < xs.size) → (l.filterMap fun (k : Nat) => xs[(((xs.size : Int) - 1) + (k : Int) * (-1)).toNat]?) = l.filterMap (some ∘ fun k => xs.getD (xs.size - 1 - k) .none) := fun l => by
      induction l with
      | nil => exact fun _ => rfl
      | cons k r ih =>
        intro hk
        have h1 := hk k (List.mem_cons_self ..)
        have e : (((xs.size : Int) - 1) + (k : Int) * (-1)).toNat = xs.size - 1 - k := by omega
        have e2 : xs[xs.size - 1 - k]? = some (xs.getD (xs.size - 1 - k) .none) := by
          have : xs.size - 1 - k < xs.size := by omega
          simp [Array.getD, this]
        rw [List.filterMap_cons, List.filterMap_cons, e, e2, ih fun z hz => hk z (List.mem_cons_of_mem _ hz)]
        rfl
    exact this _ fun k hk => List.mem_range.mp hk
  intro i
  rw [key, List.getElem?_map]
  by_cases h : i < xs.size
  · have h2 : xs.size - 1 - i < xs.size := by omega
    rw [List.getElem?_range h, List.getElem?_reverse (by simpa using h)]
    simp [h, Array.getD, h2]
  · rw [List.getElem?_eq_none (by simpa using h), List.getElem?_eq_none (by simpa using h)]
    rfl
theorem getItem_tuple_rev {t sl : Addr} {items : Array Value} {tk : Tok} {Q : Value → Shared → Prop} (ht : IsTup s.heap t items) (hs : s.heap.IsSliceOf sl .none .none (.int (-1) tk))
    (h : Q (.ref s.heap.objs.size) { s with heap := s.heap.push { cls := .type "tuple", data := .seq items.toList.reverse.toArray } }) (hz : items.size ≤ sizeLine) : wpAny (model prog w) A (getItem (.ref t) (.ref sl)) Q E s := by
  have tsz : sizeOk (.seq items.toList.reverse.toArray) := by
    show items.toList.reverse.toArray.size ≤ sizeLine
    simpa using hz
  obtain ⟨os, hos, hcs, hds⟩ := id hs
  have hTs : s.TypeIs (.ref sl) "slice" := ⟨os, hos, hcs⟩
  unfold getItem
  try with_reducible refine wpAny_holding ?_
  first | refine wpAny_bind (wpAny_pure ?_) | skip
  refine wpAny_bind (wpAny_sequenceKey ht.typeIs (by decide) (wpAny_bind (wpAny_callSpecial?_slot (name := Str.ofString "__getitem__") ht.typeIs PyProof.Rows.slot_tuple_getitem (wpAny_call_entry PyProof.Rows.slot_tuple_getitem ht.typeIs entry_tuple_getitem ?_ (args_tuple_getitem _ _)))))
  show wpAny _ _ (Builtin.Tuple.tupleItemsOf (.ref t) >>= _) _ _ s
  refine wpAny_bind (tupleItemsOf_ ht (wpAny_bind (wpAny_typeOf hTs ?_)))
  rw [if_pos (by decide)]
  refine wpAny_bind (sliceApplied_rev hs ?_)
  have no : ¬ (((items.size : Int) - 1 == 0 && (-1 : Int) == 1 && items.size == items.size) = true) := by simp
  show wpAny _ _ (if ((items.size : Int) - 1 == 0 && (-1 : Int) == 1 && items.size == items.size) = true then _ else _) _ _ s
  rw [if_neg no, pick_rev]
  first
    | exact wpAny_bind (m := Builtin.Tuple.tupleExact _) (wpAny_newObj_type (wpAny_pure ⟨_, rfl, wpAny_pure h⟩) tsz)
    | exact wpAny_bind (m := Builtin.Tuple.tupleExact _) (wpAny_newObj_type (wpAny_bind (wpAny_pure (wpAny_pure ⟨_, rfl, wpAny_pure h⟩))) tsz)
end
def rRevD (K : PySem.W.Frag) : V → Hp → VK → Prop := fun x H Q => ∃ a xs, x = .ref a ∧ ((SqL K H a xs ∧ ∀ p, H p = none → Q (.ref p) (L2.upd H p (.lst xs.reverse))) ∨ (SqT K H a xs ∧ ∀ p, H p = none → Q (.ref p) (L2.upd H p (.tup xs.reverse))))
def gRvs : PD → Option PD
  | .list ds => some (.list ds.reverse)
  | .tuple ds => some (.tuple ds.reverse)
  | _ => none
section
variable {X : Cx} {c : Cz} {e a b : Expr} {te tb : TE} {fe fb : Nv → Rs Ar} {fo : Nv → Rs (List PD)} {k : Nat} {p1 p2 p3 pos : Pos}
theorem pe_revD (he : PE X e te) : PE X (.Subscript e (.Slice none none (some (.UnaryOp .USub (.Constant (.int 1) k p1) p2)) p3) pos) (tUn (rRevD X.K) te) := by
  refine ⟨fun pins s σ H Q I h => ?_⟩
  refine Subscript_ (thn (he.run pins s σ H _ I h) fun v s1 ⟨x, H1, I1, r1, y, xs, ey, q⟩ => ?_)
  subst ey
  cases r1
  have neg : PO X (some (.UnaryOp .USub (.Constant (.int 1) k p1) p2)) (tPart (tUn (rU fun i => .int (-i)) (tC (.int 1)))) := po_some (pe_un un_neg pe_int)
  refine wpAny_Slice (thn (po_none.run pins s1 σ H1 (fun o H2 => o = none ∧ H2 = H1) I1 ⟨rfl, rfl⟩) fun vl s2 ⟨l, H2, I2, pl, el, e2⟩ => ?_)
  obtain ⟨rfl, rfl⟩ := And.intro el e2
  refine thn (po_none.run pins s2 σ H2 (fun o H3 => o = none ∧ H3 = H2) I2 ⟨rfl, rfl⟩) fun vu s3 ⟨u, H3, I3, pu, eu, e3⟩ => ?_
  obtain ⟨rfl, rfl⟩ := And.intro eu e3
  refine thn (neg.run pins s3 σ H3 (fun o H4 => o = some (-1) ∧ H4 = H3) I3 ⟨1, rfl, -1, rfl, rfl, rfl⟩) fun vs s4 ⟨o, H4, I4, ps, eo, e4⟩ => ?_
  obtain ⟨rfl, rfl⟩ := And.intro eo e4
  have I5 : Inv X pins σ H4 { s4 with heap := s4.heap.push { cls := .type "slice", data := .fields #[vl, vu, vs] } } := I4.kept (t' := s4.toks) fun b ob q => Heap.get?_push_of_some _ q
  show wpAny (model X.prog X.w) X.A (subscriptTail e (.Slice none none (some (.UnaryOp .USub (.Constant (.int 1) k p1) p2)) p3) (.ref y) (.ref s4.heap.objs.size)) (EP X pins σ Q) X.xe { s4 with heap := s4.heap.push { cls := .type "slice", data := .fields #[vl, vu, vs] } }
  rcases q with ⟨hx, q⟩ | ⟨hx, q⟩
  · obtain ⟨its, r, ht, hz⟩ := I5.list hx
    have hlen := r.length
    refine tail_any (ops := [.ref y, .ref s4.heap.objs.size]) ht.isList.typeIs (PySem.slot_list_getitem.lookup) ?_ (by with_unfolding_all rfl)
    refine wpAny_getItem_list_slice ht.isList (Heap.IsSliceOf.new _ vl vu vs) pl pu ps (by decide) ?_ (by rw [List.size_toArray]; omega)
    rw [PySem.W.krv_pick]
    exact ⟨.ref _, _, I5.laid (t' := s4.toks) (o := .lst xs.reverse) (fun b ob q => Heap.get?_push_of_some _ q) (Nat.le_refl _) ⟨by rw [List.length_reverse]; exact hz, _, 0, r.reverse, Heap.get?_push_size _ rfl⟩, rfl, q _ (I5.hok.fresh (Nat.le_refl _))⟩
  · obtain ⟨its, r, ht, hz⟩ := I5.tuple hx
    have hlen := r.length
    refine tail_any (ops := [.ref y, .ref s4.heap.objs.size]) ht.typeIs PyProof.Rows.slot_tuple_getitem.lookup ?_ (by with_unfolding_all rfl)
    cases pl
    cases pu
    cases ps
    refine getItem_tuple_rev ht (Heap.IsSliceOf.new _ _ _ _) ?_ (by rw [List.size_toArray]; omega)
    have rr : Vals xs.reverse its.toArray.toList.reverse := by
      have e0 : its.toArray.toList = its := by simp
      rw [e0]
      exact r.reverse
    exact ⟨.ref _, _, I5.laid (t' := s4.toks) (o := .tup xs.reverse) (fun b ob q => Heap.get?_push_of_some _ q) (Nat.le_refl _) ⟨by rw [List.length_reverse]; exact hz, _, rr, IsTup.new _ _⟩, rfl, q _ (I5.hok.fresh (Nat.le_refl _))⟩
theorem DvA.rev {K : PySem.W.Frag} {H : Hp} {A : AS} {vs : List V} {ds : List PD} (h : DvA K H A vs ds) : DvA K H A vs.reverse ds.reverse := by
  have gen : ∀ {us : List V} {es : List PD}, DvA K H A us es → ∀ {vs ds}, DvA K H A vs ds → DvA K H A (us.reverse ++ vs) (es.reverse ++ ds) := fun {us} => by
    induction us with
    | nil => intro es h; cases h; exact fun h => h
    | cons u r ih =>
      intro es h
      cases h with
      | cons h t =>
        intro vs ds g
        rw [List.reverse_cons, List.reverse_cons, List.append_assoc, List.append_assoc]
        exact ih t (.cons h g)
  have := gen h .nil
  rwa [List.append_nil, List.append_nil] at this
theorem revD_ok {K : PySem.W.Frag} : UopOk K (rRevD K) gRvs := fun A H Q x dx d na w e k => by
  unfold gRvs at e
  split at e
  · cases e
    obtain ⟨p, vs, rfl, h1, h2⟩ := w.lst
    exact ⟨p, vs, rfl, .inl ⟨h1, fun r nr => k _ _ (.upd nr) (.newLst na nr h2.rev)⟩⟩
  · cases e
    obtain ⟨p, vs, rfl, h1, h2⟩ := w.tup
    exact ⟨p, vs, rfl, .inr ⟨h1, fun r nr => k _ _ (.upd nr) (.newTup na nr h2.rev)⟩⟩
  · cases e
theorem xrev (h1 : EX X c e te fe) (hK : c.K = X.K := by rfl) : EX X c (.Subscript e (.Slice none none (some (.UnaryOp .USub (.Constant (.int 1) k p1) p2)) p3) pos) (tUn (rRevD c.K) te) (eUn gRvs fe) := ⟨hK ▸ pe_revD h1.p, de_un revD_ok h1.d⟩
def oRep (fo : Nv → Rs (List PD)) (fb : Nv → Rs Ar) : Nv → Rs (List PD) := fun n => bnd (fo n) fun ds n1 => bnd (fb n1) fun b n2 => match b with
  | .d (.int j) => if (decide (-(2 ^ 63) ≤ j) && decide (j < 2 ^ 63) && decide (ds.length * j.toNat ≤ 10000)) = true then ret (repD j.toNat ds) n2 else none
  | _ => none
theorem do_rep (h1 : DO c te fo) (h2 : DE c tb fb) : DO c (tOp rRep te tb) (oRep fo fb) := fun S σ H n Q R h => by
  refine h1 S σ H n _ R (OkG.bind h fun v ds n1 H1 s1 k1 R1 va h => ?_)
  obtain ⟨p, rfl, np, fr⟩ := va
  refine h2 S σ H1 n1 _ R1 (OkG.bind h fun u b n2 H2 s2 k2 R2' vb h => ?_)
  match b, vb, h with
  | .d (.int j), vb, h =>
    cases vb
    dsimp only at h
    split at h
    · rename_i q
      simp only [Bool.and_eq_true, decide_eq_true_eq] at q
      obtain ⟨o, h3, h4⟩ := fr.av
      obtain ⟨vs, rfl, h4⟩ := h4.lst
      have no : ¬ Own σ n1 p := fun z => fr.nav (.inr z)
      have h5 : DvA c.K H2 (AV S σ n2) vs ds := s2.dvA (h4.weak fun a z => .inl z)
      refine ⟨p, j, vs, rfl, rfl, s2.ext p _ no h3, q.1.1, q.1.2, ?_, fun r nr => ?_⟩
      · rw [h4.len]
        exact Nat.le_trans q.2 (by decide)
      · exact h.ret (.upd nr) (R2'.new nr) ⟨r, rfl, s1.non (s2.non nr), .new R2' nr (h5.rep _)⟩
    · exact h.elim
theorem orep (h1 : OX X c a te fo) (h2 : EX X c b tb fb) : OX X c (.BinOp a .Mult b pos) (tOp rRep te tb) (oRep fo fb) := ⟨pe_op op_rep h1.p h2.p, do_rep h1.d h2.d⟩
def leT (ns ms : List Int) : Bool := Ob.lexAt (fun j => decide (ns.getD j 0 = ms.getD j 0)) (fun j => decide (ns.getD j 0 ≤ ms.getD j 0)) (decide (ns.length ≤ ms.length)) 0 (min ns.length ms.length)
def gLeT : PD → PD → Option PD
  | .tuple a, .tuple b => match intsOf a, intsOf b with
    | some ns, some ms => some (.bool (leT ns ms))
    | _, _ => none
  | _, _ => none
theorem leT_ok {K : PySem.W.Frag} : BopOk K (rLeT K) gLeT := fun A H Q x y dx dy d na wx wy e k => by
  unfold gLeT at e
  split at e
  · split at e
    · rename_i ns ms e1 e2
      cases e
      obtain ⟨p, vs, rfl, h1, h2⟩ := wx.tup
      obtain ⟨p', us, rfl, g1, g2⟩ := wy.tup
      exact ⟨p, p', ns, ms, rfl, rfl, ints_of h2 e1 ▸ h1, ints_of g2 e2 ▸ g1, k _ H .refl (.bl _)⟩
    · cases e
  · cases e
theorem c_leT {k : Nat} (hr : Room k X.A) (hK : c.K = X.K := by rfl) : CmpX X c .LtE (rLeT c.K) gLeT := ⟨hK ▸ op_leT hr.units0, leT_ok⟩
theorem leT2 (a b c d : Int) : leT [a, b] [c, d] = decide (a < c ∨ (a = c ∧ b ≤ d)) := by
  unfold leT
  simp only [List.length_cons, List.length_nil, Nat.min_self]
  rw [Ob.lexAt_succ, Ob.lexAt_succ, Ob.lexAt_zero]
  simp only [List.getD_cons_zero, List.getD_cons_succ, decide_eq_true_eq]
  split
  · rename_i h
    subst h
    split
    · rename_i h2
      subst h2
      simp
    · rename_i h2
      simp
  · rename_i h
    simp only [h, false_and, or_false]
    apply decide_eq_decide.mpr
    omega
end
end Dl
set_option Elab.async false
set_option linter.all false
namespace Dl
open PySem PySem.Spec PyProof.Rows L2
def gUC (g : List (Str × PD) → Option PD) (gs : List (Str × PD) → Option (List PD)) : List (Str × PD) → Option (List PD) := fun fs => (g fs).bind fun x => (gs fs).map (x :: ·)
def gUT (gs : List (Str × PD) → Option (List PD)) : GI := fun fs => (gs fs).bind fun xs => if lineB xs.length = true then some (.tuple xs) else none
theorem usc {X : Cx} {K : PySem.W.Frag} {C : Addr} {i : Nat} {L : List (Nat × Bool)} {e : Expr} {es : List Expr} {t : Addr → Option Addr → TE} {ta : Addr → Option Addr → TA} {g : GI} {gs : List (Str × PD) → Option (List PD)}
    (h : UX X K C i L e t g) (h2 : UXs X K C i L es ta gs) (hs : starEach (e :: es) X.env = (false, eval e X.env) :: starEach es X.env := by rfl) : UXs X K C i L (e :: es) (fun a d => tCons (t a d) (ta a d)) (gUC g gs) := us1 h h2 hs
theorem ust {X : Cx} {K : PySem.W.Frag} {C : Addr} {i : Nat} {L : List (Nat × Bool)} {es : List Expr} {pos : Pos} {ta : Addr → Option Addr → TA} {gs : List (Str × PD) → Option (List PD)} {k}
    (h : UXs X K C i L es ta gs) (hl : es.length ≤ 100 := by decide) : UX X K C i L (.Tuple es k pos) (fun a d => tTup (ta a d)) (gUT gs) := ux_tup h hl
theorem xcalM {X : Cx} {k n : Nat} {ps ks : List Str} {x : Str} {p pos : Pos} {kws : List Keyword} {pm : List Nat} {K : PySem.W.Frag} {cl : Str → Option Value} {lv : Nat} {f : Nv → Rs Rv} {tA : TA} {fA : Nv → Rs (List Ar)} {W : WX} (hK : X.K = K) (C : CalN X.prog X.w K X.mg X.base cl lv x ps ks pm f) (hr : Room k X.A) (tk : Takes X W) (hg : Gl X x)
    (ha : KX X ⟨K, cl, WE W⟩ kws tA fA) (hl : lv ≤ k := by decide) (hn : ps.length = n := by rfl) (hall : (backToKw pos (keywordEach kws X.env)).all (·.1.isSome) = true := by rfl) (hks : (backToKw pos (keywordEach kws X.env)).filterMap (·.1) = ks := by rfl) (hdb : (x == ("__debug__" : Str)) = false := by decide)
    (hpl : ((backTo pos (starEach [] X.env)).any (·.1) || (backToKw pos (keywordEach kws X.env)).any (·.1.isNone)) = false := by rfl) : EX X ⟨K, cl, WE W⟩ (.Call (.Name x p) [] kws pos) (tCallN (spM K cl n f) n pm (WE W) tA) (eCallN n pm f fA) := by
  subst hn
  exact xcalN hK C hr tk hg ha hl hall hks hdb hpl
theorem xcalME {X : Cx} {k n : Nat} {ps ks : List Str} {x : Str} {p pos : Pos} {kws : List Keyword} {pm : List Nat} {K : PySem.W.Frag} {cl : Str → Option Value} {lv : Nat} {f : Nv → Rs Rv} {tA : TA} {fA : Nv → Rs (List Ar)} {E : XK} (hK : X.K = K) (C : CalN X.prog X.w K X.mg X.base cl lv x ps ks pm f) (hr : Room k X.A) (tk : Takes X fun cls d _ H => E cls d H) (hg : Gl X x)
    (ha : KX X ⟨K, cl, fun _ => E⟩ kws tA fA) (hl : lv ≤ k := by decide) (hn : ps.length = n := by rfl) (hall : (backToKw pos (keywordEach kws X.env)).all (·.1.isSome) = true := by rfl) (hks : (backToKw pos (keywordEach kws X.env)).filterMap (·.1) = ks := by rfl) (hdb : (x == ("__debug__" : Str)) = false := by decide)
    (hpl : ((backTo pos (starEach [] X.env)).any (·.1) || (backToKw pos (keywordEach kws X.env)).any (·.1.isNone)) = false := by rfl) : EX X ⟨K, cl, fun _ => E⟩ (.Call (.Name x p) [] kws pos) (tCallN (spM K cl n f) n pm (fun _ => E) tA) (eCallN n pm f fA) := by
  subst hn
  exact xcalNE hK C hr tk hg ha hl hall hks hdb hpl
theorem ux_and2 {X : Cx} {K : PySem.W.Frag} {C : Addr} {i : Nat} {L : List (Nat × Bool)} {e e2 : Expr} {pos : Pos} {t u : Addr → Option Addr → TE} {b b2 : Bool} (h : UX X K C i L e t fun _ => some (.bool b)) (h2 : UX X K C i L e2 u fun _ => some (.bool b2)) :
    UX X K C i L (.BoolOp .And [e, e2] pos) (fun a d => tAndV (t a d) (u a d)) (fun _ => some (.bool (b && b2))) := ux_and h (ux_one h2)
end Dl
set_option Elab.async false
set_option linter.all false
set_option maxRecDepth 100000
namespace Dl
open PySem PySem.Spec PyProof.Rows L2
theorem exm_of {K : PySem.W.Frag} {xs : List Str} (h : exmB K xs = true) : ∀ p ∈ xs.map (fun x => (x, He.ga K x)), ∀ q ∈ xs.map (fun x => (x, He.ga K x)), PySem.W.exmOne K (.ref p.2) (.ref q.2) = some (decide (p.1 = q.1)) := fun p hp q hq => by
  obtain ⟨x, hx, rfl⟩ := List.mem_map.mp hp
  obtain ⟨y, hy, rfl⟩ := List.mem_map.mp hq
  exact of_decide_eq_true (List.all_eq_true.mp (List.all_eq_true.mp h x hx) y hy)
end Dl
set_option Elab.async false
set_option linter.all false
set_option maxRecDepth 100000
set_option maxHeartbeats 1000000
namespace K2
open PySem PySem.Spec PyProof.Rows L2 Dl
structure Txt (P : Program) (w : World) (K : PySem.W.Frag) (mg : Str → Option Value) (base : Heap) (cl : Str → Option Value) where
  b : Tx mg
  x_NotUsable : ExT P w K mg base "NotUsable" "word" "at"
  e_NotUsable : cl "NotUsable" = some (.ref x_NotUsable.C)
  x_OutOfOrder : ExT P w K mg base "OutOfOrder" "one" "other"
  e_OutOfOrder : cl "OutOfOrder" = some (.ref x_OutOfOrder.C)
  x_InvalidPaper : ExT P w K mg base "InvalidPaper" "word" "at"
  e_InvalidPaper : cl "InvalidPaper" = some (.ref x_InvalidPaper.C)
  i_InvalidPaper : ExI K x_InvalidPaper.C
  i_NotUsable : ExI K x_NotUsable.C
  i_OutOfOrder : ExI K x_OutOfOrder.C
  a_AskError : Addr
  g_AskError : mg "AskError" = some (.ref a_AskError)
  a_PaperError : Addr
  g_PaperError : mg "PaperError" = some (.ref a_PaperError)
  a_UnderError : Addr
  g_UnderError : mg "UnderError" = some (.ref a_UnderError)
  b_ValueError : mg "ValueError" = none
  k_InvalidPaper_PaperError : PySem.W.kitOne K (.ref x_InvalidPaper.C) (.ref a_PaperError) = some true
  k_InvalidPaper_UnderError : PySem.W.kitOne K (.ref x_InvalidPaper.C) (.ref a_UnderError) = some true
  k_NotUsable_AskError : PySem.W.kitOne K (.ref x_NotUsable.C) (.ref a_AskError) = some true
  k_NotUsable_PaperError : PySem.W.kitOne K (.ref x_NotUsable.C) (.ref a_PaperError) = some false
  k_OutOfOrder_AskError : PySem.W.kitOne K (.ref x_OutOfOrder.C) (.ref a_AskError) = some true
  k_OutOfOrder_ValueError : PySem.W.kitOne K (.ref x_OutOfOrder.C) (.type "ValueError") = some true
  exm : ∀ p ∈ ([("NotUsable", x_NotUsable.C), ("OutOfOrder", x_OutOfOrder.C), ("InvalidPaper", x_InvalidPaper.C)] : List (Str × Addr)), ∀ q ∈ ([("NotUsable", x_NotUsable.C), ("OutOfOrder", x_OutOfOrder.C), ("InvalidPaper", x_InvalidPaper.C)] : List (Str × Addr)), PySem.W.exmOne K (.ref p.2) (.ref q.2) = some (decide (p.1 = q.1))
end K2
set_option Elab.async false
set_option linter.all false
set_option maxRecDepth 100000
set_option maxHeartbeats 1000000
namespace K2
open PySem PySem.Spec PyProof.Rows L2 Dl
theorem sc_is_integer : FnScope ["thing"] ["thing"] (defScope s_is_integer) := ⟨rfl, rfl, rfl, by decide +kernel, rfl, by decide +kernel, by decide +kernel⟩
def m_is_integer : Nv → RS :=
  (sRet (eAnd (eIsi "int" (eV 0)) (eNot (eIsi "bool" (eV 0)))))
def f_is_integer : Nv → Rs Rv := ary 1 (body 0 (m_is_integer))
theorem ok_is_integer {P : Program} {w : World} {K : PySem.W.Frag} {mg : Str → Option Value} {base : Heap} {cl : Str → Option Value} {f : Addr} {fd : FuncData} (F : Fun K "is_integer" "is_integer" s_is_integer f fd) (hm : mg "is_integer" = some (.ref f)) (T : Txt P w K mg base cl) :
    Cal P w K mg base cl 1 "is_integer" ["thing"] f_is_integer :=
  cal_mk (g := m_is_integer) (m := 0) F hm sc_is_integer rfl (fun _ _ _ _ _ _ us hl => match us, hl with | [_], _ => rfl) fun cdv A outer s H E hr => by
    have tk : Takes (cxOf (L2.CX P w) P w K mg base ["thing"] "is_integer" (defScope s_is_integer) f cdv A outer s H E) (fun cls d _ H => E cls d H) := takes_of rfl rfl rfl rfl
    have po : PassesOwn (model P w) (cxOf (L2.CX P w) P w K mg base ["thing"] "is_integer" (defScope s_is_integer) f cdv A outer s H E).A (cxOf (L2.CX P w) P w K mg base ["thing"] "is_integer" (defScope s_is_integer) f cdv A outer s H E).env (cxOf (L2.CX P w) P w K mg base ["thing"] "is_integer" (defScope s_is_integer) f cdv A outer s H E).xe := passes_of rfl
    let cz : Cz := ⟨K, cl, fun _ => E⟩
    exact ⟨_, (b1 (sret (xand (xisi kit_int rfl T.b.isinstance rfl T.b.int (by decide +kernel) (xv 0)) (xone (xnot (xisi kit_bool rfl T.b.isinstance rfl T.b.bool (by decide +kernel) (xv 0)))))))⟩
theorem sc_is_group : FnScope ["thing", "many"] ["thing", "many"] (defScope s_is_group) := ⟨rfl, rfl, rfl, by decide +kernel, rfl, by decide +kernel, by decide +kernel⟩
def m_is_group : Nv → RS :=
  (sRet (eAnd (eIsi "tuple" (eV 0)) (eBin (gEq false) (eCb gLen (aCons (eV 0) aNil)) (eV 1))))
def f_is_group : Nv → Rs Rv := ary 2 (body 0 (m_is_group))
theorem ok_is_group {P : Program} {w : World} {K : PySem.W.Frag} {mg : Str → Option Value} {base : Heap} {cl : Str → Option Value} {f : Addr} {fd : FuncData} (F : Fun K "is_group" "is_group" s_is_group f fd) (hm : mg "is_group" = some (.ref f)) (T : Txt P w K mg base cl) :
    Cal P w K mg base cl 1 "is_group" ["thing", "many"] f_is_group :=
  cal_mk (g := m_is_group) (m := 0) F hm sc_is_group rfl (fun _ _ _ _ _ _ us hl => match us, hl with | [_, _], _ => rfl) fun cdv A outer s H E hr => by
    have tk : Takes (cxOf (L2.CX P w) P w K mg base ["thing", "many"] "is_group" (defScope s_is_group) f cdv A outer s H E) (fun cls d _ H => E cls d H) := takes_of rfl rfl rfl rfl
    have po : PassesOwn (model P w) (cxOf (L2.CX P w) P w K mg base ["thing", "many"] "is_group" (defScope s_is_group) f cdv A outer s H E).A (cxOf (L2.CX P w) P w K mg base ["thing", "many"] "is_group" (defScope s_is_group) f cdv A outer s H E).env (cxOf (L2.CX P w) P w K mg base ["thing", "many"] "is_group" (defScope s_is_group) f cdv A outer s H E).xe := passes_of rfl
    let cz : Cz := ⟨K, cl, fun _ => E⟩
    exact ⟨_, (b1 (sret (xand (xisi kit_tuple rfl T.b.isinstance rfl T.b.tuple (by decide +kernel) (xv 0)) (xone (xcmp (c_eq hr) (xcb cr_len len_ok rfl T.b.len (by decide +kernel) (a1 (xv 0) a0)) (xv 1))))))⟩
theorem sc_crossed_asks : FnScope ["asks", "at", "one", "other"] ["asks"] (defScope s_crossed_asks) := ⟨rfl, rfl, rfl, by decide +kernel, rfl, by decide +kernel, by decide +kernel⟩
def lp_crossed_asks_0 : Nv → RS := (sIf (tVal (eBin gLt (eBin gIx (eV 3) (eC (.int 1))) (eBin gIx (eV 2) (eC (.int 1))))) (sRet (eTup (aCons (eV 2) (aCons (eV 3) aNil)))) sNext)
def lp_crossed_asks_1 : Nv → RS := (sFor (iT (eSl (eV 0) (pS (eBin gAdd (eV 1) (eC (.int 1)))) pN)) (gN 3) (lp_crossed_asks_0))
def m_crossed_asks : Nv → RS :=
  (sSeq (sFor (iEn (aCons (eV 0) aNil)) (gT 2 (gsC (gN 1) (gsC (gN 2) gsN))) (lp_crossed_asks_1))
    (sRet (eC .none)))
def f_crossed_asks : Nv → Rs Rv := ary 1 (body 3 (m_crossed_asks))
theorem ok_crossed_asks {P : Program} {w : World} {K : PySem.W.Frag} {mg : Str → Option Value} {base : Heap} {cl : Str → Option Value} {f : Addr} {fd : FuncData} (F : Fun K "crossed_asks" "crossed_asks" s_crossed_asks f fd) (hm : mg "crossed_asks" = some (.ref f)) (T : Txt P w K mg base cl) :
    Cal P w K mg base cl 1 "crossed_asks" ["asks"] f_crossed_asks :=
  cal_mk (g := m_crossed_asks) (m := 3) F hm sc_crossed_asks rfl (fun _ _ _ _ _ _ us hl => match us, hl with | [_], _ => rfl) fun cdv A outer s H E hr => by
    have tk : Takes (cxOf (L2.CX P w) P w K mg base ["asks", "at", "one", "other"] "crossed_asks" (defScope s_crossed_asks) f cdv A outer s H E) (fun cls d _ H => E cls d H) := takes_of rfl rfl rfl rfl
    have po : PassesOwn (model P w) (cxOf (L2.CX P w) P w K mg base ["asks", "at", "one", "other"] "crossed_asks" (defScope s_crossed_asks) f cdv A outer s H E).A (cxOf (L2.CX P w) P w K mg base ["asks", "at", "one", "other"] "crossed_asks" (defScope s_crossed_asks) f cdv A outer s H E).env (cxOf (L2.CX P w) P w K mg base ["asks", "at", "one", "other"] "crossed_asks" (defScope s_crossed_asks) f cdv A outer s H E).xe := passes_of rfl
    let cz : Cz := ⟨K, cl, fun _ => E⟩
    exact ⟨_, (bc (sfor po rfl (ienum rfl T.b.enumerate (a1 (xv 0) a0)) (gtup rfl (gs1 (gx 1 sc_crossed_asks.nd) (gs1 (gx 2 sc_crossed_asks.nd) gs0))) (b1 (sfor po rfl (itup (xsl (xv 0) (p_so (xadd (xv 1) xi)) p_no)) (gx 3 sc_crossed_asks.nd) (b1 (sif (xtcmp c_lt (xix (xv 3) xi) (xix (xv 2) xi)) (b1 (sret (xtup (a1 (xv 2) (a1 (xv 3) a0))))) b0)))))
      (b1 (sret xn)))⟩
theorem sc__growth : FnScope ["event"] ["event"] (defScope s__growth) := ⟨rfl, rfl, rfl, by decide +kernel, rfl, by decide +kernel, by decide +kernel⟩
def m__growth : Nv → RS :=
  (sSeq (sIf (tVal (eBin (gEq false) (eBin gIx (eV 0) (eC (.int 0))) (eC (.str "ask")))) (sRet (eC (.int 0))) sNext)
    (sRet (eIf (tVal (eBin (gEq false) (eBin gIx (eV 0) (eC (.int 0))) (eC (.str "put")))) (eBin gIx (eV 0) (eC (.int 1))) (eUn (fun | .int i => some (.int (-i)) | _ => none) (eBin gIx (eV 0) (eC (.int 1)))))))
def f__growth : Nv → Rs Rv := ary 1 (body 0 (m__growth))
theorem ok__growth {P : Program} {w : World} {K : PySem.W.Frag} {mg : Str → Option Value} {base : Heap} {cl : Str → Option Value} {f : Addr} {fd : FuncData} (F : Fun K "_growth" "_growth" s__growth f fd) (hm : mg "_growth" = some (.ref f)) (T : Txt P w K mg base cl) :
    Cal P w K mg base cl 1 "_growth" ["event"] f__growth :=
  cal_mk (g := m__growth) (m := 0) F hm sc__growth rfl (fun _ _ _ _ _ _ us hl => match us, hl with | [_], _ => rfl) fun cdv A outer s H E hr => by
    have tk : Takes (cxOf (L2.CX P w) P w K mg base ["event"] "_growth" (defScope s__growth) f cdv A outer s H E) (fun cls d _ H => E cls d H) := takes_of rfl rfl rfl rfl
    have po : PassesOwn (model P w) (cxOf (L2.CX P w) P w K mg base ["event"] "_growth" (defScope s__growth) f cdv A outer s H E).A (cxOf (L2.CX P w) P w K mg base ["event"] "_growth" (defScope s__growth) f cdv A outer s H E).env (cxOf (L2.CX P w) P w K mg base ["event"] "_growth" (defScope s__growth) f cdv A outer s H E).xe := passes_of rfl
    let cz : Cz := ⟨K, cl, fun _ => E⟩
    exact ⟨_, (bc (sif (xtcmp (c_eq hr) (xix (xv 0) xi) xs) (b1 (sret xi)) b0)
      (b1 (sret (xife (xtcmp (c_eq hr) (xix (xv 0) xi) xs) (xix (xv 0) xi) (xneg (xix (xv 0) xi))))))⟩
theorem sc__law_nums : FnScope ["_law_script", "_law_at", "_law_bounds", "_law_cell", "_law_seed", "_law_part", "_law_free", "_law_mix", "_law_out", "_law_bound"] ["_law_script", "_law_at", "_law_bounds"] (defScope s__law_nums) := ⟨rfl, rfl, rfl, by decide +kernel, rfl, by decide +kernel, by decide +kernel⟩
def lp__law_nums_0 : Nv → RS := (sSet 4 (eBin gMod (eCb gInt (aCons (eBin gAdd (eBin gMul (eV 4) (eC (.int 9973))) (eV 5)) aNil)) (eC (.int 1000000021))))
def lp__law_nums_1 : Nv → RS := (sIf (tAndF (tVal (eV 6)) (tVal (eBin gGt (eV 3) (eC (.int 0))))) (sSeq (sApp 8 (aCons (eBin gMod (eCb gInt (aCons (eV 3) aNil)) (eV 9)) aNil))
    (sSet 3 (eBin gDiv (eV 3) (eV 9)))) (sSeq (sSet 7 (eBin gMod (eCb gInt (aCons (eBin gAdd (eBin gMul (eV 7) (eC (.int 40014))) (eC (.int 7919))) aNil)) (eC (.int 2147483563))))
    (sApp 8 (aCons (eBin gMod (eCb gInt (aCons (eBin gDiv (eV 7) (eC (.int 113))) aNil)) (eV 9)) aNil))))
def m__law_nums : Nv → RS :=
  (sSeq (sSet 3 (eC (.int 0)))
    (sSeq (sIf (tVal (eBin gLt (eV 1) (eCb gLen (aCons (eV 0) aNil)))) (sSet 3 (eBin gIx (eV 0) (eV 1))) sNext)
    (sSeq (sIf (tVal (eBin gLt (eV 3) (eC (.int 0)))) (sSet 3 (eBin Dl.gSub (eC (.int 3)) (eBin gMul (eC (.int 4)) (eV 3)))) sNext)
    (sSeq (sSet 4 (eBin gAdd (eC (.int 2203)) (eBin gMul (eC (.int 41)) (eCb gLen (aCons (eV 0) aNil)))))
    (sSeq (sFor (iL (eV 0)) (gN 5) (lp__law_nums_0))
    (sSeq (sSet 6 (eBin gGe (eV 3) (eC (.int 1000000000000000000))))
    (sSeq (sSet 7 (eBin gMod (eCb gInt (aCons (eBin gAdd (eBin gAdd (eBin gAdd (eBin gMul (eV 4) (eC (.int 331))) (eBin gMul (eV 3) (eC (.int 67)))) (eBin gMul (eV 1) (eC (.int 20959)))) (eC (.int 5))) aNil)) (eC (.int 2147483563))))
    (sSeq (sNew 8 (oLst aNil))
    (sSeq (sFor (iL (eV 2)) (gN 9) (lp__law_nums_1))
    (sRet (eV 8)))))))))))
def f__law_nums : Nv → Rs Rv := ary 3 (body 7 (m__law_nums))
theorem ok__law_nums {P : Program} {w : World} {K : PySem.W.Frag} {mg : Str → Option Value} {base : Heap} {cl : Str → Option Value} {f : Addr} {fd : FuncData} (F : Fun K "_law_nums" "_law_nums" s__law_nums f fd) (hm : mg "_law_nums" = some (.ref f)) (T : Txt P w K mg base cl) :
    Cal P w K mg base cl 1 "_law_nums" ["_law_script", "_law_at", "_law_bounds"] f__law_nums :=
  cal_mk (g := m__law_nums) (m := 7) F hm sc__law_nums rfl (fun _ _ _ _ _ _ us hl => match us, hl with | [_, _, _], _ => rfl) fun cdv A outer s H E hr => by
    have tk : Takes (cxOf (L2.CX P w) P w K mg base ["_law_script", "_law_at", "_law_bounds", "_law_cell", "_law_seed", "_law_part", "_law_free", "_law_mix", "_law_out", "_law_bound"] "_law_nums" (defScope s__law_nums) f cdv A outer s H E) (fun cls d _ H => E cls d H) := takes_of rfl rfl rfl rfl
    have po : PassesOwn (model P w) (cxOf (L2.CX P w) P w K mg base ["_law_script", "_law_at", "_law_bounds", "_law_cell", "_law_seed", "_law_part", "_law_free", "_law_mix", "_law_out", "_law_bound"] "_law_nums" (defScope s__law_nums) f cdv A outer s H E).A (cxOf (L2.CX P w) P w K mg base ["_law_script", "_law_at", "_law_bounds", "_law_cell", "_law_seed", "_law_part", "_law_free", "_law_mix", "_law_out", "_law_bound"] "_law_nums" (defScope s__law_nums) f cdv A outer s H E).env (cxOf (L2.CX P w) P w K mg base ["_law_script", "_law_at", "_law_bounds", "_law_cell", "_law_seed", "_law_part", "_law_free", "_law_mix", "_law_out", "_law_bound"] "_law_nums" (defScope s__law_nums) f cdv A outer s H E).xe := passes_of rfl
    let cz : Cz := ⟨K, cl, fun _ => E⟩
    exact ⟨_, (bc (sset 3 sc__law_nums.nd xi)
      (bc (sif (xtcmp c_lt (xv 1) (xcb cr_len len_ok rfl T.b.len (by decide +kernel) (a1 (xv 0) a0))) (b1 (sset 3 sc__law_nums.nd (xix (xv 0) (xv 1)))) b0)
      (bc (sif (xtcmp c_lt (xv 3) xi) (b1 (sset 3 sc__law_nums.nd (xsub xi (xmul xi (xv 3))))) b0)
      (bc (sset 4 sc__law_nums.nd (xadd xi (xmul xi (xcb cr_len len_ok rfl T.b.len (by decide +kernel) (a1 (xv 0) a0)))))
      (bc (sfor po rfl (ilist (xv 0)) (gx 5 sc__law_nums.nd) (b1 (sset 4 sc__law_nums.nd (xmod (xct call_int1 int_ok rfl T.b.int (by decide +kernel) (a1 (xadd (xmul (xv 4) xi) (xv 5)) a0)) xi))))
      (bc (sset 6 sc__law_nums.nd (xcmp c_ge (xv 3) xi))
      (bc (sset 7 sc__law_nums.nd (xmod (xct call_int1 int_ok rfl T.b.int (by decide +kernel) (a1 (xadd (xadd (xadd (xmul (xv 4) xi) (xmul (xv 3) xi)) (xmul (xv 1) xi)) xi) a0)) xi))
      (bc (snew 8 sc__law_nums.nd (olst a0))
      (bc (sfor po rfl (ilist (xv 2)) (gx 9 sc__law_nums.nd) (b1 (sif (xtw (wand (xt (xv 6)) (wand1 (xtcmp c_gt (xv 3) xi)))) (bc (sappn 8 (xv 8) (a1 (xmod (xct call_int1 int_ok rfl T.b.int (by decide +kernel) (a1 (xv 3) a0)) (xv 9)) a0))
      (b1 (sset 3 sc__law_nums.nd (xdiv (xv 3) (xv 9))))) (bc (sset 7 sc__law_nums.nd (xmod (xct call_int1 int_ok rfl T.b.int (by decide +kernel) (a1 (xadd (xmul (xv 7) xi) xi) a0)) xi))
      (b1 (sappn 8 (xv 8) (a1 (xmod (xct call_int1 int_ok rfl T.b.int (by decide +kernel) (a1 (xdiv (xv 7) xi) a0)) (xv 9)) a0)))))))
      (b1 (sret (xv 8))))))))))))⟩
theorem sc__law_int : FnScope ["_law_thing"] ["_law_thing"] (defScope s__law_int) := ⟨rfl, rfl, rfl, by decide +kernel, rfl, by decide +kernel, by decide +kernel⟩
def m__law_int : Nv → RS :=
  (sRet (eAnd (eIsi "int" (eV 0)) (eNot (eIsi "bool" (eV 0)))))
def f__law_int : Nv → Rs Rv := ary 1 (body 0 (m__law_int))
theorem ok__law_int {P : Program} {w : World} {K : PySem.W.Frag} {mg : Str → Option Value} {base : Heap} {cl : Str → Option Value} {f : Addr} {fd : FuncData} (F : Fun K "_law_int" "_law_int" s__law_int f fd) (hm : mg "_law_int" = some (.ref f)) (T : Txt P w K mg base cl) :
    Cal P w K mg base cl 1 "_law_int" ["_law_thing"] f__law_int :=
  cal_mk (g := m__law_int) (m := 0) F hm sc__law_int rfl (fun _ _ _ _ _ _ us hl => match us, hl with | [_], _ => rfl) fun cdv A outer s H E hr => by
    have tk : Takes (cxOf (L2.CX P w) P w K mg base ["_law_thing"] "_law_int" (defScope s__law_int) f cdv A outer s H E) (fun cls d _ H => E cls d H) := takes_of rfl rfl rfl rfl
    have po : PassesOwn (model P w) (cxOf (L2.CX P w) P w K mg base ["_law_thing"] "_law_int" (defScope s__law_int) f cdv A outer s H E).A (cxOf (L2.CX P w) P w K mg base ["_law_thing"] "_law_int" (defScope s__law_int) f cdv A outer s H E).env (cxOf (L2.CX P w) P w K mg base ["_law_thing"] "_law_int" (defScope s__law_int) f cdv A outer s H E).xe := passes_of rfl
    let cz : Cz := ⟨K, cl, fun _ => E⟩
    exact ⟨_, (b1 (sret (xand (xisi kit_int rfl T.b.isinstance rfl T.b.int (by decide +kernel) (xv 0)) (xone (xnot (xisi kit_bool rfl T.b.isinstance rfl T.b.bool (by decide +kernel) (xv 0)))))))⟩
theorem sc__law_events : FnScope ["_law_nums_here", "_law_many", "_law_reach", "_law_out", "_law_inside", "_law_come", "_law_k", "_law_kind", "_law_size"] ["_law_nums_here"] (defScope s__law_events) := ⟨rfl, rfl, rfl, by decide +kernel, rfl, by decide +kernel, by decide +kernel⟩
def lp__law_events_0 : Nv → RS := (sSeq (sSet 7 (eBin gMod (eCb gInt (aCons (eBin gIx (eV 0) (eBin gAdd (eC (.int 2)) (eV 6))) aNil)) (eC (.int 4))))
    (sSeq (sSet 8 (eBin gAdd (eC (.int 1)) (eBin gMod (eCb gInt (aCons (eBin gDiv (eBin gIx (eV 0) (eBin gAdd (eC (.int 2)) (eV 6))) (eC (.int 4))) aNil)) (eV 2))))
    (sIf (tAndF (tOrF (tVal (eBin (gEq false) (eV 7) (eC (.int 0)))) (tAndF (tVal (eBin (gEq false) (eV 7) (eC (.int 1)))) (tVal (eBin (gEq false) (eV 4) (eC (.int 0)))))) (tVal (eBin gLe (eBin gAdd (eV 5) (eV 8)) (eC (.int 120))))) (sSeq (sApp 3 (aCons (eTup (aCons (eC (.str "put")) (aCons (eV 8) aNil))) aNil))
    (sSeq (sSet 5 (eBin gAdd (eV 5) (eV 8)))
    (sSet 4 (eBin gAdd (eV 4) (eV 8))))) (sIf (tAndF (tVal (eBin (gEq false) (eV 7) (eC (.int 1)))) (tVal (eBin gGt (eV 4) (eC (.int 0))))) (sSeq (sApp 3 (aCons (eTup (aCons (eC (.str "drop")) (aCons (eCb gMin2 (aCons (eV 8) (aCons (eV 4) aNil))) aNil))) aNil))
    (sSet 4 (eBin Dl.gSub (eV 4) (eCb gMin2 (aCons (eV 8) (aCons (eV 4) aNil)))))) (sApp 3 (aCons (eTup (aCons (eC (.str "ask")) aNil)) aNil))))))
def m__law_events : Nv → RS :=
  (sSeq (sSet 1 (eBin gMod (eCb gInt (aCons (eBin gIx (eV 0) (eC (.int 1))) aNil)) (eC (.int 15))))
    (sSeq (sSet 2 (eC (.int 5)))
    (sSeq (sIf (tVal (eBin (gEq false) (eBin gIx (eV 0) (eC (.int 0))) (eC (.int 3)))) (sSet 1 (eBin gIx (eV 0) (eC (.int 1)))) sNext)
    (sSeq (sIf (tVal (eBin (gEq false) (eBin gIx (eV 0) (eC (.int 0))) (eC (.int 2)))) (sSet 2 (eC (.int 40))) sNext)
    (sSeq (sNew 3 (oLst aNil))
    (sSeq (sSet 4 (eC (.int 0)))
    (sSeq (sSet 5 (eC (.int 0)))
    (sSeq (sFor (iR1 (aCons (eV 1) aNil)) (gN 6) (lp__law_events_0))
    (sRet (eCb gTupOf (aCons (eV 3) aNil)))))))))))
def f__law_events : Nv → Rs Rv := ary 1 (body 8 (m__law_events))
theorem ok__law_events {P : Program} {w : World} {K : PySem.W.Frag} {mg : Str → Option Value} {base : Heap} {cl : Str → Option Value} {f : Addr} {fd : FuncData} (F : Fun K "_law_events" "_law_events" s__law_events f fd) (hm : mg "_law_events" = some (.ref f)) (T : Txt P w K mg base cl) :
    Cal P w K mg base cl 1 "_law_events" ["_law_nums_here"] f__law_events :=
  cal_mk (g := m__law_events) (m := 8) F hm sc__law_events rfl (fun _ _ _ _ _ _ us hl => match us, hl with | [_], _ => rfl) fun cdv A outer s H E hr => by
    have tk : Takes (cxOf (L2.CX P w) P w K mg base ["_law_nums_here", "_law_many", "_law_reach", "_law_out", "_law_inside", "_law_come", "_law_k", "_law_kind", "_law_size"] "_law_events" (defScope s__law_events) f cdv A outer s H E) (fun cls d _ H => E cls d H) := takes_of rfl rfl rfl rfl
    have po : PassesOwn (model P w) (cxOf (L2.CX P w) P w K mg base ["_law_nums_here", "_law_many", "_law_reach", "_law_out", "_law_inside", "_law_come", "_law_k", "_law_kind", "_law_size"] "_law_events" (defScope s__law_events) f cdv A outer s H E).A (cxOf (L2.CX P w) P w K mg base ["_law_nums_here", "_law_many", "_law_reach", "_law_out", "_law_inside", "_law_come", "_law_k", "_law_kind", "_law_size"] "_law_events" (defScope s__law_events) f cdv A outer s H E).env (cxOf (L2.CX P w) P w K mg base ["_law_nums_here", "_law_many", "_law_reach", "_law_out", "_law_inside", "_law_come", "_law_k", "_law_kind", "_law_size"] "_law_events" (defScope s__law_events) f cdv A outer s H E).xe := passes_of rfl
    let cz : Cz := ⟨K, cl, fun _ => E⟩
    exact ⟨_, (bc (sset 1 sc__law_events.nd (xmod (xct call_int1 int_ok rfl T.b.int (by decide +kernel) (a1 (xix (xv 0) xi) a0)) xi))
      (bc (sset 2 sc__law_events.nd xi)
      (bc (sif (xtcmp (c_eq hr) (xix (xv 0) xi) xi) (b1 (sset 1 sc__law_events.nd (xix (xv 0) xi))) b0)
      (bc (sif (xtcmp (c_eq hr) (xix (xv 0) xi) xi) (b1 (sset 2 sc__law_events.nd xi)) b0)
      (bc (snew 3 sc__law_events.nd (olst a0))
      (bc (sset 4 sc__law_events.nd xi)
      (bc (sset 5 sc__law_events.nd xi)
      (bc (sfor po rfl (irng1 rfl T.b.range (a1 (xv 1) a0)) (gx 6 sc__law_events.nd) (bc (sset 7 sc__law_events.nd (xmod (xct call_int1 int_ok rfl T.b.int (by decide +kernel) (a1 (xix (xv 0) (xadd xi (xv 6))) a0)) xi))
      (bc (sset 8 sc__law_events.nd (xadd xi (xmod (xct call_int1 int_ok rfl T.b.int (by decide +kernel) (a1 (xdiv (xix (xv 0) (xadd xi (xv 6))) xi) a0)) (xv 2))))
      (b1 (sif (xtw (wand (xtw (wor (xtcmp (c_eq hr) (xv 7) xi) (wor1 (xtw (wand (xtcmp (c_eq hr) (xv 7) xi) (wand1 (xtcmp (c_eq hr) (xv 4) xi))))))) (wand1 (xtcmp c_le (xadd (xv 5) (xv 8)) xi)))) (bc (sappn 3 (xv 3) (a1 (xtup (a1 xs (a1 (xv 8) a0))) a0))
      (bc (sset 5 sc__law_events.nd (xadd (xv 5) (xv 8)))
      (b1 (sset 4 sc__law_events.nd (xadd (xv 4) (xv 8)))))) (b1 (sif (xtw (wand (xtcmp (c_eq hr) (xv 7) xi) (wand1 (xtcmp c_gt (xv 4) xi)))) (bc (sappn 3 (xv 3) (a1 (xtup (a1 xs (a1 (xcb (call_min2 rfl) min2_ok rfl T.b.min (by decide +kernel) (a1 (xv 8) (a1 (xv 4) a0))) a0))) a0))
      (b1 (sset 4 sc__law_events.nd (xsub (xv 4) (xcb (call_min2 rfl) min2_ok rfl T.b.min (by decide +kernel) (a1 (xv 8) (a1 (xv 4) a0))))))) (b1 (sappn 3 (xv 3) (a1 (xtup (a1 xs a0)) a0))))))))))
      (b1 (sret (xct call_tuple_of tupOf_ok rfl T.b.tuple (by decide +kernel) (a1 (xv 3) a0))))))))))))⟩
theorem sc__law_play : FnScope ["_law_events_here", "_law_queue", "_law_come", "_law_told", "_law_event_here"] ["_law_events_here"] (defScope s__law_play) := ⟨rfl, rfl, rfl, by decide +kernel, rfl, by decide +kernel, by decide +kernel⟩
def lp__law_play_0 : Nv → RS := (sIf (tVal (eBin (gEq false) (eBin gIx (eV 4) (eC (.int 0))) (eC (.str "put")))) (sSeq (sSet 1 (eBin gAdd (eV 1) (eOf (oRg2 (eV 2) (eBin gAdd (eV 2) (eBin gIx (eV 4) (eC (.int 1))))))))
    (sSet 2 (eBin gAdd (eV 2) (eBin gIx (eV 4) (eC (.int 1)))))) (sIf (tVal (eBin (gEq false) (eBin gIx (eV 4) (eC (.int 0))) (eC (.str "drop")))) (sSet 1 (eSl (eV 1) (pS (eBin gIx (eV 4) (eC (.int 1)))) pN)) (sIf (tVal (eBin gGt (eCb gLen (aCons (eV 1) aNil)) (eC (.int 0)))) (sApp 3 (aCons (eTup (aCons (eBin gIx (eV 1) (eC (.int 0))) (aCons (eBin gAdd (eBin gIx (eV 1) (eUn (fun | .int i => some (.int (-i)) | _ => none) (eC (.int 1)))) (eC (.int 1))) aNil))) aNil)) sNext)))
def m__law_play : Nv → RS :=
  (sSeq (sSet 1 (eOf (oLst aNil)))
    (sSeq (sSet 2 (eC (.int 0)))
    (sSeq (sNew 3 (oLst aNil))
    (sSeq (sFor (iT (eV 0)) (gN 4) (lp__law_play_0))
    (sFrz 3 (sRet (eOf (oLst (aCons (eV 3) (aCons (eV 1) aNil))))))))))
def f__law_play : Nv → Rs Rv := ary 1 (body 4 (m__law_play))
theorem ok__law_play {P : Program} {w : World} {K : PySem.W.Frag} {mg : Str → Option Value} {base : Heap} {cl : Str → Option Value} {f : Addr} {fd : FuncData} (F : Fun K "_law_play" "_law_play" s__law_play f fd) (hm : mg "_law_play" = some (.ref f)) (T : Txt P w K mg base cl) :
    Cal P w K mg base cl 1 "_law_play" ["_law_events_here"] f__law_play :=
  cal_mk (g := m__law_play) (m := 4) F hm sc__law_play rfl (fun _ _ _ _ _ _ us hl => match us, hl with | [_], _ => rfl) fun cdv A outer s H E hr => by
    have tk : Takes (cxOf (L2.CX P w) P w K mg base ["_law_events_here", "_law_queue", "_law_come", "_law_told", "_law_event_here"] "_law_play" (defScope s__law_play) f cdv A outer s H E) (fun cls d _ H => E cls d H) := takes_of rfl rfl rfl rfl
    have po : PassesOwn (model P w) (cxOf (L2.CX P w) P w K mg base ["_law_events_here", "_law_queue", "_law_come", "_law_told", "_law_event_here"] "_law_play" (defScope s__law_play) f cdv A outer s H E).A (cxOf (L2.CX P w) P w K mg base ["_law_events_here", "_law_queue", "_law_come", "_law_told", "_law_event_here"] "_law_play" (defScope s__law_play) f cdv A outer s H E).env (cxOf (L2.CX P w) P w K mg base ["_law_events_here", "_law_queue", "_law_come", "_law_told", "_law_event_here"] "_law_play" (defScope s__law_play) f cdv A outer s H E).xe := passes_of rfl
    let cz : Cz := ⟨K, cl, fun _ => E⟩
    exact ⟨_, (bc (sset 1 sc__law_play.nd (xof (olst a0)))
      (bc (sset 2 sc__law_play.nd xi)
      (bc (snew 3 sc__law_play.nd (olst a0))
      (bc (sfor po rfl (itup (xv 0)) (gx 4 sc__law_play.nd) (b1 (sif (xtcmp (c_eq hr) (xix (xv 4) xi) xs) (bc (sset 1 sc__law_play.nd (xadd (xv 1) (xof (orng2 rfl rfl T.b.list rfl T.b.range (xv 2) (xadd (xv 2) (xix (xv 4) xi))))))
      (b1 (sset 2 sc__law_play.nd (xadd (xv 2) (xix (xv 4) xi))))) (b1 (sif (xtcmp (c_eq hr) (xix (xv 4) xi) xs) (b1 (sset 1 sc__law_play.nd (xsl (xv 1) (p_so (xix (xv 4) xi)) p_no))) (b1 (sif (xtcmp c_gt (xcb cr_len len_ok rfl T.b.len (by decide +kernel) (a1 (xv 1) a0)) xi) (b1 (sappn 3 (xv 3) (a1 (xtup (a1 (xix (xv 1) xi) (a1 (xadd (xix (xv 1) (xneg xi)) xi) a0))) a0))) b0)))))))
      (b1 (sfrz 3 (sret (xof (olst (a1 (xv 3) (a1 (xv 1) a0)))))))))))⟩
theorem sc__law_line : FnScope ["_law_parts", "_law_out", "_law_part"] ["_law_parts"] (defScope s__law_line) := ⟨rfl, rfl, rfl, by decide +kernel, rfl, by decide +kernel, by decide +kernel⟩
def lp__law_line_0 : Nv → RS := (sIf (tOrF (tVal (eBin (gEq false) (eCb gLen (aCons (eV 1) aNil)) (eC (.int 0)))) (tVal (eBin (gEq true) (eBin gIx (eV 1) (eUn (fun | .int i => some (.int (-i)) | _ => none) (eC (.int 1)))) (eV 2)))) (sApp 1 (aCons (eV 2) aNil)) sNext)
def m__law_line : Nv → RS :=
  (sSeq (sNew 1 (oLst aNil))
    (sSeq (sFor (iL (eOf (oCb gSrtQ (aCons (eV 0) aNil)))) (gN 2) (lp__law_line_0))
    (sRet (eCb gTupOf (aCons (eV 1) aNil)))))
def f__law_line : Nv → Rs Rv := ary 1 (body 2 (m__law_line))
theorem ok__law_line {P : Program} {w : World} {K : PySem.W.Frag} {mg : Str → Option Value} {base : Heap} {cl : Str → Option Value} {f : Addr} {fd : FuncData} (F : Fun K "_law_line" "_law_line" s__law_line f fd) (hm : mg "_law_line" = some (.ref f)) (T : Txt P w K mg base cl) :
    Cal P w K mg base cl 1 "_law_line" ["_law_parts"] f__law_line :=
  cal_mk (g := m__law_line) (m := 2) F hm sc__law_line rfl (fun _ _ _ _ _ _ us hl => match us, hl with | [_], _ => rfl) fun cdv A outer s H E hr => by
    have tk : Takes (cxOf (L2.CX P w) P w K mg base ["_law_parts", "_law_out", "_law_part"] "_law_line" (defScope s__law_line) f cdv A outer s H E) (fun cls d _ H => E cls d H) := takes_of rfl rfl rfl rfl
    have po : PassesOwn (model P w) (cxOf (L2.CX P w) P w K mg base ["_law_parts", "_law_out", "_law_part"] "_law_line" (defScope s__law_line) f cdv A outer s H E).A (cxOf (L2.CX P w) P w K mg base ["_law_parts", "_law_out", "_law_part"] "_law_line" (defScope s__law_line) f cdv A outer s H E).env (cxOf (L2.CX P w) P w K mg base ["_law_parts", "_law_out", "_law_part"] "_law_line" (defScope s__law_line) f cdv A outer s H E).xe := passes_of rfl
    let cz : Cz := ⟨K, cl, fun _ => E⟩
    exact ⟨_, (bc (snew 1 sc__law_line.nd (olst a0))
      (bc (sfor po rfl (ilist (xof (ocb cr_srtQ srtQ_ok rfl T.b.sorted (by decide +kernel) (a1 (xv 0) a0)))) (gx 2 sc__law_line.nd) (b1 (sif (xtw (wor (xtcmp (c_eq hr) (xcb cr_len len_ok rfl T.b.len (by decide +kernel) (a1 (xv 1) a0)) xi) (wor1 (xtcmp (c_ne hr) (xix (xv 1) (xneg xi)) (xv 2))))) (b1 (sappn 1 (xv 1) (a1 (xv 2) a0))) b0)))
      (b1 (sret (xct call_tuple_of tupOf_ok rfl T.b.tuple (by decide +kernel) (a1 (xv 1) a0))))))⟩
theorem sc__law_fault : FnScope ["_law_asks_here", "_law_k", "_law_other"] ["_law_asks_here"] (defScope s__law_fault) := ⟨rfl, rfl, rfl, by decide +kernel, rfl, by decide +kernel, by decide +kernel⟩
def lp__law_fault_0 : Nv → RS := (sIf (tAndF (tVal (eBin gLt (eBin gIx (eBin gIx (eV 0) (eV 1)) (eC (.int 0))) (eBin gIx (eV 2) (eC (.int 0))))) (tVal (eBin gLt (eBin gIx (eV 2) (eC (.int 1))) (eBin gIx (eBin gIx (eV 0) (eV 1)) (eC (.int 1)))))) (sRet (eTup (aCons (eBin gIx (eV 0) (eV 1)) (aCons (eV 2) aNil)))) sNext)
def lp__law_fault_1 : Nv → RS := (sFor (iT (eSl (eV 0) (pS (eBin gAdd (eV 1) (eC (.int 1)))) pN)) (gN 2) (lp__law_fault_0))
def m__law_fault : Nv → RS :=
  (sSeq (sFor (iR1 (aCons (eCb gLen (aCons (eV 0) aNil)) aNil)) (gN 1) (lp__law_fault_1))
    (sRet (eC .none)))
def f__law_fault : Nv → Rs Rv := ary 1 (body 2 (m__law_fault))
theorem ok__law_fault {P : Program} {w : World} {K : PySem.W.Frag} {mg : Str → Option Value} {base : Heap} {cl : Str → Option Value} {f : Addr} {fd : FuncData} (F : Fun K "_law_fault" "_law_fault" s__law_fault f fd) (hm : mg "_law_fault" = some (.ref f)) (T : Txt P w K mg base cl) :
    Cal P w K mg base cl 1 "_law_fault" ["_law_asks_here"] f__law_fault :=
  cal_mk (g := m__law_fault) (m := 2) F hm sc__law_fault rfl (fun _ _ _ _ _ _ us hl => match us, hl with | [_], _ => rfl) fun cdv A outer s H E hr => by
    have tk : Takes (cxOf (L2.CX P w) P w K mg base ["_law_asks_here", "_law_k", "_law_other"] "_law_fault" (defScope s__law_fault) f cdv A outer s H E) (fun cls d _ H => E cls d H) := takes_of rfl rfl rfl rfl
    have po : PassesOwn (model P w) (cxOf (L2.CX P w) P w K mg base ["_law_asks_here", "_law_k", "_law_other"] "_law_fault" (defScope s__law_fault) f cdv A outer s H E).A (cxOf (L2.CX P w) P w K mg base ["_law_asks_here", "_law_k", "_law_other"] "_law_fault" (defScope s__law_fault) f cdv A outer s H E).env (cxOf (L2.CX P w) P w K mg base ["_law_asks_here", "_law_k", "_law_other"] "_law_fault" (defScope s__law_fault) f cdv A outer s H E).xe := passes_of rfl
    let cz : Cz := ⟨K, cl, fun _ => E⟩
    exact ⟨_, (bc (sfor po rfl (irng1 rfl T.b.range (a1 (xcb cr_len len_ok rfl T.b.len (by decide +kernel) (a1 (xv 0) a0)) a0)) (gx 1 sc__law_fault.nd) (b1 (sfor po rfl (itup (xsl (xv 0) (p_so (xadd (xv 1) xi)) p_no)) (gx 2 sc__law_fault.nd) (b1 (sif (xtw (wand (xtcmp c_lt (xix (xix (xv 0) (xv 1)) xi) (xix (xv 2) xi)) (wand1 (xtcmp c_lt (xix (xv 2) xi) (xix (xix (xv 0) (xv 1)) xi))))) (b1 (sret (xtup (a1 (xix (xv 0) (xv 1)) (a1 (xv 2) a0))))) b0)))))
      (b1 (sret xn)))⟩
theorem sc__law_steady : FnScope ["_law_width", "_law_hop", "_law_many", "_law_queue", "_law_out", "_law_come"] ["_law_width", "_law_hop", "_law_many"] (defScope s__law_steady) := ⟨rfl, rfl, rfl, by decide +kernel, rfl, by decide +kernel, by decide +kernel⟩
def lp__law_steady_0 : Nv → RS := (sSeq (sSet 3 (eSl (eBin gAdd (eV 3) (eOf (oLst (aCons (eV 5) aNil)))) (pS (eUn (fun | .int i => some (.int (-i)) | _ => none) (eV 0))) pN))
    (sIf (tAndF (tVal (eBin gGe (eBin gAdd (eV 5) (eC (.int 1))) (eV 0))) (tAndF (tVal (eBin gLt (eCb gLen (aCons (eV 4) aNil)) (eV 2))) (tVal (eBin (gEq false) (eBin gMod (eCb gInt (aCons (eBin Dl.gSub (eBin gAdd (eV 5) (eC (.int 1))) (eV 0)) aNil)) (eV 1)) (eC (.int 0)))))) (sApp 4 (aCons (eTup (aCons (eBin gIx (eV 3) (eC (.int 0))) (aCons (eBin gAdd (eBin gIx (eV 3) (eUn (fun | .int i => some (.int (-i)) | _ => none) (eC (.int 1)))) (eC (.int 1))) aNil))) aNil)) sNext))
def m__law_steady : Nv → RS :=
  (sSeq (sSet 3 (eOf (oLst aNil)))
    (sSeq (sNew 4 (oLst aNil))
    (sSeq (sFor (iR1 (aCons (eBin gAdd (eV 0) (eBin gMul (eV 1) (eV 2))) aNil)) (gN 5) (lp__law_steady_0))
    (sRet (eCb gTupOf (aCons (eV 4) aNil))))))
def f__law_steady : Nv → Rs Rv := ary 3 (body 3 (m__law_steady))
theorem ok__law_steady {P : Program} {w : World} {K : PySem.W.Frag} {mg : Str → Option Value} {base : Heap} {cl : Str → Option Value} {f : Addr} {fd : FuncData} (F : Fun K "_law_steady" "_law_steady" s__law_steady f fd) (hm : mg "_law_steady" = some (.ref f)) (T : Txt P w K mg base cl) :
    Cal P w K mg base cl 1 "_law_steady" ["_law_width", "_law_hop", "_law_many"] f__law_steady :=
  cal_mk (g := m__law_steady) (m := 3) F hm sc__law_steady rfl (fun _ _ _ _ _ _ us hl => match us, hl with | [_, _, _], _ => rfl) fun cdv A outer s H E hr => by
    have tk : Takes (cxOf (L2.CX P w) P w K mg base ["_law_width", "_law_hop", "_law_many", "_law_queue", "_law_out", "_law_come"] "_law_steady" (defScope s__law_steady) f cdv A outer s H E) (fun cls d _ H => E cls d H) := takes_of rfl rfl rfl rfl
    have po : PassesOwn (model P w) (cxOf (L2.CX P w) P w K mg base ["_law_width", "_law_hop", "_law_many", "_law_queue", "_law_out", "_law_come"] "_law_steady" (defScope s__law_steady) f cdv A outer s H E).A (cxOf (L2.CX P w) P w K mg base ["_law_width", "_law_hop", "_law_many", "_law_queue", "_law_out", "_law_come"] "_law_steady" (defScope s__law_steady) f cdv A outer s H E).env (cxOf (L2.CX P w) P w K mg base ["_law_width", "_law_hop", "_law_many", "_law_queue", "_law_out", "_law_come"] "_law_steady" (defScope s__law_steady) f cdv A outer s H E).xe := passes_of rfl
    let cz : Cz := ⟨K, cl, fun _ => E⟩
    exact ⟨_, (bc (sset 3 sc__law_steady.nd (xof (olst a0)))
      (bc (snew 4 sc__law_steady.nd (olst a0))
      (bc (sfor po rfl (irng1 rfl T.b.range (a1 (xadd (xv 0) (xmul (xv 1) (xv 2))) a0)) (gx 5 sc__law_steady.nd) (bc (sset 3 sc__law_steady.nd (xsl (xadd (xv 3) (xof (olst (a1 (xv 5) a0)))) (p_so (xneg (xv 0))) p_no))
      (b1 (sif (xtw (wand (xtcmp c_ge (xadd (xv 5) xi) (xv 0)) (wand (xtcmp c_lt (xcb cr_len len_ok rfl T.b.len (by decide +kernel) (a1 (xv 4) a0)) (xv 2)) (wand1 (xtcmp (c_eq hr) (xmod (xct call_int1 int_ok rfl T.b.int (by decide +kernel) (a1 (xsub (xadd (xv 5) xi) (xv 0)) a0)) (xv 1)) xi))))) (b1 (sappn 4 (xv 4) (a1 (xtup (a1 (xix (xv 3) xi) (a1 (xadd (xix (xv 3) (xneg xi)) xi) a0))) a0))) b0))))
      (b1 (sret (xct call_tuple_of tupOf_ok rfl T.b.tuple (by decide +kernel) (a1 (xv 4) a0)))))))⟩
theorem sc_is_number : FnScope ["thing"] ["thing"] (defScope s_is_number) := ⟨rfl, rfl, rfl, by decide +kernel, rfl, by decide +kernel, by decide +kernel⟩
def m_is_number : Nv → RS :=
  (sRet (eAnd (eCall f_is_integer (aCons (eV 0) aNil)) (eBin gGe (eV 0) (eC (.int 0)))))
def f_is_number : Nv → Rs Rv := ary 1 (body 0 (m_is_number))
theorem ok_is_number {P : Program} {w : World} {K : PySem.W.Frag} {mg : Str → Option Value} {base : Heap} {cl : Str → Option Value} {f : Addr} {fd : FuncData} (F : Fun K "is_number" "is_number" s_is_number f fd) (hm : mg "is_number" = some (.ref f)) (T : Txt P w K mg base cl) (C_is_integer : Cal P w K mg base cl 1 "is_integer" ["thing"] f_is_integer) :
    Cal P w K mg base cl 2 "is_number" ["thing"] f_is_number :=
  cal_mk (g := m_is_number) (m := 0) F hm sc_is_number rfl (fun _ _ _ _ _ _ us hl => match us, hl with | [_], _ => rfl) fun cdv A outer s H E hr => by
    have tk : Takes (cxOf (L2.CX P w) P w K mg base ["thing"] "is_number" (defScope s_is_number) f cdv A outer s H E) (fun cls d _ H => E cls d H) := takes_of rfl rfl rfl rfl
    have po : PassesOwn (model P w) (cxOf (L2.CX P w) P w K mg base ["thing"] "is_number" (defScope s_is_number) f cdv A outer s H E).A (cxOf (L2.CX P w) P w K mg base ["thing"] "is_number" (defScope s_is_number) f cdv A outer s H E).env (cxOf (L2.CX P w) P w K mg base ["thing"] "is_number" (defScope s_is_number) f cdv A outer s H E).xe := passes_of rfl
    let cz : Cz := ⟨K, cl, fun _ => E⟩
    exact ⟨_, (b1 (sret (xand (xcal rfl C_is_integer hr tk rfl (a1 (xv 0) a0)) (xone (xcmp c_ge (xv 0) xi)))))⟩
theorem sc_is_positive : FnScope ["thing"] ["thing"] (defScope s_is_positive) := ⟨rfl, rfl, rfl, by decide +kernel, rfl, by decide +kernel, by decide +kernel⟩
def m_is_positive : Nv → RS :=
  (sRet (eAnd (eCall f_is_integer (aCons (eV 0) aNil)) (eBin gGe (eV 0) (eC (.int 1)))))
def f_is_positive : Nv → Rs Rv := ary 1 (body 0 (m_is_positive))
theorem ok_is_positive {P : Program} {w : World} {K : PySem.W.Frag} {mg : Str → Option Value} {base : Heap} {cl : Str → Option Value} {f : Addr} {fd : FuncData} (F : Fun K "is_positive" "is_positive" s_is_positive f fd) (hm : mg "is_positive" = some (.ref f)) (T : Txt P w K mg base cl) (C_is_integer : Cal P w K mg base cl 1 "is_integer" ["thing"] f_is_integer) :
    Cal P w K mg base cl 2 "is_positive" ["thing"] f_is_positive :=
  cal_mk (g := m_is_positive) (m := 0) F hm sc_is_positive rfl (fun _ _ _ _ _ _ us hl => match us, hl with | [_], _ => rfl) fun cdv A outer s H E hr => by
    have tk : Takes (cxOf (L2.CX P w) P w K mg base ["thing"] "is_positive" (defScope s_is_positive) f cdv A outer s H E) (fun cls d _ H => E cls d H) := takes_of rfl rfl rfl rfl
    have po : PassesOwn (model P w) (cxOf (L2.CX P w) P w K mg base ["thing"] "is_positive" (defScope s_is_positive) f cdv A outer s H E).A (cxOf (L2.CX P w) P w K mg base ["thing"] "is_positive" (defScope s_is_positive) f cdv A outer s H E).env (cxOf (L2.CX P w) P w K mg base ["thing"] "is_positive" (defScope s_is_positive) f cdv A outer s H E).xe := passes_of rfl
    let cz : Cz := ⟨K, cl, fun _ => E⟩
    exact ⟨_, (b1 (sret (xand (xcal rfl C_is_integer hr tk rfl (a1 (xv 0) a0)) (xone (xcmp c_ge (xv 0) xi)))))⟩
theorem sc__law_event : FnScope ["_law_thing"] ["_law_thing"] (defScope s__law_event) := ⟨rfl, rfl, rfl, by decide +kernel, rfl, by decide +kernel, by decide +kernel⟩
def m__law_event : Nv → RS :=
  (sSeq (sIf (tOrF (tNotF (tVal (eIsi "tuple" (eV 0)))) (tOrF (tVal (eBin (gEq false) (eCb gLen (aCons (eV 0) aNil)) (eC (.int 0)))) (tNotF (tVal (eIsi "str" (eBin gIx (eV 0) (eC (.int 0)))))))) (sRet (eC (.bool false))) sNext)
    (sSeq (sIf (tVal (eBin (gEq false) (eBin gIx (eV 0) (eC (.int 0))) (eC (.str "ask")))) (sRet (eBin (gEq false) (eCb gLen (aCons (eV 0) aNil)) (eC (.int 1)))) sNext)
    (sSeq (sIf (tAndF (tVal (eBin (gEq true) (eBin gIx (eV 0) (eC (.int 0))) (eC (.str "put")))) (tVal (eBin (gEq true) (eBin gIx (eV 0) (eC (.int 0))) (eC (.str "drop"))))) (sRet (eC (.bool false))) sNext)
    (sRet (eAnd (eBin (gEq false) (eCb gLen (aCons (eV 0) aNil)) (eC (.int 2))) (eAnd (eCall f__law_int (aCons (eBin gIx (eV 0) (eC (.int 1))) aNil)) (eBin gGe (eBin gIx (eV 0) (eC (.int 1))) (eC (.int 1)))))))))
def f__law_event : Nv → Rs Rv := ary 1 (body 0 (m__law_event))
theorem ok__law_event {P : Program} {w : World} {K : PySem.W.Frag} {mg : Str → Option Value} {base : Heap} {cl : Str → Option Value} {f : Addr} {fd : FuncData} (F : Fun K "_law_event" "_law_event" s__law_event f fd) (hm : mg "_law_event" = some (.ref f)) (T : Txt P w K mg base cl) (C__law_int : Cal P w K mg base cl 1 "_law_int" ["_law_thing"] f__law_int) :
    Cal P w K mg base cl 2 "_law_event" ["_law_thing"] f__law_event :=
  cal_mk (g := m__law_event) (m := 0) F hm sc__law_event rfl (fun _ _ _ _ _ _ us hl => match us, hl with | [_], _ => rfl) fun cdv A outer s H E hr => by
    have tk : Takes (cxOf (L2.CX P w) P w K mg base ["_law_thing"] "_law_event" (defScope s__law_event) f cdv A outer s H E) (fun cls d _ H => E cls d H) := takes_of rfl rfl rfl rfl
    have po : PassesOwn (model P w) (cxOf (L2.CX P w) P w K mg base ["_law_thing"] "_law_event" (defScope s__law_event) f cdv A outer s H E).A (cxOf (L2.CX P w) P w K mg base ["_law_thing"] "_law_event" (defScope s__law_event) f cdv A outer s H E).env (cxOf (L2.CX P w) P w K mg base ["_law_thing"] "_law_event" (defScope s__law_event) f cdv A outer s H E).xe := passes_of rfl
    let cz : Cz := ⟨K, cl, fun _ => E⟩
    exact ⟨_, (bc (sif (xtw (wor (xtnot (xt (xisi kit_tuple rfl T.b.isinstance rfl T.b.tuple (by decide +kernel) (xv 0)))) (wor (xtcmp (c_eq hr) (xcb cr_len len_ok rfl T.b.len (by decide +kernel) (a1 (xv 0) a0)) xi) (wor1 (xtnot (xt (xisi kit_str rfl T.b.isinstance rfl T.b.str (by decide +kernel) (xix (xv 0) xi)))))))) (b1 (sret xb)) b0)
      (bc (sif (xtcmp (c_eq hr) (xix (xv 0) xi) xs) (b1 (sret (xcmp (c_eq hr) (xcb cr_len len_ok rfl T.b.len (by decide +kernel) (a1 (xv 0) a0)) xi))) b0)
      (bc (sif (xtw (wand (xtcmp (c_ne hr) (xix (xv 0) xi) xs) (wand1 (xtcmp (c_ne hr) (xix (xv 0) xi) xs)))) (b1 (sret xb)) b0)
      (b1 (sret (xand (xcmp (c_eq hr) (xcb cr_len len_ok rfl T.b.len (by decide +kernel) (a1 (xv 0) a0)) xi) (xand (xcal rfl C__law_int hr tk rfl (a1 (xix (xv 0) xi) a0)) (xone (xcmp c_ge (xix (xv 0) xi) xi)))))))))⟩
theorem sc__law_asks : FnScope ["_law_thing", "_law_last", "_law_part"] ["_law_thing"] (defScope s__law_asks) := ⟨rfl, rfl, rfl, by decide +kernel, rfl, by decide +kernel, by decide +kernel⟩
def lp__law_asks_0 : Nv → RS := (sSeq (sIf (tOrF (tNotF (tVal (eIsi "tuple" (eV 2)))) (tOrF (tVal (eBin (gEq true) (eCb gLen (aCons (eV 2) aNil)) (eC (.int 2)))) (tOrF (tNotF (tVal (eCall f__law_int (aCons (eBin gIx (eV 2) (eC (.int 0))) aNil)))) (tNotF (tVal (eCall f__law_int (aCons (eBin gIx (eV 2) (eC (.int 1))) aNil))))))) (sRet (eC (.bool false))) sNext)
    (sSeq (sIf (tOrF (tVal (eBin gLt (eBin gIx (eV 2) (eC (.int 0))) (eC (.int 0)))) (tOrF (tVal (eBin gGe (eBin gIx (eV 2) (eC (.int 0))) (eBin gIx (eV 2) (eC (.int 1))))) (tVal (eBin gLeT (eV 2) (eV 1))))) (sRet (eC (.bool false))) sNext)
    (sSet 1 (eV 2))))
def m__law_asks : Nv → RS :=
  (sSeq (sIf (tNotF (tVal (eIsi "tuple" (eV 0)))) (sRet (eC (.bool false))) sNext)
    (sSeq (sSet 1 (eTup (aCons (eUn (fun | .int i => some (.int (-i)) | _ => none) (eC (.int 1))) (aCons (eUn (fun | .int i => some (.int (-i)) | _ => none) (eC (.int 1))) aNil))))
    (sSeq (sFor (iT (eV 0)) (gN 2) (lp__law_asks_0))
    (sRet (eC (.bool true))))))
def f__law_asks : Nv → Rs Rv := ary 1 (body 2 (m__law_asks))
theorem ok__law_asks {P : Program} {w : World} {K : PySem.W.Frag} {mg : Str → Option Value} {base : Heap} {cl : Str → Option Value} {f : Addr} {fd : FuncData} (F : Fun K "_law_asks" "_law_asks" s__law_asks f fd) (hm : mg "_law_asks" = some (.ref f)) (T : Txt P w K mg base cl) (C__law_int : Cal P w K mg base cl 1 "_law_int" ["_law_thing"] f__law_int) :
    Cal P w K mg base cl 2 "_law_asks" ["_law_thing"] f__law_asks :=
  cal_mk (g := m__law_asks) (m := 2) F hm sc__law_asks rfl (fun _ _ _ _ _ _ us hl => match us, hl with | [_], _ => rfl) fun cdv A outer s H E hr => by
    have tk : Takes (cxOf (L2.CX P w) P w K mg base ["_law_thing", "_law_last", "_law_part"] "_law_asks" (defScope s__law_asks) f cdv A outer s H E) (fun cls d _ H => E cls d H) := takes_of rfl rfl rfl rfl
    have po : PassesOwn (model P w) (cxOf (L2.CX P w) P w K mg base ["_law_thing", "_law_last", "_law_part"] "_law_asks" (defScope s__law_asks) f cdv A outer s H E).A (cxOf (L2.CX P w) P w K mg base ["_law_thing", "_law_last", "_law_part"] "_law_asks" (defScope s__law_asks) f cdv A outer s H E).env (cxOf (L2.CX P w) P w K mg base ["_law_thing", "_law_last", "_law_part"] "_law_asks" (defScope s__law_asks) f cdv A outer s H E).xe := passes_of rfl
    let cz : Cz := ⟨K, cl, fun _ => E⟩
    exact ⟨_, (bc (sif (xtnot (xt (xisi kit_tuple rfl T.b.isinstance rfl T.b.tuple (by decide +kernel) (xv 0)))) (b1 (sret xb)) b0)
      (bc (sset 1 sc__law_asks.nd (xtup (a1 (xneg xi) (a1 (xneg xi) a0))))
      (bc (sfor po rfl (itup (xv 0)) (gx 2 sc__law_asks.nd) (bc (sif (xtw (wor (xtnot (xt (xisi kit_tuple rfl T.b.isinstance rfl T.b.tuple (by decide +kernel) (xv 2)))) (wor (xtcmp (c_ne hr) (xcb cr_len len_ok rfl T.b.len (by decide +kernel) (a1 (xv 2) a0)) xi) (wor (xtnot (xt (xcal rfl C__law_int hr tk rfl (a1 (xix (xv 2) xi) a0)))) (wor1 (xtnot (xt (xcal rfl C__law_int hr tk rfl (a1 (xix (xv 2) xi) a0))))))))) (b1 (sret xb)) b0)
      (bc (sif (xtw (wor (xtcmp c_lt (xix (xv 2) xi) xi) (wor (xtcmp c_ge (xix (xv 2) xi) (xix (xv 2) xi)) (wor1 (xtcmp (c_leT hr) (xv 2) (xv 1)))))) (b1 (sret xb)) b0)
      (b1 (sset 1 sc__law_asks.nd (xv 2))))))
      (b1 (sret xb)))))⟩
theorem sc__law_row : FnScope ["_law_nums_here", "_law_out", "_law_front", "_law_end", "_law_k", "_law_one", "_law_two", "_law_low"] ["_law_nums_here"] (defScope s__law_row) := ⟨rfl, rfl, rfl, by decide +kernel, rfl, by decide +kernel, by decide +kernel⟩
def lp__law_row_0 : Nv → RS := (sSeq (sSet 5 (eBin gIx (eV 0) (eBin gAdd (eC (.int 2)) (eBin gMul (eC (.int 2)) (eV 4)))))
    (sSeq (sSet 6 (eBin gIx (eV 0) (eBin gAdd (eC (.int 3)) (eBin gMul (eC (.int 2)) (eV 4)))))
    (sIf (tVal (eBin gLt (eBin gIx (eV 0) (eC (.int 0))) (eC (.int 5)))) (sSeq (sSet 2 (eBin gAdd (eV 2) (eBin gMod (eCb gInt (aCons (eV 5) aNil)) (eBin gIx (eTup (aCons (eC (.int 3)) (aCons (eC (.int 2)) (aCons (eC (.int 3)) (aCons (eC (.int 8)) (aCons (eC (.int 4)) aNil)))))) (eBin gIx (eV 0) (eC (.int 0)))))))
    (sSeq (sSet 3 (eBin gAdd (eCb gMax2 (aCons (eV 3) (aCons (eBin gAdd (eV 2) (eC (.int 1))) aNil))) (eBin gMod (eCb gInt (aCons (eV 6) aNil)) (eBin gIx (eTup (aCons (eC (.int 3)) (aCons (eC (.int 4)) (aCons (eC (.int 2)) (aCons (eC (.int 3)) (aCons (eC (.int 1)) aNil)))))) (eBin gIx (eV 0) (eC (.int 0)))))))
    (sApp 1 (aCons (eTup (aCons (eV 2) (aCons (eV 3) aNil))) aNil)))) (sSeq (sSet 7 (eBin gMod (eCb gInt (aCons (eV 5) aNil)) (eC (.int 9))))
    (sApp 1 (aCons (eTup (aCons (eV 7) (aCons (eBin gAdd (eBin gAdd (eV 7) (eC (.int 1))) (eBin gMod (eCb gInt (aCons (eV 6) aNil)) (eBin gIx (eTup (aCons (eC (.int 4)) (aCons (eC (.int 6)) (aCons (eC (.int 10)) aNil)))) (eBin Dl.gSub (eBin gIx (eV 0) (eC (.int 0))) (eC (.int 5)))))) aNil))) aNil))))))
def m__law_row : Nv → RS :=
  (sSeq (sNew 1 (oLst aNil))
    (sSeq (sSet 2 (eC (.int 0)))
    (sSeq (sSet 3 (eC (.int 0)))
    (sSeq (sFor (iR1 (aCons (eBin gIx (eV 0) (eC (.int 1))) aNil)) (gN 4) (lp__law_row_0))
    (sFrz 1 (sRet (eCall f__law_line (aCons (eV 1) aNil))))))))
def f__law_row : Nv → Rs Rv := ary 1 (body 7 (m__law_row))
theorem ok__law_row {P : Program} {w : World} {K : PySem.W.Frag} {mg : Str → Option Value} {base : Heap} {cl : Str → Option Value} {f : Addr} {fd : FuncData} (F : Fun K "_law_row" "_law_row" s__law_row f fd) (hm : mg "_law_row" = some (.ref f)) (T : Txt P w K mg base cl) (C__law_line : Cal P w K mg base cl 1 "_law_line" ["_law_parts"] f__law_line) :
    Cal P w K mg base cl 2 "_law_row" ["_law_nums_here"] f__law_row :=
  cal_mk (g := m__law_row) (m := 7) F hm sc__law_row rfl (fun _ _ _ _ _ _ us hl => match us, hl with | [_], _ => rfl) fun cdv A outer s H E hr => by
    have tk : Takes (cxOf (L2.CX P w) P w K mg base ["_law_nums_here", "_law_out", "_law_front", "_law_end", "_law_k", "_law_one", "_law_two", "_law_low"] "_law_row" (defScope s__law_row) f cdv A outer s H E) (fun cls d _ H => E cls d H) := takes_of rfl rfl rfl rfl
    have po : PassesOwn (model P w) (cxOf (L2.CX P w) P w K mg base ["_law_nums_here", "_law_out", "_law_front", "_law_end", "_law_k", "_law_one", "_law_two", "_law_low"] "_law_row" (defScope s__law_row) f cdv A outer s H E).A (cxOf (L2.CX P w) P w K mg base ["_law_nums_here", "_law_out", "_law_front", "_law_end", "_law_k", "_law_one", "_law_two", "_law_low"] "_law_row" (defScope s__law_row) f cdv A outer s H E).env (cxOf (L2.CX P w) P w K mg base ["_law_nums_here", "_law_out", "_law_front", "_law_end", "_law_k", "_law_one", "_law_two", "_law_low"] "_law_row" (defScope s__law_row) f cdv A outer s H E).xe := passes_of rfl
    let cz : Cz := ⟨K, cl, fun _ => E⟩
    exact ⟨_, (bc (snew 1 sc__law_row.nd (olst a0))
      (bc (sset 2 sc__law_row.nd xi)
      (bc (sset 3 sc__law_row.nd xi)
      (bc (sfor po rfl (irng1 rfl T.b.range (a1 (xix (xv 0) xi) a0)) (gx 4 sc__law_row.nd) (bc (sset 5 sc__law_row.nd (xix (xv 0) (xadd xi (xmul xi (xv 4)))))
      (bc (sset 6 sc__law_row.nd (xix (xv 0) (xadd xi (xmul xi (xv 4)))))
      (b1 (sif (xtcmp c_lt (xix (xv 0) xi) xi) (bc (sset 2 sc__law_row.nd (xadd (xv 2) (xmod (xct call_int1 int_ok rfl T.b.int (by decide +kernel) (a1 (xv 5) a0)) (xix (xtup (a1 xi (a1 xi (a1 xi (a1 xi (a1 xi a0)))))) (xix (xv 0) xi)))))
      (bc (sset 3 sc__law_row.nd (xadd (xcb (call_max2 rfl) max2_ok rfl T.b.max (by decide +kernel) (a1 (xv 3) (a1 (xadd (xv 2) xi) a0))) (xmod (xct call_int1 int_ok rfl T.b.int (by decide +kernel) (a1 (xv 6) a0)) (xix (xtup (a1 xi (a1 xi (a1 xi (a1 xi (a1 xi a0)))))) (xix (xv 0) xi)))))
      (b1 (sappn 1 (xv 1) (a1 (xtup (a1 (xv 2) (a1 (xv 3) a0))) a0))))) (bc (sset 7 sc__law_row.nd (xmod (xct call_int1 int_ok rfl T.b.int (by decide +kernel) (a1 (xv 5) a0)) xi))
      (b1 (sappn 1 (xv 1) (a1 (xtup (a1 (xv 7) (a1 (xadd (xadd (xv 7) xi) (xmod (xct call_int1 int_ok rfl T.b.int (by decide +kernel) (a1 (xv 6) a0)) (xix (xtup (a1 xi (a1 xi (a1 xi a0)))) (xsub (xix (xv 0) xi) xi)))) a0))) a0)))))))))
      (b1 (sfrz 1 (sret (xcal rfl C__law_line hr tk rfl (a1 (xv 1) a0)))))))))⟩
theorem sc__law_calendar : FnScope ["_law_widths", "_law_queue", "_law_out", "_law_come"] ["_law_widths"] (defScope s__law_calendar) := ⟨rfl, rfl, rfl, by decide +kernel, rfl, by decide +kernel, by decide +kernel⟩
def lp__law_calendar_0 : Nv → RS := (sSeq (sSet 1 (eSl (eBin gAdd (eV 1) (eOf (oLst (aCons (eV 3) aNil)))) (pS (eUn (fun | .int i => some (.int (-i)) | _ => none) (eBin gIx (eV 0) (eV 3)))) pN))
    (sApp 2 (aCons (eTup (aCons (eBin gIx (eV 1) (eC (.int 0))) (aCons (eBin gAdd (eBin gIx (eV 1) (eUn (fun | .int i => some (.int (-i)) | _ => none) (eC (.int 1)))) (eC (.int 1))) aNil))) aNil)))
def m__law_calendar : Nv → RS :=
  (sSeq (sSet 1 (eOf (oLst aNil)))
    (sSeq (sNew 2 (oLst aNil))
    (sSeq (sFor (iR1 (aCons (eCb gLen (aCons (eV 0) aNil)) aNil)) (gN 3) (lp__law_calendar_0))
    (sFrz 2 (sRet (eCall f__law_line (aCons (eV 2) aNil)))))))
def f__law_calendar : Nv → Rs Rv := ary 1 (body 3 (m__law_calendar))
theorem ok__law_calendar {P : Program} {w : World} {K : PySem.W.Frag} {mg : Str → Option Value} {base : Heap} {cl : Str → Option Value} {f : Addr} {fd : FuncData} (F : Fun K "_law_calendar" "_law_calendar" s__law_calendar f fd) (hm : mg "_law_calendar" = some (.ref f)) (T : Txt P w K mg base cl) (C__law_line : Cal P w K mg base cl 1 "_law_line" ["_law_parts"] f__law_line) :
    Cal P w K mg base cl 2 "_law_calendar" ["_law_widths"] f__law_calendar :=
  cal_mk (g := m__law_calendar) (m := 3) F hm sc__law_calendar rfl (fun _ _ _ _ _ _ us hl => match us, hl with | [_], _ => rfl) fun cdv A outer s H E hr => by
    have tk : Takes (cxOf (L2.CX P w) P w K mg base ["_law_widths", "_law_queue", "_law_out", "_law_come"] "_law_calendar" (defScope s__law_calendar) f cdv A outer s H E) (fun cls d _ H => E cls d H) := takes_of rfl rfl rfl rfl
    have po : PassesOwn (model P w) (cxOf (L2.CX P w) P w K mg base ["_law_widths", "_law_queue", "_law_out", "_law_come"] "_law_calendar" (defScope s__law_calendar) f cdv A outer s H E).A (cxOf (L2.CX P w) P w K mg base ["_law_widths", "_law_queue", "_law_out", "_law_come"] "_law_calendar" (defScope s__law_calendar) f cdv A outer s H E).env (cxOf (L2.CX P w) P w K mg base ["_law_widths", "_law_queue", "_law_out", "_law_come"] "_law_calendar" (defScope s__law_calendar) f cdv A outer s H E).xe := passes_of rfl
    let cz : Cz := ⟨K, cl, fun _ => E⟩
    exact ⟨_, (bc (sset 1 sc__law_calendar.nd (xof (olst a0)))
      (bc (snew 2 sc__law_calendar.nd (olst a0))
      (bc (sfor po rfl (irng1 rfl T.b.range (a1 (xcb cr_len len_ok rfl T.b.len (by decide +kernel) (a1 (xv 0) a0)) a0)) (gx 3 sc__law_calendar.nd) (bc (sset 1 sc__law_calendar.nd (xsl (xadd (xv 1) (xof (olst (a1 (xv 3) a0)))) (p_so (xneg (xix (xv 0) (xv 3)))) p_no))
      (b1 (sappn 2 (xv 2) (a1 (xtup (a1 (xix (xv 1) xi) (a1 (xadd (xix (xv 1) (xneg xi)) xi) a0))) a0)))))
      (b1 (sfrz 2 (sret (xcal rfl C__law_line hr tk rfl (a1 (xv 2) a0))))))))⟩
theorem sc__law_timed : FnScope ["_law_times", "_law_length", "_law_moments", "_law_out", "_law_moment", "_law_near", "_law_k"] ["_law_times", "_law_length", "_law_moments"] (defScope s__law_timed) := ⟨rfl, rfl, rfl, by decide +kernel, rfl, by decide +kernel, by decide +kernel⟩
def lp__law_timed_0 : Nv → RS := (sSeq (sNew 5 (oComp [6] (iR1 (aCons (eCb gLen (aCons (eV 0) aNil)) aNil)) (gN 6) (tAndF (tVal (eBin gLt (eBin Dl.gSub (eV 4) (eV 1)) (eBin gIx (eV 0) (eV 6)))) (tVal (eBin gLe (eBin gIx (eV 0) (eV 6)) (eV 4)))) (eV 6)))
    (sIf (tVal (eBin gGt (eCb gLen (aCons (eV 5) aNil)) (eC (.int 0)))) (sApp 3 (aCons (eTup (aCons (eBin gIx (eV 5) (eC (.int 0))) (aCons (eBin gAdd (eBin gIx (eV 5) (eUn (fun | .int i => some (.int (-i)) | _ => none) (eC (.int 1)))) (eC (.int 1))) aNil))) aNil)) sNext))
def m__law_timed : Nv → RS :=
  (sSeq (sNew 3 (oLst aNil))
    (sSeq (sFor (iL (eV 2)) (gN 4) (lp__law_timed_0))
    (sFrz 3 (sRet (eCall f__law_line (aCons (eV 3) aNil))))))
def f__law_timed : Nv → Rs Rv := ary 3 (body 4 (m__law_timed))
theorem ok__law_timed {P : Program} {w : World} {K : PySem.W.Frag} {mg : Str → Option Value} {base : Heap} {cl : Str → Option Value} {f : Addr} {fd : FuncData} (F : Fun K "_law_timed" "_law_timed" s__law_timed f fd) (hm : mg "_law_timed" = some (.ref f)) (T : Txt P w K mg base cl) (C__law_line : Cal P w K mg base cl 1 "_law_line" ["_law_parts"] f__law_line) :
    Cal P w K mg base cl 2 "_law_timed" ["_law_times", "_law_length", "_law_moments"] f__law_timed :=
  cal_mk (g := m__law_timed) (m := 4) F hm sc__law_timed rfl (fun _ _ _ _ _ _ us hl => match us, hl with | [_, _, _], _ => rfl) fun cdv A outer s H E hr => by
    have tk : Takes (cxOf (L2.CX P w) P w K mg base ["_law_times", "_law_length", "_law_moments", "_law_out", "_law_moment", "_law_near", "_law_k"] "_law_timed" (defScope s__law_timed) f cdv A outer s H E) (fun cls d _ H => E cls d H) := takes_of rfl rfl rfl rfl
    have po : PassesOwn (model P w) (cxOf (L2.CX P w) P w K mg base ["_law_times", "_law_length", "_law_moments", "_law_out", "_law_moment", "_law_near", "_law_k"] "_law_timed" (defScope s__law_timed) f cdv A outer s H E).A (cxOf (L2.CX P w) P w K mg base ["_law_times", "_law_length", "_law_moments", "_law_out", "_law_moment", "_law_near", "_law_k"] "_law_timed" (defScope s__law_timed) f cdv A outer s H E).env (cxOf (L2.CX P w) P w K mg base ["_law_times", "_law_length", "_law_moments", "_law_out", "_law_moment", "_law_near", "_law_k"] "_law_timed" (defScope s__law_timed) f cdv A outer s H E).xe := passes_of rfl
    let cz : Cz := ⟨K, cl, fun _ => E⟩
    exact ⟨_, (bc (snew 3 sc__law_timed.nd (olst a0))
      (bc (sfor po rfl (ilist (xv 2)) (gx 4 sc__law_timed.nd) (bc (snewc 5 (own := [("_law_k", 6)]) rfl sc__law_timed.nd (irng1 rfl T.b.range (a1 (xcb cr_len len_ok rfl T.b.len (by decide +kernel) (a1 (xv 0) a0)) a0)) (blkOk_of (N0 := ["_law_times", "_law_length", "_law_moments", "_law_out", "_law_moment", "_law_near", "_law_k"]) (o0 := defScope s__law_timed) rfl rfl (by decide +kernel)) (gin_name (by decide)) mono_name (fun _ _ _ _ _ => (gx 6 sc__law_timed.nd)) (fun _ _ _ _ _ => (t1 (xtw (wand (xtcmp c_lt (xsub (xv 4) (xv 1)) (xix (xv 0) (xv 6))) (wand1 (xtcmp c_le (xix (xv 0) (xv 6)) (xv 4))))))) (fun _ _ _ _ _ => (xv 6)) s H)
      (b1 (sif (xtcmp c_gt (xcb cr_len len_ok rfl T.b.len (by decide +kernel) (a1 (xv 5) a0)) xi) (b1 (sappn 3 (xv 3) (a1 (xtup (a1 (xix (xv 5) xi) (a1 (xadd (xix (xv 5) (xneg xi)) xi) a0))) a0))) b0))))
      (b1 (sfrz 3 (sret (xcal rfl C__law_line hr tk rfl (a1 (xv 3) a0)))))))⟩
theorem sc_is_stretch : FnScope ["thing", "low", "high"] ["thing"] (defScope s_is_stretch) := ⟨rfl, rfl, rfl, by decide +kernel, rfl, by decide +kernel, by decide +kernel⟩
def m_is_stretch : Nv → RS :=
  (sSeq (sIf (tNotF (tVal (eCall f_is_group (aCons (eV 0) (aCons (eC (.int 2)) aNil))))) (sRet (eC (.bool false))) sNext)
    (sSeq (sAsg (eV 0) (gT 2 (gsC (gN 1) (gsC (gN 2) gsN))))
    (sRet (eAnd (eCall f_is_number (aCons (eV 1) aNil)) (eAnd (eCall f_is_number (aCons (eV 2) aNil)) (eBin gLt (eV 1) (eV 2)))))))
def f_is_stretch : Nv → Rs Rv := ary 1 (body 2 (m_is_stretch))
theorem ok_is_stretch {P : Program} {w : World} {K : PySem.W.Frag} {mg : Str → Option Value} {base : Heap} {cl : Str → Option Value} {f : Addr} {fd : FuncData} (F : Fun K "is_stretch" "is_stretch" s_is_stretch f fd) (hm : mg "is_stretch" = some (.ref f)) (T : Txt P w K mg base cl) (C_is_group : Cal P w K mg base cl 1 "is_group" ["thing", "many"] f_is_group) (C_is_number : Cal P w K mg base cl 2 "is_number" ["thing"] f_is_number) :
    Cal P w K mg base cl 3 "is_stretch" ["thing"] f_is_stretch :=
  cal_mk (g := m_is_stretch) (m := 2) F hm sc_is_stretch rfl (fun _ _ _ _ _ _ us hl => match us, hl with | [_], _ => rfl) fun cdv A outer s H E hr => by
    have tk : Takes (cxOf (L2.CX P w) P w K mg base ["thing", "low", "high"] "is_stretch" (defScope s_is_stretch) f cdv A outer s H E) (fun cls d _ H => E cls d H) := takes_of rfl rfl rfl rfl
    have po : PassesOwn (model P w) (cxOf (L2.CX P w) P w K mg base ["thing", "low", "high"] "is_stretch" (defScope s_is_stretch) f cdv A outer s H E).A (cxOf (L2.CX P w) P w K mg base ["thing", "low", "high"] "is_stretch" (defScope s_is_stretch) f cdv A outer s H E).env (cxOf (L2.CX P w) P w K mg base ["thing", "low", "high"] "is_stretch" (defScope s_is_stretch) f cdv A outer s H E).xe := passes_of rfl
    let cz : Cz := ⟨K, cl, fun _ => E⟩
    exact ⟨_, (bc (sif (xtnot (xt (xcal rfl C_is_group hr tk rfl (a1 (xv 0) (a1 xi a0))))) (b1 (sret xb)) b0)
      (bc (sasg (xv 0) (gtup rfl (gs1 (gx 1 sc_is_stretch.nd) (gs1 (gx 2 sc_is_stretch.nd) gs0))))
      (b1 (sret (xand (xcal rfl C_is_number hr tk rfl (a1 (xv 1) a0)) (xand (xcal rfl C_is_number hr tk rfl (a1 (xv 2) a0)) (xone (xcmp c_lt (xv 1) (xv 2)))))))))⟩
theorem sc_need : FnScope ["fit", "word"] ["fit", "word"] (defScope s_need) := ⟨rfl, rfl, rfl, by decide +kernel, rfl, by decide +kernel, by decide +kernel⟩
def m_need : Nv → RS :=
  (sIf (tNotF (tVal (eV 0))) (sRaise "NotUsable" "word" "at" (aCons (eV 1) (aCons (eUn (fun | .int i => some (.int (-i)) | _ => none) (eC (.int 1))) aNil))) sNext)
def f_need : Nv → Rs Rv := ary 2 (body 0 (m_need))
theorem ok_need {P : Program} {w : World} {K : PySem.W.Frag} {mg : Str → Option Value} {base : Heap} {cl : Str → Option Value} {f : Addr} {fd : FuncData} (F : Fun K "need" "need" s_need f fd) (hm : mg "need" = some (.ref f)) (T : Txt P w K mg base cl) :
    Cal P w K mg base cl 3 "need" ["fit", "word"] f_need :=
  cal_mk (g := m_need) (m := 0) F hm sc_need rfl (fun _ _ _ _ _ _ us hl => match us, hl with | [_, _], _ => rfl) fun cdv A outer s H E hr => by
    have tk : Takes (cxOf (L2.CX P w) P w K mg base ["fit", "word"] "need" (defScope s_need) f cdv A outer s H E) (fun cls d _ H => E cls d H) := takes_of rfl rfl rfl rfl
    have po : PassesOwn (model P w) (cxOf (L2.CX P w) P w K mg base ["fit", "word"] "need" (defScope s_need) f cdv A outer s H E).A (cxOf (L2.CX P w) P w K mg base ["fit", "word"] "need" (defScope s_need) f cdv A outer s H E).env (cxOf (L2.CX P w) P w K mg base ["fit", "word"] "need" (defScope s_need) f cdv A outer s H E).xe := passes_of rfl
    let cz : Cz := ⟨K, cl, fun _ => E⟩
    exact ⟨_, (b1 (sif (xtnot (xt (xv 0))) (b1 (sraise rfl T.x_NotUsable T.e_NotUsable hr tk rfl rfl (a1 (xv 1) (a1 (xneg xi) a0)))) b0))⟩
theorem sc_refuse : FnScope ["fault", "word", "at"] ["fault"] (defScope s_refuse) := ⟨rfl, rfl, rfl, by decide +kernel, rfl, by decide +kernel, by decide +kernel⟩
def m_refuse : Nv → RS :=
  (sIf (tVal (eIsN true (eV 0))) (sSeq (sAsg (eV 0) (gT 2 (gsC (gN 1) (gsC (gN 2) gsN))))
    (sRaise "InvalidPaper" "word" "at" (aCons (eV 1) (aCons (eV 2) aNil)))) sNext)
def f_refuse : Nv → Rs Rv := ary 1 (body 2 (m_refuse))
theorem ok_refuse {P : Program} {w : World} {K : PySem.W.Frag} {mg : Str → Option Value} {base : Heap} {cl : Str → Option Value} {f : Addr} {fd : FuncData} (F : Fun K "refuse" "refuse" s_refuse f fd) (hm : mg "refuse" = some (.ref f)) (T : Txt P w K mg base cl) :
    Cal P w K mg base cl 3 "refuse" ["fault"] f_refuse :=
  cal_mk (g := m_refuse) (m := 2) F hm sc_refuse rfl (fun _ _ _ _ _ _ us hl => match us, hl with | [_], _ => rfl) fun cdv A outer s H E hr => by
    have tk : Takes (cxOf (L2.CX P w) P w K mg base ["fault", "word", "at"] "refuse" (defScope s_refuse) f cdv A outer s H E) (fun cls d _ H => E cls d H) := takes_of rfl rfl rfl rfl
    have po : PassesOwn (model P w) (cxOf (L2.CX P w) P w K mg base ["fault", "word", "at"] "refuse" (defScope s_refuse) f cdv A outer s H E).A (cxOf (L2.CX P w) P w K mg base ["fault", "word", "at"] "refuse" (defScope s_refuse) f cdv A outer s H E).env (cxOf (L2.CX P w) P w K mg base ["fault", "word", "at"] "refuse" (defScope s_refuse) f cdv A outer s H E).xe := passes_of rfl
    let cz : Cz := ⟨K, cl, fun _ => E⟩
    exact ⟨_, (b1 (sif (xtisnn (xv 0)) (bc (sasg (xv 0) (gtup rfl (gs1 (gx 1 sc_refuse.nd) (gs1 (gx 2 sc_refuse.nd) gs0))))
      (b1 (sraise rfl T.x_InvalidPaper T.e_InvalidPaper hr tk rfl rfl (a1 (xv 1) (a1 (xv 2) a0))))) b0))⟩
theorem sc__is_queue_event : FnScope ["thing"] ["thing"] (defScope s__is_queue_event) := ⟨rfl, rfl, rfl, by decide +kernel, rfl, by decide +kernel, by decide +kernel⟩
def m__is_queue_event : Nv → RS :=
  (sSeq (sIf (tOrF (tNotF (tVal (eIsi "tuple" (eV 0)))) (tVal (eBin (gEq false) (eCb gLen (aCons (eV 0) aNil)) (eC (.int 0))))) (sRet (eC (.bool false))) sNext)
    (sSeq (sIf (tVal (eBin (gEq false) (eBin gIx (eV 0) (eC (.int 0))) (eC (.str "ask")))) (sRet (eBin (gEq false) (eCb gLen (aCons (eV 0) aNil)) (eC (.int 1)))) sNext)
    (sRet (eAnd (eBin (gIn false) (eBin gIx (eV 0) (eC (.int 0))) (eTup (aCons (eC (.str "put")) (aCons (eC (.str "drop")) aNil)))) (eAnd (eBin (gEq false) (eCb gLen (aCons (eV 0) aNil)) (eC (.int 2))) (eCall f_is_positive (aCons (eBin gIx (eV 0) (eC (.int 1))) aNil)))))))
def f__is_queue_event : Nv → Rs Rv := ary 1 (body 0 (m__is_queue_event))
theorem ok__is_queue_event {P : Program} {w : World} {K : PySem.W.Frag} {mg : Str → Option Value} {base : Heap} {cl : Str → Option Value} {f : Addr} {fd : FuncData} (F : Fun K "_is_queue_event" "_is_queue_event" s__is_queue_event f fd) (hm : mg "_is_queue_event" = some (.ref f)) (T : Txt P w K mg base cl) (C_is_positive : Cal P w K mg base cl 2 "is_positive" ["thing"] f_is_positive) :
    Cal P w K mg base cl 3 "_is_queue_event" ["thing"] f__is_queue_event :=
  cal_mk (g := m__is_queue_event) (m := 0) F hm sc__is_queue_event rfl (fun _ _ _ _ _ _ us hl => match us, hl with | [_], _ => rfl) fun cdv A outer s H E hr => by
    have tk : Takes (cxOf (L2.CX P w) P w K mg base ["thing"] "_is_queue_event" (defScope s__is_queue_event) f cdv A outer s H E) (fun cls d _ H => E cls d H) := takes_of rfl rfl rfl rfl
    have po : PassesOwn (model P w) (cxOf (L2.CX P w) P w K mg base ["thing"] "_is_queue_event" (defScope s__is_queue_event) f cdv A outer s H E).A (cxOf (L2.CX P w) P w K mg base ["thing"] "_is_queue_event" (defScope s__is_queue_event) f cdv A outer s H E).env (cxOf (L2.CX P w) P w K mg base ["thing"] "_is_queue_event" (defScope s__is_queue_event) f cdv A outer s H E).xe := passes_of rfl
    let cz : Cz := ⟨K, cl, fun _ => E⟩
    exact ⟨_, (bc (sif (xtw (wor (xtnot (xt (xisi kit_tuple rfl T.b.isinstance rfl T.b.tuple (by decide +kernel) (xv 0)))) (wor1 (xtcmp (c_eq hr) (xcb cr_len len_ok rfl T.b.len (by decide +kernel) (a1 (xv 0) a0)) xi)))) (b1 (sret xb)) b0)
      (bc (sif (xtcmp (c_eq hr) (xix (xv 0) xi) xs) (b1 (sret (xcmp (c_eq hr) (xcb cr_len len_ok rfl T.b.len (by decide +kernel) (a1 (xv 0) a0)) xi))) b0)
      (b1 (sret (xand (xcmp (c_in hr) (xix (xv 0) xi) (xtup (a1 xs (a1 xs a0)))) (xand (xcmp (c_eq hr) (xcb cr_len len_ok rfl T.b.len (by decide +kernel) (a1 (xv 0) a0)) xi) (xone (xcal rfl C_is_positive hr tk rfl (a1 (xix (xv 0) xi) a0)))))))))⟩
theorem sc__are_numbers : FnScope ["thing", "value"] ["thing"] (defScope s__are_numbers) := ⟨rfl, rfl, rfl, by decide +kernel, rfl, by decide +kernel, by decide +kernel⟩
def m__are_numbers : Nv → RS :=
  (sRet (eAnd (eIsi "tuple" (eV 0)) (eCb gAll (aCons (eOf (oComp [1] (iT (eV 0)) (gN 1) fYes (eCall f_is_number (aCons (eV 1) aNil)))) aNil))))
def f__are_numbers : Nv → Rs Rv := ary 1 (body 1 (m__are_numbers))
theorem ok__are_numbers {P : Program} {w : World} {K : PySem.W.Frag} {mg : Str → Option Value} {base : Heap} {cl : Str → Option Value} {f : Addr} {fd : FuncData} (F : Fun K "_are_numbers" "_are_numbers" s__are_numbers f fd) (hm : mg "_are_numbers" = some (.ref f)) (T : Txt P w K mg base cl) (C_is_number : Cal P w K mg base cl 2 "is_number" ["thing"] f_is_number) :
    Cal P w K mg base cl 3 "_are_numbers" ["thing"] f__are_numbers :=
  cal_mk (g := m__are_numbers) (m := 1) F hm sc__are_numbers rfl (fun _ _ _ _ _ _ us hl => match us, hl with | [_], _ => rfl) fun cdv A outer s H E hr => by
    have tk : Takes (cxOf (L2.CX P w) P w K mg base ["thing", "value"] "_are_numbers" (defScope s__are_numbers) f cdv A outer s H E) (fun cls d _ H => E cls d H) := takes_of rfl rfl rfl rfl
    have po : PassesOwn (model P w) (cxOf (L2.CX P w) P w K mg base ["thing", "value"] "_are_numbers" (defScope s__are_numbers) f cdv A outer s H E).A (cxOf (L2.CX P w) P w K mg base ["thing", "value"] "_are_numbers" (defScope s__are_numbers) f cdv A outer s H E).env (cxOf (L2.CX P w) P w K mg base ["thing", "value"] "_are_numbers" (defScope s__are_numbers) f cdv A outer s H E).xe := passes_of rfl
    let cz : Cz := ⟨K, cl, fun _ => E⟩
    exact ⟨_, (b1 (sret (xand (xisi kit_tuple rfl T.b.isinstance rfl T.b.tuple (by decide +kernel) (xv 0)) (xone (xcb (cr_all rfl) all_ok rfl T.b.all (by decide +kernel) (a1 (xof (ocomp (own := [("value", 1)]) rfl sc__are_numbers.nd (itup (xv 0)) (blkOk_of (N0 := ["thing", "value"]) (o0 := defScope s__are_numbers) rfl rfl (by decide +kernel)) (gin_name (by decide)) mono_name (fun _ _ _ _ _ => (gx 1 sc__are_numbers.nd)) (fun _ _ _ _ _ => t0) (fun _ _ _ _ _ => (xcalB rfl C_is_number hr rfl (a1 (xv 1) a0))) s H)) a0))))))⟩
theorem sc__law_checked : FnScope ["_law_thing", "_law_inside", "_law_k"] ["_law_thing"] (defScope s__law_checked) := ⟨rfl, rfl, rfl, by decide +kernel, rfl, by decide +kernel, by decide +kernel⟩
def lp__law_checked_0 : Nv → RS := (sSeq (sIf (tNotF (tVal (eCall f__law_event (aCons (eBin gIx (eV 0) (eV 2)) aNil)))) (sRet (eTup (aCons (eC (.str "paper")) (aCons (eC (.str "event")) (aCons (eV 2) (aCons (eC (.bool true)) aNil)))))) sNext)
    (sSeq (sIf (tVal (eBin (gEq false) (eBin gIx (eBin gIx (eV 0) (eV 2)) (eC (.int 0))) (eC (.str "put")))) (sSet 1 (eBin gAdd (eV 1) (eBin gIx (eBin gIx (eV 0) (eV 2)) (eC (.int 1))))) sNext)
    (sIf (tVal (eBin (gEq false) (eBin gIx (eBin gIx (eV 0) (eV 2)) (eC (.int 0))) (eC (.str "drop")))) (sSeq (sIf (tVal (eBin gGt (eBin gIx (eBin gIx (eV 0) (eV 2)) (eC (.int 1))) (eV 1))) (sRet (eTup (aCons (eC (.str "paper")) (aCons (eC (.str "drop")) (aCons (eV 2) (aCons (eC (.bool true)) aNil)))))) sNext)
    (sSet 1 (eBin Dl.gSub (eV 1) (eBin gIx (eBin gIx (eV 0) (eV 2)) (eC (.int 1)))))) sNext)))
def m__law_checked : Nv → RS :=
  (sSeq (sIf (tNotF (tVal (eIsi "tuple" (eV 0)))) (sRet (eTup (aCons (eC (.str "paper")) (aCons (eC (.str "shape")) (aCons (eUn (fun | .int i => some (.int (-i)) | _ => none) (eC (.int 1))) (aCons (eC (.bool true)) aNil)))))) sNext)
    (sSeq (sSet 1 (eC (.int 0)))
    (sSeq (sFor (iR1 (aCons (eCb gLen (aCons (eV 0) aNil)) aNil)) (gN 2) (lp__law_checked_0))
    (sRet (eTup (aCons (eC (.str "ok")) (aCons (eV 1) aNil)))))))
def f__law_checked : Nv → Rs Rv := ary 1 (body 2 (m__law_checked))
theorem ok__law_checked {P : Program} {w : World} {K : PySem.W.Frag} {mg : Str → Option Value} {base : Heap} {cl : Str → Option Value} {f : Addr} {fd : FuncData} (F : Fun K "_law_checked" "_law_checked" s__law_checked f fd) (hm : mg "_law_checked" = some (.ref f)) (T : Txt P w K mg base cl) (C__law_event : Cal P w K mg base cl 2 "_law_event" ["_law_thing"] f__law_event) :
    Cal P w K mg base cl 3 "_law_checked" ["_law_thing"] f__law_checked :=
  cal_mk (g := m__law_checked) (m := 2) F hm sc__law_checked rfl (fun _ _ _ _ _ _ us hl => match us, hl with | [_], _ => rfl) fun cdv A outer s H E hr => by
    have tk : Takes (cxOf (L2.CX P w) P w K mg base ["_law_thing", "_law_inside", "_law_k"] "_law_checked" (defScope s__law_checked) f cdv A outer s H E) (fun cls d _ H => E cls d H) := takes_of rfl rfl rfl rfl
    have po : PassesOwn (model P w) (cxOf (L2.CX P w) P w K mg base ["_law_thing", "_law_inside", "_law_k"] "_law_checked" (defScope s__law_checked) f cdv A outer s H E).A (cxOf (L2.CX P w) P w K mg base ["_law_thing", "_law_inside", "_law_k"] "_law_checked" (defScope s__law_checked) f cdv A outer s H E).env (cxOf (L2.CX P w) P w K mg base ["_law_thing", "_law_inside", "_law_k"] "_law_checked" (defScope s__law_checked) f cdv A outer s H E).xe := passes_of rfl
    let cz : Cz := ⟨K, cl, fun _ => E⟩
    exact ⟨_, (bc (sif (xtnot (xt (xisi kit_tuple rfl T.b.isinstance rfl T.b.tuple (by decide +kernel) (xv 0)))) (b1 (sret (xtup (a1 xs (a1 xs (a1 (xneg xi) (a1 xb a0))))))) b0)
      (bc (sset 1 sc__law_checked.nd xi)
      (bc (sfor po rfl (irng1 rfl T.b.range (a1 (xcb cr_len len_ok rfl T.b.len (by decide +kernel) (a1 (xv 0) a0)) a0)) (gx 2 sc__law_checked.nd) (bc (sif (xtnot (xt (xcal rfl C__law_event hr tk rfl (a1 (xix (xv 0) (xv 2)) a0)))) (b1 (sret (xtup (a1 xs (a1 xs (a1 (xv 2) (a1 xb a0))))))) b0)
      (bc (sif (xtcmp (c_eq hr) (xix (xix (xv 0) (xv 2)) xi) xs) (b1 (sset 1 sc__law_checked.nd (xadd (xv 1) (xix (xix (xv 0) (xv 2)) xi)))) b0)
      (b1 (sif (xtcmp (c_eq hr) (xix (xix (xv 0) (xv 2)) xi) xs) (bc (sif (xtcmp c_gt (xix (xix (xv 0) (xv 2)) xi) (xv 1)) (b1 (sret (xtup (a1 xs (a1 xs (a1 (xv 2) (a1 xb a0))))))) b0)
      (b1 (sset 1 sc__law_checked.nd (xsub (xv 1) (xix (xix (xv 0) (xv 2)) xi))))) b0)))))
      (b1 (sret (xtup (a1 xs (a1 (xv 1) a0))))))))⟩
theorem sc_asks_fault : FnScope ["thing", "at", "ask"] ["thing"] (defScope s_asks_fault) := ⟨rfl, rfl, rfl, by decide +kernel, rfl, by decide +kernel, by decide +kernel⟩
def lp_asks_fault_0 : Nv → RS := (sSeq (sIf (tNotF (tVal (eCall f_is_stretch (aCons (eV 2) aNil)))) (sRet (eTup (aCons (eC (.str "ask")) (aCons (eV 1) aNil)))) sNext)
    (sIf (tAndF (tVal (eBin gGt (eV 1) (eC (.int 0)))) (tNotF (tVal (eBin gLtT (eBin gIx (eV 0) (eBin Dl.gSub (eV 1) (eC (.int 1)))) (eV 2))))) (sRet (eTup (aCons (eC (.str "order")) (aCons (eV 1) aNil)))) sNext))
def m_asks_fault : Nv → RS :=
  (sSeq (sIf (tNotF (tVal (eIsi "tuple" (eV 0)))) (sRet (eTup (aCons (eC (.str "shape")) (aCons (eUn (fun | .int i => some (.int (-i)) | _ => none) (eC (.int 1))) aNil)))) sNext)
    (sSeq (sFor (iEn (aCons (eV 0) aNil)) (gT 2 (gsC (gN 1) (gsC (gN 2) gsN))) (lp_asks_fault_0))
    (sRet (eC .none))))
def f_asks_fault : Nv → Rs Rv := ary 1 (body 2 (m_asks_fault))
theorem ok_asks_fault {P : Program} {w : World} {K : PySem.W.Frag} {mg : Str → Option Value} {base : Heap} {cl : Str → Option Value} {f : Addr} {fd : FuncData} (F : Fun K "asks_fault" "asks_fault" s_asks_fault f fd) (hm : mg "asks_fault" = some (.ref f)) (T : Txt P w K mg base cl) (C_is_stretch : Cal P w K mg base cl 3 "is_stretch" ["thing"] f_is_stretch) :
    Cal P w K mg base cl 4 "asks_fault" ["thing"] f_asks_fault :=
  cal_mk (g := m_asks_fault) (m := 2) F hm sc_asks_fault rfl (fun _ _ _ _ _ _ us hl => match us, hl with | [_], _ => rfl) fun cdv A outer s H E hr => by
    have tk : Takes (cxOf (L2.CX P w) P w K mg base ["thing", "at", "ask"] "asks_fault" (defScope s_asks_fault) f cdv A outer s H E) (fun cls d _ H => E cls d H) := takes_of rfl rfl rfl rfl
    have po : PassesOwn (model P w) (cxOf (L2.CX P w) P w K mg base ["thing", "at", "ask"] "asks_fault" (defScope s_asks_fault) f cdv A outer s H E).A (cxOf (L2.CX P w) P w K mg base ["thing", "at", "ask"] "asks_fault" (defScope s_asks_fault) f cdv A outer s H E).env (cxOf (L2.CX P w) P w K mg base ["thing", "at", "ask"] "asks_fault" (defScope s_asks_fault) f cdv A outer s H E).xe := passes_of rfl
    let cz : Cz := ⟨K, cl, fun _ => E⟩
    exact ⟨_, (bc (sif (xtnot (xt (xisi kit_tuple rfl T.b.isinstance rfl T.b.tuple (by decide +kernel) (xv 0)))) (b1 (sret (xtup (a1 xs (a1 (xneg xi) a0))))) b0)
      (bc (sfor po rfl (ienum rfl T.b.enumerate (a1 (xv 0) a0)) (gtup rfl (gs1 (gx 1 sc_asks_fault.nd) (gs1 (gx 2 sc_asks_fault.nd) gs0))) (bc (sif (xtnot (xt (xcal rfl C_is_stretch hr tk rfl (a1 (xv 2) a0)))) (b1 (sret (xtup (a1 xs (a1 (xv 1) a0))))) b0)
      (b1 (sif (xtw (wand (xtcmp c_gt (xv 1) xi) (wand1 (xtnot (xtcmp (c_ltT hr) (xix (xv 0) (xsub (xv 1) xi)) (xv 2)))))) (b1 (sret (xtup (a1 xs (a1 (xv 1) a0))))) b0))))
      (b1 (sret xn))))⟩
theorem sc_asks_of : FnScope ["stretches", "at", "stretch"] ["stretches"] (defScope s_asks_of) := ⟨rfl, rfl, rfl, by decide +kernel, rfl, by decide +kernel, by decide +kernel⟩
def lp_asks_of_0 : Nv → RS := (sIf (tNotF (tVal (eCall f_is_stretch (aCons (eV 2) aNil)))) (sRaise "NotUsable" "word" "at" (aCons (eC (.str "stretches")) (aCons (eV 1) aNil))) sNext)
def m_asks_of : Nv → RS :=
  (sSeq (sFor (iEn (aCons (eV 0) aNil)) (gT 2 (gsC (gN 1) (gsC (gN 2) gsN))) (lp_asks_of_0))
    (sRet (eCb gTupOf (aCons (eOf (oCb gSetQ (aCons (eV 0) aNil))) aNil))))
def f_asks_of : Nv → Rs Rv := ary 1 (body 2 (m_asks_of))
theorem ok_asks_of {P : Program} {w : World} {K : PySem.W.Frag} {mg : Str → Option Value} {base : Heap} {cl : Str → Option Value} {f : Addr} {fd : FuncData} (F : Fun K "asks_of" "asks_of" s_asks_of f fd) (hm : mg "asks_of" = some (.ref f)) (T : Txt P w K mg base cl) (C_is_stretch : Cal P w K mg base cl 3 "is_stretch" ["thing"] f_is_stretch) :
    CalSt P w K mg base cl 4 "asks_of" f_asks_of :=
  calSt_mk (g := m_asks_of) (m := 2) F hm sc_asks_of rfl (fun _ _ _ _ _ _ us rest hl => match us, rest, hl with | [], [], _ => rfl | [], _ :: _, _ => rfl) fun cdv A outer s H E hr => by
    have tk : Takes (cxOf (L2.CX P w) P w K mg base ["stretches", "at", "stretch"] "asks_of" (defScope s_asks_of) f cdv A outer s H E) (fun cls d _ H => E cls d H) := takes_of rfl rfl rfl rfl
    have po : PassesOwn (model P w) (cxOf (L2.CX P w) P w K mg base ["stretches", "at", "stretch"] "asks_of" (defScope s_asks_of) f cdv A outer s H E).A (cxOf (L2.CX P w) P w K mg base ["stretches", "at", "stretch"] "asks_of" (defScope s_asks_of) f cdv A outer s H E).env (cxOf (L2.CX P w) P w K mg base ["stretches", "at", "stretch"] "asks_of" (defScope s_asks_of) f cdv A outer s H E).xe := passes_of rfl
    let cz : Cz := ⟨K, cl, fun _ => E⟩
    exact ⟨_, (bc (sfor po rfl (ienum rfl T.b.enumerate (a1 (xv 0) a0)) (gtup rfl (gs1 (gx 1 sc_asks_of.nd) (gs1 (gx 2 sc_asks_of.nd) gs0))) (b1 (sif (xtnot (xt (xcal rfl C_is_stretch hr tk rfl (a1 (xv 2) a0)))) (b1 (sraise rfl T.x_NotUsable T.e_NotUsable hr tk rfl rfl (a1 xs (a1 (xv 1) a0)))) b0)))
      (b1 (sret (xct call_tuple_of tupOf_ok rfl T.b.tuple (by decide +kernel) (a1 (xof (osetQ hr rfl T.b rfl rfl (a1 (xv 0) a0))) a0)))))⟩
theorem sc__history_fault : FnScope ["thing", "inside", "at", "event"] ["thing"] (defScope s__history_fault) := ⟨rfl, rfl, rfl, by decide +kernel, rfl, by decide +kernel, by decide +kernel⟩
def lp__history_fault_0 : Nv → RS := (sSeq (sIf (tNotF (tVal (eCall f__is_queue_event (aCons (eV 3) aNil)))) (sRet (eTup (aCons (eC (.str "event")) (aCons (eV 2) aNil)))) sNext)
    (sSeq (sAug (fun a b => a + b) 1 (eCall f__growth (aCons (eV 3) aNil)))
    (sIf (tVal (eBin gLt (eV 1) (eC (.int 0)))) (sRet (eTup (aCons (eC (.str "drop")) (aCons (eV 2) aNil)))) sNext)))
def m__history_fault : Nv → RS :=
  (sSeq (sIf (tNotF (tVal (eIsi "tuple" (eV 0)))) (sRet (eTup (aCons (eC (.str "shape")) (aCons (eUn (fun | .int i => some (.int (-i)) | _ => none) (eC (.int 1))) aNil)))) sNext)
    (sSeq (sSet 1 (eC (.int 0)))
    (sSeq (sFor (iEn (aCons (eV 0) aNil)) (gT 2 (gsC (gN 2) (gsC (gN 3) gsN))) (lp__history_fault_0))
    (sRet (eC .none)))))
def f__history_fault : Nv → Rs Rv := ary 1 (body 3 (m__history_fault))
theorem ok__history_fault {P : Program} {w : World} {K : PySem.W.Frag} {mg : Str → Option Value} {base : Heap} {cl : Str → Option Value} {f : Addr} {fd : FuncData} (F : Fun K "_history_fault" "_history_fault" s__history_fault f fd) (hm : mg "_history_fault" = some (.ref f)) (T : Txt P w K mg base cl) (C__growth : Cal P w K mg base cl 1 "_growth" ["event"] f__growth) (C__is_queue_event : Cal P w K mg base cl 3 "_is_queue_event" ["thing"] f__is_queue_event) :
    Cal P w K mg base cl 4 "_history_fault" ["thing"] f__history_fault :=
  cal_mk (g := m__history_fault) (m := 3) F hm sc__history_fault rfl (fun _ _ _ _ _ _ us hl => match us, hl with | [_], _ => rfl) fun cdv A outer s H E hr => by
    have tk : Takes (cxOf (L2.CX P w) P w K mg base ["thing", "inside", "at", "event"] "_history_fault" (defScope s__history_fault) f cdv A outer s H E) (fun cls d _ H => E cls d H) := takes_of rfl rfl rfl rfl
    have po : PassesOwn (model P w) (cxOf (L2.CX P w) P w K mg base ["thing", "inside", "at", "event"] "_history_fault" (defScope s__history_fault) f cdv A outer s H E).A (cxOf (L2.CX P w) P w K mg base ["thing", "inside", "at", "event"] "_history_fault" (defScope s__history_fault) f cdv A outer s H E).env (cxOf (L2.CX P w) P w K mg base ["thing", "inside", "at", "event"] "_history_fault" (defScope s__history_fault) f cdv A outer s H E).xe := passes_of rfl
    let cz : Cz := ⟨K, cl, fun _ => E⟩
    exact ⟨_, (bc (sif (xtnot (xt (xisi kit_tuple rfl T.b.isinstance rfl T.b.tuple (by decide +kernel) (xv 0)))) (b1 (sret (xtup (a1 xs (a1 (xneg xi) a0))))) b0)
      (bc (sset 1 sc__history_fault.nd xi)
      (bc (sfor po rfl (ienum rfl T.b.enumerate (a1 (xv 0) a0)) (gtup rfl (gs1 (gx 2 sc__history_fault.nd) (gs1 (gx 3 sc__history_fault.nd) gs0))) (bc (sif (xtnot (xt (xcal rfl C__is_queue_event hr tk rfl (a1 (xv 3) a0)))) (b1 (sret (xtup (a1 xs (a1 (xv 2) a0))))) b0)
      (bc (saugA 1 sc__history_fault.nd (xcal rfl C__growth hr tk rfl (a1 (xv 3) a0)))
      (b1 (sif (xtcmp c_lt (xv 1) xi) (b1 (sret (xtup (a1 xs (a1 (xv 2) a0))))) b0)))))
      (b1 (sret xn)))))⟩
theorem sc_steady_asks : FnScope ["width", "hop", "many", "at"] ["width", "hop", "many"] (defScope s_steady_asks) := ⟨rfl, rfl, rfl, by decide +kernel, rfl, by decide +kernel, by decide +kernel⟩
def m_steady_asks : Nv → RS :=
  (sSeq (sExpr (eCall f_need (aCons (eCall f_is_positive (aCons (eV 0) aNil)) (aCons (eC (.str "width")) aNil))))
    (sSeq (sExpr (eCall f_need (aCons (eCall f_is_positive (aCons (eV 1) aNil)) (aCons (eC (.str "hop")) aNil))))
    (sSeq (sExpr (eCall f_need (aCons (eCall f_is_number (aCons (eV 2) aNil)) (aCons (eC (.str "many")) aNil))))
    (sRet (eCb gTupOf (aCons (eOf (oComp [3] (iR1 (aCons (eV 2) aNil)) (gN 3) fYes (eTup (aCons (eBin gMul (eV 3) (eV 1)) (aCons (eBin gAdd (eBin gMul (eV 3) (eV 1)) (eV 0)) aNil))))) aNil))))))
def f_steady_asks : Nv → Rs Rv := ary 3 (body 1 (m_steady_asks))
theorem ok_steady_asks {P : Program} {w : World} {K : PySem.W.Frag} {mg : Str → Option Value} {base : Heap} {cl : Str → Option Value} {f : Addr} {fd : FuncData} (F : Fun K "steady_asks" "steady_asks" s_steady_asks f fd) (hm : mg "steady_asks" = some (.ref f)) (T : Txt P w K mg base cl) (C_need : Cal P w K mg base cl 3 "need" ["fit", "word"] f_need) (C_is_positive : Cal P w K mg base cl 2 "is_positive" ["thing"] f_is_positive) (C_is_number : Cal P w K mg base cl 2 "is_number" ["thing"] f_is_number) :
    Cal P w K mg base cl 4 "steady_asks" ["width", "hop", "many"] f_steady_asks :=
  cal_mk (g := m_steady_asks) (m := 1) F hm sc_steady_asks rfl (fun _ _ _ _ _ _ us hl => match us, hl with | [_, _, _], _ => rfl) fun cdv A outer s H E hr => by
    have tk : Takes (cxOf (L2.CX P w) P w K mg base ["width", "hop", "many", "at"] "steady_asks" (defScope s_steady_asks) f cdv A outer s H E) (fun cls d _ H => E cls d H) := takes_of rfl rfl rfl rfl
    have po : PassesOwn (model P w) (cxOf (L2.CX P w) P w K mg base ["width", "hop", "many", "at"] "steady_asks" (defScope s_steady_asks) f cdv A outer s H E).A (cxOf (L2.CX P w) P w K mg base ["width", "hop", "many", "at"] "steady_asks" (defScope s_steady_asks) f cdv A outer s H E).env (cxOf (L2.CX P w) P w K mg base ["width", "hop", "many", "at"] "steady_asks" (defScope s_steady_asks) f cdv A outer s H E).xe := passes_of rfl
    let cz : Cz := ⟨K, cl, fun _ => E⟩
    exact ⟨_, (bc (sexp (xcal rfl C_need hr tk rfl (a1 (xcal rfl C_is_positive hr tk rfl (a1 (xv 0) a0)) (a1 xs a0))))
      (bc (sexp (xcal rfl C_need hr tk rfl (a1 (xcal rfl C_is_positive hr tk rfl (a1 (xv 1) a0)) (a1 xs a0))))
      (bc (sexp (xcal rfl C_need hr tk rfl (a1 (xcal rfl C_is_number hr tk rfl (a1 (xv 2) a0)) (a1 xs a0))))
      (b1 (sret (xct call_tuple_of tupOf_ok rfl T.b.tuple (by decide +kernel) (a1 (xof (ocomp (own := [("at", 3)]) rfl sc_steady_asks.nd (irng1 rfl T.b.range (a1 (xv 2) a0)) (blkOk_of (N0 := ["width", "hop", "many", "at"]) (o0 := defScope s_steady_asks) rfl rfl (by decide +kernel)) (gin_name (by decide)) mono_name (fun _ _ _ _ _ => (gx 3 sc_steady_asks.nd)) (fun _ _ _ _ _ => t0) (fun _ _ _ _ _ => (xtup (a1 (xmul (xv 3) (xv 1)) (a1 (xadd (xmul (xv 3) (xv 1)) (xv 0)) a0)))) s H)) a0)))))))⟩
theorem sc_calendar_asks : FnScope ["widths", "row", "begin", "at", "width"] ["widths"] (defScope s_calendar_asks) := ⟨rfl, rfl, rfl, by decide +kernel, rfl, by decide +kernel, by decide +kernel⟩
def lp_calendar_asks_0 : Nv → RS := (sSeq (sSet 2 (eCb gMax2 (aCons (eV 2) (aCons (eBin Dl.gSub (eBin gAdd (eV 3) (eC (.int 1))) (eV 4)) aNil))))
    (sApp 1 (aCons (eTup (aCons (eV 2) (aCons (eBin gAdd (eV 3) (eC (.int 1))) aNil))) aNil)))
def m_calendar_asks : Nv → RS :=
  (sSeq (sExpr (eCall f_need (aCons (eAnd (eIsi "tuple" (eV 0)) (eCb gAll (aCons (eOf (oComp [4] (iT (eV 0)) (gN 4) fYes (eCall f_is_positive (aCons (eV 4) aNil)))) aNil))) (aCons (eC (.str "widths")) aNil))))
    (sSeq (sNew 1 (oLst aNil))
    (sSeq (sSet 2 (eC (.int 0)))
    (sSeq (sFor (iEn (aCons (eV 0) aNil)) (gT 2 (gsC (gN 3) (gsC (gN 4) gsN))) (lp_calendar_asks_0))
    (sRet (eCb gTupOf (aCons (eV 1) aNil)))))))
def f_calendar_asks : Nv → Rs Rv := ary 1 (body 4 (m_calendar_asks))
theorem ok_calendar_asks {P : Program} {w : World} {K : PySem.W.Frag} {mg : Str → Option Value} {base : Heap} {cl : Str → Option Value} {f : Addr} {fd : FuncData} (F : Fun K "calendar_asks" "calendar_asks" s_calendar_asks f fd) (hm : mg "calendar_asks" = some (.ref f)) (T : Txt P w K mg base cl) (C_need : Cal P w K mg base cl 3 "need" ["fit", "word"] f_need) (C_is_positive : Cal P w K mg base cl 2 "is_positive" ["thing"] f_is_positive) :
    Cal P w K mg base cl 4 "calendar_asks" ["widths"] f_calendar_asks :=
  cal_mk (g := m_calendar_asks) (m := 4) F hm sc_calendar_asks rfl (fun _ _ _ _ _ _ us hl => match us, hl with | [_], _ => rfl) fun cdv A outer s H E hr => by
    have tk : Takes (cxOf (L2.CX P w) P w K mg base ["widths", "row", "begin", "at", "width"] "calendar_asks" (defScope s_calendar_asks) f cdv A outer s H E) (fun cls d _ H => E cls d H) := takes_of rfl rfl rfl rfl
    have po : PassesOwn (model P w) (cxOf (L2.CX P w) P w K mg base ["widths", "row", "begin", "at", "width"] "calendar_asks" (defScope s_calendar_asks) f cdv A outer s H E).A (cxOf (L2.CX P w) P w K mg base ["widths", "row", "begin", "at", "width"] "calendar_asks" (defScope s_calendar_asks) f cdv A outer s H E).env (cxOf (L2.CX P w) P w K mg base ["widths", "row", "begin", "at", "width"] "calendar_asks" (defScope s_calendar_asks) f cdv A outer s H E).xe := passes_of rfl
    let cz : Cz := ⟨K, cl, fun _ => E⟩
    exact ⟨_, (bc (sexp (xcal rfl C_need hr tk rfl (a1 (xand (xisi kit_tuple rfl T.b.isinstance rfl T.b.tuple (by decide +kernel) (xv 0)) (xone (xcb (cr_all rfl) all_ok rfl T.b.all (by decide +kernel) (a1 (xof (ocomp (own := [("width", 4)]) rfl sc_calendar_asks.nd (itup (xv 0)) (blkOk_of (N0 := ["widths", "row", "begin", "at", "width"]) (o0 := defScope s_calendar_asks) rfl rfl (by decide +kernel)) (gin_name (by decide)) mono_name (fun _ _ _ _ _ => (gx 4 sc_calendar_asks.nd)) (fun _ _ _ _ _ => t0) (fun _ _ _ _ _ => (xcalB rfl C_is_positive hr rfl (a1 (xv 4) a0))) s H)) a0)))) (a1 xs a0))))
      (bc (snew 1 sc_calendar_asks.nd (olst a0))
      (bc (sset 2 sc_calendar_asks.nd xi)
      (bc (sfor po rfl (ienum rfl T.b.enumerate (a1 (xv 0) a0)) (gtup rfl (gs1 (gx 3 sc_calendar_asks.nd) (gs1 (gx 4 sc_calendar_asks.nd) gs0))) (bc (sset 2 sc_calendar_asks.nd (xcb (call_max2 rfl) max2_ok rfl T.b.max (by decide +kernel) (a1 (xv 2) (a1 (xsub (xadd (xv 3) xi) (xv 4)) a0))))
      (b1 (sappn 1 (xv 1) (a1 (xtup (a1 (xv 2) (a1 (xadd (xv 3) xi) a0))) a0)))))
      (b1 (sret (xct call_tuple_of tupOf_ok rfl T.b.tuple (by decide +kernel) (a1 (xv 1) a0))))))))⟩
theorem sc__are_times : FnScope ["thing", "one", "other"] ["thing"] (defScope s__are_times) := ⟨rfl, rfl, rfl, by decide +kernel, rfl, by decide +kernel, by decide +kernel⟩
def m__are_times : Nv → RS :=
  (sRet (eAnd (eCall f__are_numbers (aCons (eV 0) aNil)) (eCb gAll (aCons (eOf (oComp [1, 2] (iZp (aCons (eV 0) (aCons (eSl (eV 0) (pS (eC (.int 1))) pN) aNil))) (gT 2 (gsC (gN 1) (gsC (gN 2) gsN))) fYes (eBin gLe (eV 1) (eV 2)))) aNil))))
def f__are_times : Nv → Rs Rv := ary 1 (body 2 (m__are_times))
theorem ok__are_times {P : Program} {w : World} {K : PySem.W.Frag} {mg : Str → Option Value} {base : Heap} {cl : Str → Option Value} {f : Addr} {fd : FuncData} (F : Fun K "_are_times" "_are_times" s__are_times f fd) (hm : mg "_are_times" = some (.ref f)) (T : Txt P w K mg base cl) (C__are_numbers : Cal P w K mg base cl 3 "_are_numbers" ["thing"] f__are_numbers) :
    Cal P w K mg base cl 4 "_are_times" ["thing"] f__are_times :=
  cal_mk (g := m__are_times) (m := 2) F hm sc__are_times rfl (fun _ _ _ _ _ _ us hl => match us, hl with | [_], _ => rfl) fun cdv A outer s H E hr => by
    have tk : Takes (cxOf (L2.CX P w) P w K mg base ["thing", "one", "other"] "_are_times" (defScope s__are_times) f cdv A outer s H E) (fun cls d _ H => E cls d H) := takes_of rfl rfl rfl rfl
    have po : PassesOwn (model P w) (cxOf (L2.CX P w) P w K mg base ["thing", "one", "other"] "_are_times" (defScope s__are_times) f cdv A outer s H E).A (cxOf (L2.CX P w) P w K mg base ["thing", "one", "other"] "_are_times" (defScope s__are_times) f cdv A outer s H E).env (cxOf (L2.CX P w) P w K mg base ["thing", "one", "other"] "_are_times" (defScope s__are_times) f cdv A outer s H E).xe := passes_of rfl
    let cz : Cz := ⟨K, cl, fun _ => E⟩
    exact ⟨_, (b1 (sret (xand (xcal rfl C__are_numbers hr tk rfl (a1 (xv 0) a0)) (xone (xcb (cr_all rfl) all_ok rfl T.b.all (by decide +kernel) (a1 (xof (ocomp (own := [("one", 1), ("other", 2)]) rfl sc__are_times.nd (izip rfl T.b.zip (a1 (xv 0) (a1 (xsl (xv 0) (p_so xi) p_no) a0))) (blkOk_of (N0 := ["thing", "one", "other"]) (o0 := defScope s__are_times) rfl rfl (by decide +kernel)) (gin_tup (gsin_cons (gin_name (by decide)) mono_name (gsin_cons (gin_name (by decide)) mono_name gsin_nil))) mono_tup2 (fun _ _ _ _ _ => (gtup rfl (gs1 (gx 1 sc__are_times.nd) (gs1 (gx 2 sc__are_times.nd) gs0)))) (fun _ _ _ _ _ => t0) (fun _ _ _ _ _ => (xcmp c_le (xv 1) (xv 2))) s H)) a0))))))⟩
theorem sc__law_steps : FnScope ["_law_told", "_law_row_here", "_law_stage", "_law_asked", "_law_event_here"] ["_law_told", "_law_row_here"] (defScope s__law_steps) := ⟨rfl, rfl, rfl, by decide +kernel, rfl, by decide +kernel, by decide +kernel⟩
def lp__law_steps_0 : Nv → RS := (sIf (tVal (eBin (gEq false) (eBin gIx (eV 4) (eC (.int 0))) (eC (.str "ask")))) (sSeq (sSet 2 (eC (.int 0)))
    (sSet 3 (eBin gAdd (eV 3) (eC (.int 1))))) (sIf (tVal (eBin gGe (eV 2) (eBin gAdd (eC (.int 1)) (eCb gInt (aCons (eBin (gEq false) (eBin gIx (eV 4) (eC (.int 0))) (eC (.str "drop"))) aNil))))) (sRet (eC (.bool false))) (sSet 2 (eBin gAdd (eC (.int 1)) (eCb gInt (aCons (eBin (gEq false) (eBin gIx (eV 4) (eC (.int 0))) (eC (.str "drop"))) aNil))))))
def m__law_steps : Nv → RS :=
  (sSeq (sIf (tOrF (tVal (eBin (gEq true) (eBin gIx (eCall f__law_checked (aCons (eV 0) aNil)) (eC (.int 0))) (eC (.str "ok")))) (tVal (eBin (gEq true) (eBin gIx (eCall f__law_play (aCons (eV 0) aNil)) (eC (.int 0))) (eOf (oCb gLstOf (aCons (eV 1) aNil)))))) (sRet (eC (.bool false))) sNext)
    (sSeq (sSet 2 (eC (.int 0)))
    (sSeq (sSet 3 (eC (.int 0)))
    (sSeq (sFor (iT (eV 0)) (gN 4) (lp__law_steps_0))
    (sRet (eAnd (eBin (gEq false) (eV 2) (eC (.int 0))) (eBin (gEq false) (eV 3) (eCb gLen (aCons (eV 1) aNil)))))))))
def f__law_steps : Nv → Rs Rv := ary 2 (body 3 (m__law_steps))
theorem ok__law_steps {P : Program} {w : World} {K : PySem.W.Frag} {mg : Str → Option Value} {base : Heap} {cl : Str → Option Value} {f : Addr} {fd : FuncData} (F : Fun K "_law_steps" "_law_steps" s__law_steps f fd) (hm : mg "_law_steps" = some (.ref f)) (T : Txt P w K mg base cl) (C__law_checked : Cal P w K mg base cl 3 "_law_checked" ["_law_thing"] f__law_checked) (C__law_play : Cal P w K mg base cl 1 "_law_play" ["_law_events_here"] f__law_play) :
    Cal P w K mg base cl 4 "_law_steps" ["_law_told", "_law_row_here"] f__law_steps :=
  cal_mk (g := m__law_steps) (m := 3) F hm sc__law_steps rfl (fun _ _ _ _ _ _ us hl => match us, hl with | [_, _], _ => rfl) fun cdv A outer s H E hr => by
    have tk : Takes (cxOf (L2.CX P w) P w K mg base ["_law_told", "_law_row_here", "_law_stage", "_law_asked", "_law_event_here"] "_law_steps" (defScope s__law_steps) f cdv A outer s H E) (fun cls d _ H => E cls d H) := takes_of rfl rfl rfl rfl
    have po : PassesOwn (model P w) (cxOf (L2.CX P w) P w K mg base ["_law_told", "_law_row_here", "_law_stage", "_law_asked", "_law_event_here"] "_law_steps" (defScope s__law_steps) f cdv A outer s H E).A (cxOf (L2.CX P w) P w K mg base ["_law_told", "_law_row_here", "_law_stage", "_law_asked", "_law_event_here"] "_law_steps" (defScope s__law_steps) f cdv A outer s H E).env (cxOf (L2.CX P w) P w K mg base ["_law_told", "_law_row_here", "_law_stage", "_law_asked", "_law_event_here"] "_law_steps" (defScope s__law_steps) f cdv A outer s H E).xe := passes_of rfl
    let cz : Cz := ⟨K, cl, fun _ => E⟩
    exact ⟨_, (bc (sif (xtw (wor (xtcmp (c_ne hr) (xix (xcal rfl C__law_checked hr tk rfl (a1 (xv 0) a0)) xi) xs) (wor1 (xtcmp (c_ne hr) (xix (xcal rfl C__law_play hr tk rfl (a1 (xv 0) a0)) xi) (xof (oct call_list_of lstOf_ok rfl T.b.list (by decide +kernel) (a1 (xv 1) a0))))))) (b1 (sret xb)) b0)
      (bc (sset 2 sc__law_steps.nd xi)
      (bc (sset 3 sc__law_steps.nd xi)
      (bc (sfor po rfl (itup (xv 0)) (gx 4 sc__law_steps.nd) (b1 (sif (xtcmp (c_eq hr) (xix (xv 4) xi) xs) (bc (sset 2 sc__law_steps.nd xi)
      (b1 (sset 3 sc__law_steps.nd (xadd (xv 3) xi)))) (b1 (sif (xtcmp c_ge (xv 2) (xadd xi (xct call_int1 int_ok rfl T.b.int (by decide +kernel) (a1 (xcmp (c_eq hr) (xix (xv 4) xi) xs) a0)))) (b1 (sret xb)) (b1 (sset 2 sc__law_steps.nd (xadd xi (xct call_int1 int_ok rfl T.b.int (by decide +kernel) (a1 (xcmp (c_eq hr) (xix (xv 4) xi) xs) a0))))))))))
      (b1 (sret (xand (xcmp (c_eq hr) (xv 2) xi) (xone (xcmp (c_eq hr) (xv 3) (xcb cr_len len_ok rfl T.b.len (by decide +kernel) (a1 (xv 1) a0)))))))))))⟩
theorem sc__law_spoilt : FnScope ["_law_events_here", "_law_pick", "_law_at", "_law_inside", "_law_bads", "_law_bad", "_law_worse", "_law_head", "_law_tail", "_law_things"] ["_law_events_here", "_law_pick"] (defScope s__law_spoilt) := ⟨rfl, rfl, rfl, by decide +kernel, rfl, by decide +kernel, by decide +kernel⟩
def m__law_spoilt : Nv → RS :=
  (sSeq (sSet 2 (eBin gMod (eCb gInt (aCons (eV 1) aNil)) (eBin gAdd (eCb gLen (aCons (eV 0) aNil)) (eC (.int 1)))))
    (sSeq (sSet 3 (eBin gIx (eCall f__law_checked (aCons (eSl (eV 0) pN (pS (eV 2))) aNil)) (eC (.int 1))))
    (sSeq (sNew 4 (oLst (aCons (eTup (aCons (eC (.str "put")) (aCons (eC (.int 0)) aNil))) (aCons (eTup (aCons (eC (.str "put")) (aCons (eC (.bool true)) aNil))) (aCons (eTup (aCons (eC (.str "put")) aNil)) (aCons (eTup (aCons (eC (.str "ask")) (aCons (eC (.int 1)) aNil))) (aCons (eOf (oLst (aCons (eC (.str "ask")) aNil))) (aCons (eTup (aCons (eC (.str "drop")) (aCons (eUn (fun | .int i => some (.int (-i)) | _ => none) (eC (.int 1))) aNil))) (aCons (eTup (aCons (eC (.str "Put")) (aCons (eC (.int 1)) aNil))) (aCons (eC .none) (aCons (eC (.int 3)) aNil)))))))))))
    (sSeq (sNew 4 (oAdd (eV 4) (eOf (oLst (aCons (eTup (aCons (eC (.str "put")) (aCons (eC (.int 1)) (aCons (eC (.int 1)) aNil)))) (aCons (eTup (aCons (eC (.str "drop")) aNil)) (aCons (eTup (aCons (eC (.str "put")) (aCons (eC (.str "1")) aNil))) (aCons (eC (.str "ask")) (aCons (eTup aNil) (aCons (eTup (aCons (eC (.str "drop")) (aCons (eCb gMin2 (aCons (eC (.int 40)) (aCons (eBin gAdd (eV 3) (eC (.int 1))) aNil))) aNil))) aNil))))))))))
    (sSeq (sApp 4 (aCons (eTup (aCons (eC (.str "drop")) (aCons (eCb gMax2 (aCons (eC (.int 1)) (aCons (eCb gMin2 (aCons (eC (.int 40)) (aCons (eV 3) aNil))) aNil))) aNil))) aNil))
    (sSeq (sSet 5 (eTup (aCons (eBin gIx (eV 4) (eBin gMod (eCb gInt (aCons (eBin gDiv (eV 1) (eC (.int 61))) aNil)) (eC (.int 16)))) aNil)))
    (sSeq (sSet 6 (eTup (aCons (eBin gIx (eV 4) (eBin gMod (eCb gInt (aCons (eBin gDiv (eV 1) (eC (.int 1009))) aNil)) (eC (.int 16)))) aNil)))
    (sSeq (sSet 7 (eSl (eV 0) pN (pS (eV 2))))
    (sSeq (sSet 8 (eSl (eV 0) (pS (eV 2)) pN))
    (sSeq (sSet 9 (eOf (oLst (aCons (eOf (oCb gLstOf (aCons (eV 0) aNil))) (aCons (eC .none) (aCons (eC (.str "ask")) (aCons (eTup (aCons (eV 0) aNil)) (aCons (eC (.int 7)) (aCons (eBin gAdd (eBin gAdd (eV 7) (eV 5)) (eV 8)) (aCons (eBin gAdd (eBin gAdd (eBin gAdd (eV 7) (eV 5)) (eV 8)) (eV 6)) (aCons (eBin gAdd (eV 6) (eV 0)) aNil)))))))))))
    (sSeq (sSet 9 (eBin gAdd (eV 9) (eOf (oLst (aCons (eBin gAdd (eV 7) (eSl (eV 8) (pS (eC (.int 1))) pN)) (aCons (eBin gAdd (eV 8) (eV 7)) (aCons (eUn gRvs (eV 0)) (aCons (eBin gAdd (eBin gAdd (eV 7) (eTup (aCons (eTup (aCons (eC (.str "drop")) (aCons (eC (.int 1)) aNil))) aNil))) (eV 8)) aNil))))))))
    (sRet (eBin gAdd (eV 9) (eOf (oLst (aCons (eBin gAdd (eBin gAdd (eV 7) (eTup (aCons (eTup (aCons (eC (.str "ask")) aNil)) aNil))) (eV 8)) (aCons (eBin gAdd (eBin gAdd (eV 7) (eSl (eV 8) pN (pS (eC (.int 1))))) (eV 8)) (aCons (eBin gAdd (eBin gAdd (eV 7) (eV 5)) (eSl (eV 8) (pS (eC (.int 1))) pN)) (aCons (eBin gAdd (eV 0) (eTup (aCons (eTup (aCons (eC (.str "drop")) (aCons (eC (.int 1)) aNil))) (aCons (eBin gIx (eV 5) (eC (.int 0))) aNil)))) aNil)))))))))))))))))))
def f__law_spoilt : Nv → Rs Rv := ary 2 (body 8 (m__law_spoilt))
theorem ok__law_spoilt {P : Program} {w : World} {K : PySem.W.Frag} {mg : Str → Option Value} {base : Heap} {cl : Str → Option Value} {f : Addr} {fd : FuncData} (F : Fun K "_law_spoilt" "_law_spoilt" s__law_spoilt f fd) (hm : mg "_law_spoilt" = some (.ref f)) (T : Txt P w K mg base cl) (C__law_checked : Cal P w K mg base cl 3 "_law_checked" ["_law_thing"] f__law_checked) :
    Cal P w K mg base cl 4 "_law_spoilt" ["_law_events_here", "_law_pick"] f__law_spoilt :=
  cal_mk (g := m__law_spoilt) (m := 8) F hm sc__law_spoilt rfl (fun _ _ _ _ _ _ us hl => match us, hl with | [_, _], _ => rfl) fun cdv A outer s H E hr => by
    have tk : Takes (cxOf (L2.CX P w) P w K mg base ["_law_events_here", "_law_pick", "_law_at", "_law_inside", "_law_bads", "_law_bad", "_law_worse", "_law_head", "_law_tail", "_law_things"] "_law_spoilt" (defScope s__law_spoilt) f cdv A outer s H E) (fun cls d _ H => E cls d H) := takes_of rfl rfl rfl rfl
    have po : PassesOwn (model P w) (cxOf (L2.CX P w) P w K mg base ["_law_events_here", "_law_pick", "_law_at", "_law_inside", "_law_bads", "_law_bad", "_law_worse", "_law_head", "_law_tail", "_law_things"] "_law_spoilt" (defScope s__law_spoilt) f cdv A outer s H E).A (cxOf (L2.CX P w) P w K mg base ["_law_events_here", "_law_pick", "_law_at", "_law_inside", "_law_bads", "_law_bad", "_law_worse", "_law_head", "_law_tail", "_law_things"] "_law_spoilt" (defScope s__law_spoilt) f cdv A outer s H E).env (cxOf (L2.CX P w) P w K mg base ["_law_events_here", "_law_pick", "_law_at", "_law_inside", "_law_bads", "_law_bad", "_law_worse", "_law_head", "_law_tail", "_law_things"] "_law_spoilt" (defScope s__law_spoilt) f cdv A outer s H E).xe := passes_of rfl
    let cz : Cz := ⟨K, cl, fun _ => E⟩
    exact ⟨_, (bc (sset 2 sc__law_spoilt.nd (xmod (xct call_int1 int_ok rfl T.b.int (by decide +kernel) (a1 (xv 1) a0)) (xadd (xcb cr_len len_ok rfl T.b.len (by decide +kernel) (a1 (xv 0) a0)) xi)))
      (bc (sset 3 sc__law_spoilt.nd (xix (xcal rfl C__law_checked hr tk rfl (a1 (xsl (xv 0) p_no (p_so (xv 2))) a0)) xi))
      (bc (snew 4 sc__law_spoilt.nd (olst (a1 (xtup (a1 xs (a1 xi a0))) (a1 (xtup (a1 xs (a1 xb a0))) (a1 (xtup (a1 xs a0)) (a1 (xtup (a1 xs (a1 xi a0))) (a1 (xof (olst (a1 xs a0))) (a1 (xtup (a1 xs (a1 (xneg xi) a0))) (a1 (xtup (a1 xs (a1 xi a0))) (a1 xn (a1 xi a0)))))))))))
      (bc (snew 4 sc__law_spoilt.nd (oaddl (xv 4) (xof (olst (a1 (xtup (a1 xs (a1 xi (a1 xi a0)))) (a1 (xtup (a1 xs a0)) (a1 (xtup (a1 xs (a1 xs a0))) (a1 xs (a1 (xtup a0) (a1 (xtup (a1 xs (a1 (xcb (call_min2 rfl) min2_ok rfl T.b.min (by decide +kernel) (a1 xi (a1 (xadd (xv 3) xi) a0))) a0))) a0))))))))))
      (bc (sappn 4 (xv 4) (a1 (xtup (a1 xs (a1 (xcb (call_max2 rfl) max2_ok rfl T.b.max (by decide +kernel) (a1 xi (a1 (xcb (call_min2 rfl) min2_ok rfl T.b.min (by decide +kernel) (a1 xi (a1 (xv 3) a0))) a0))) a0))) a0))
      (bc (sset 5 sc__law_spoilt.nd (xtup (a1 (xix (xv 4) (xmod (xct call_int1 int_ok rfl T.b.int (by decide +kernel) (a1 (xdiv (xv 1) xi) a0)) xi)) a0)))
      (bc (sset 6 sc__law_spoilt.nd (xtup (a1 (xix (xv 4) (xmod (xct call_int1 int_ok rfl T.b.int (by decide +kernel) (a1 (xdiv (xv 1) xi) a0)) xi)) a0)))
      (bc (sset 7 sc__law_spoilt.nd (xsl (xv 0) p_no (p_so (xv 2))))
      (bc (sset 8 sc__law_spoilt.nd (xsl (xv 0) (p_so (xv 2)) p_no))
      (bc (sset 9 sc__law_spoilt.nd (xof (olst (a1 (xof (oct call_list_of lstOf_ok rfl T.b.list (by decide +kernel) (a1 (xv 0) a0))) (a1 xn (a1 xs (a1 (xtup (a1 (xv 0) a0)) (a1 xi (a1 (xadd (xadd (xv 7) (xv 5)) (xv 8)) (a1 (xadd (xadd (xadd (xv 7) (xv 5)) (xv 8)) (xv 6)) (a1 (xadd (xv 6) (xv 0)) a0)))))))))))
      (bc (sset 9 sc__law_spoilt.nd (xadd (xv 9) (xof (olst (a1 (xadd (xv 7) (xsl (xv 8) (p_so xi) p_no)) (a1 (xadd (xv 8) (xv 7)) (a1 (xrev (xv 0)) (a1 (xadd (xadd (xv 7) (xtup (a1 (xtup (a1 xs (a1 xi a0))) a0))) (xv 8)) a0))))))))
      (b1 (sret (xadd (xv 9) (xof (olst (a1 (xadd (xadd (xv 7) (xtup (a1 (xtup (a1 xs a0)) a0))) (xv 8)) (a1 (xadd (xadd (xv 7) (xsl (xv 8) p_no (p_so xi))) (xv 8)) (a1 (xadd (xadd (xv 7) (xv 5)) (xsl (xv 8) (p_so xi) p_no)) (a1 (xadd (xv 0) (xtup (a1 (xtup (a1 xs (a1 xi a0))) (a1 (xix (xv 5) xi) a0)))) a0))))))))))))))))))))⟩
theorem sc_is_asks : FnScope ["thing"] ["thing"] (defScope s_is_asks) := ⟨rfl, rfl, rfl, by decide +kernel, rfl, by decide +kernel, by decide +kernel⟩
def m_is_asks : Nv → RS :=
  (sRet (eIsN false (eCall f_asks_fault (aCons (eV 0) aNil))))
def f_is_asks : Nv → Rs Rv := ary 1 (body 0 (m_is_asks))
theorem ok_is_asks {P : Program} {w : World} {K : PySem.W.Frag} {mg : Str → Option Value} {base : Heap} {cl : Str → Option Value} {f : Addr} {fd : FuncData} (F : Fun K "is_asks" "is_asks" s_is_asks f fd) (hm : mg "is_asks" = some (.ref f)) (T : Txt P w K mg base cl) (C_asks_fault : Cal P w K mg base cl 4 "asks_fault" ["thing"] f_asks_fault) :
    Cal P w K mg base cl 5 "is_asks" ["thing"] f_is_asks :=
  cal_mk (g := m_is_asks) (m := 0) F hm sc_is_asks rfl (fun _ _ _ _ _ _ us hl => match us, hl with | [_], _ => rfl) fun cdv A outer s H E hr => by
    have tk : Takes (cxOf (L2.CX P w) P w K mg base ["thing"] "is_asks" (defScope s_is_asks) f cdv A outer s H E) (fun cls d _ H => E cls d H) := takes_of rfl rfl rfl rfl
    have po : PassesOwn (model P w) (cxOf (L2.CX P w) P w K mg base ["thing"] "is_asks" (defScope s_is_asks) f cdv A outer s H E).A (cxOf (L2.CX P w) P w K mg base ["thing"] "is_asks" (defScope s_is_asks) f cdv A outer s H E).env (cxOf (L2.CX P w) P w K mg base ["thing"] "is_asks" (defScope s_is_asks) f cdv A outer s H E).xe := passes_of rfl
    let cz : Cz := ⟨K, cl, fun _ => E⟩
    exact ⟨_, (b1 (sret (xisn (xcal rfl C_asks_fault hr tk rfl (a1 (xv 0) a0)))))⟩
theorem sc_lets_history : FnScope ["thing", "event"] ["thing"] (defScope s_lets_history) := ⟨rfl, rfl, rfl, by decide +kernel, rfl, by decide +kernel, by decide +kernel⟩
def m_lets_history : Nv → RS :=
  (sSeq (sExpr (eCall f_refuse (aCons (eCall f__history_fault (aCons (eV 0) aNil)) aNil)))
    (sRet (eCb gSum (aCons (eOf (oComp [1] (iT (eV 0)) (gN 1) fYes (eCall f__growth (aCons (eV 1) aNil)))) aNil))))
def f_lets_history : Nv → Rs Rv := ary 1 (body 1 (m_lets_history))
theorem ok_lets_history {P : Program} {w : World} {K : PySem.W.Frag} {mg : Str → Option Value} {base : Heap} {cl : Str → Option Value} {f : Addr} {fd : FuncData} (F : Fun K "lets_history" "lets_history" s_lets_history f fd) (hm : mg "lets_history" = some (.ref f)) (T : Txt P w K mg base cl) (C_refuse : Cal P w K mg base cl 3 "refuse" ["fault"] f_refuse) (C__history_fault : Cal P w K mg base cl 4 "_history_fault" ["thing"] f__history_fault) (C__growth : Cal P w K mg base cl 1 "_growth" ["event"] f__growth) :
    Cal P w K mg base cl 5 "lets_history" ["thing"] f_lets_history :=
  cal_mk (g := m_lets_history) (m := 1) F hm sc_lets_history rfl (fun _ _ _ _ _ _ us hl => match us, hl with | [_], _ => rfl) fun cdv A outer s H E hr => by
    have tk : Takes (cxOf (L2.CX P w) P w K mg base ["thing", "event"] "lets_history" (defScope s_lets_history) f cdv A outer s H E) (fun cls d _ H => E cls d H) := takes_of rfl rfl rfl rfl
    have po : PassesOwn (model P w) (cxOf (L2.CX P w) P w K mg base ["thing", "event"] "lets_history" (defScope s_lets_history) f cdv A outer s H E).A (cxOf (L2.CX P w) P w K mg base ["thing", "event"] "lets_history" (defScope s_lets_history) f cdv A outer s H E).env (cxOf (L2.CX P w) P w K mg base ["thing", "event"] "lets_history" (defScope s_lets_history) f cdv A outer s H E).xe := passes_of rfl
    let cz : Cz := ⟨K, cl, fun _ => E⟩
    exact ⟨_, (bc (sexp (xcal rfl C_refuse hr tk rfl (a1 (xcal rfl C__history_fault hr tk rfl (a1 (xv 0) a0)) a0)))
      (b1 (sret (xcb (cr_sum rfl) sum_ok rfl T.b.sum (by decide +kernel) (a1 (xof (ocomp (own := [("event", 1)]) rfl sc_lets_history.nd (itup (xv 0)) (blkOk_of (N0 := ["thing", "event"]) (o0 := defScope s_lets_history) rfl rfl (by decide +kernel)) (gin_name (by decide)) mono_name (fun _ _ _ _ _ => (gx 1 sc_lets_history.nd)) (fun _ _ _ _ _ => t0) (fun _ _ _ _ _ => (xcalB rfl C__growth hr rfl (a1 (xv 1) a0))) s H)) a0)))))⟩
theorem sc_is_history : FnScope ["thing"] ["thing"] (defScope s_is_history) := ⟨rfl, rfl, rfl, by decide +kernel, rfl, by decide +kernel, by decide +kernel⟩
def m_is_history : Nv → RS :=
  (sRet (eIsN false (eCall f__history_fault (aCons (eV 0) aNil))))
def f_is_history : Nv → Rs Rv := ary 1 (body 0 (m_is_history))
theorem ok_is_history {P : Program} {w : World} {K : PySem.W.Frag} {mg : Str → Option Value} {base : Heap} {cl : Str → Option Value} {f : Addr} {fd : FuncData} (F : Fun K "is_history" "is_history" s_is_history f fd) (hm : mg "is_history" = some (.ref f)) (T : Txt P w K mg base cl) (C__history_fault : Cal P w K mg base cl 4 "_history_fault" ["thing"] f__history_fault) :
    Cal P w K mg base cl 5 "is_history" ["thing"] f_is_history :=
  cal_mk (g := m_is_history) (m := 0) F hm sc_is_history rfl (fun _ _ _ _ _ _ us hl => match us, hl with | [_], _ => rfl) fun cdv A outer s H E hr => by
    have tk : Takes (cxOf (L2.CX P w) P w K mg base ["thing"] "is_history" (defScope s_is_history) f cdv A outer s H E) (fun cls d _ H => E cls d H) := takes_of rfl rfl rfl rfl
    have po : PassesOwn (model P w) (cxOf (L2.CX P w) P w K mg base ["thing"] "is_history" (defScope s_is_history) f cdv A outer s H E).A (cxOf (L2.CX P w) P w K mg base ["thing"] "is_history" (defScope s_is_history) f cdv A outer s H E).env (cxOf (L2.CX P w) P w K mg base ["thing"] "is_history" (defScope s_is_history) f cdv A outer s H E).xe := passes_of rfl
    let cz : Cz := ⟨K, cl, fun _ => E⟩
    exact ⟨_, (b1 (sret (xisn (xcal rfl C__history_fault hr tk rfl (a1 (xv 0) a0)))))⟩
theorem sc_timed_asks : FnScope ["times", "length", "moments", "found", "moment", "low", "high", "time"] ["times", "length", "moments"] (defScope s_timed_asks) := ⟨rfl, rfl, rfl, by decide +kernel, rfl, by decide +kernel, by decide +kernel⟩
def lp_timed_asks_0 : Nv → RS := (sSeq (sSet 5 (eCb gLen (aCons (eOf (oComp [7] (iT (eV 0)) (gN 7) (tVal (eBin gLe (eV 7) (eBin Dl.gSub (eV 4) (eV 1)))) (eV 7))) aNil)))
    (sSeq (sSet 6 (eCb gLen (aCons (eOf (oComp [7] (iT (eV 0)) (gN 7) (tVal (eBin gLe (eV 7) (eV 4))) (eV 7))) aNil)))
    (sIf (tVal (eBin gLt (eV 5) (eV 6))) (sApp 3 (aCons (eTup (aCons (eV 5) (aCons (eV 6) aNil))) aNil)) sNext)))
def m_timed_asks : Nv → RS :=
  (sSeq (sExpr (eCall f_need (aCons (eCall f__are_times (aCons (eV 0) aNil)) (aCons (eC (.str "times")) aNil))))
    (sSeq (sExpr (eCall f_need (aCons (eCall f_is_positive (aCons (eV 1) aNil)) (aCons (eC (.str "length")) aNil))))
    (sSeq (sExpr (eCall f_need (aCons (eCall f__are_numbers (aCons (eV 2) aNil)) (aCons (eC (.str "moments")) aNil))))
    (sSeq (sNew 3 (oLst aNil))
    (sSeq (sFor (iT (eV 2)) (gN 4) (lp_timed_asks_0))
    (sRet (eCallSt f_asks_of (eV 3))))))))
def f_timed_asks : Nv → Rs Rv := ary 3 (body 5 (m_timed_asks))
theorem ok_timed_asks {P : Program} {w : World} {K : PySem.W.Frag} {mg : Str → Option Value} {base : Heap} {cl : Str → Option Value} {f : Addr} {fd : FuncData} (F : Fun K "timed_asks" "timed_asks" s_timed_asks f fd) (hm : mg "timed_asks" = some (.ref f)) (T : Txt P w K mg base cl) (C_need : Cal P w K mg base cl 3 "need" ["fit", "word"] f_need) (C_asks_of : CalSt P w K mg base cl 4 "asks_of" f_asks_of) (C__are_times : Cal P w K mg base cl 4 "_are_times" ["thing"] f__are_times) (C_is_positive : Cal P w K mg base cl 2 "is_positive" ["thing"] f_is_positive) (C__are_numbers : Cal P w K mg base cl 3 "_are_numbers" ["thing"] f__are_numbers) :
    Cal P w K mg base cl 5 "timed_asks" ["times", "length", "moments"] f_timed_asks :=
  cal_mk (g := m_timed_asks) (m := 5) F hm sc_timed_asks rfl (fun _ _ _ _ _ _ us hl => match us, hl with | [_, _, _], _ => rfl) fun cdv A outer s H E hr => by
    have tk : Takes (cxOf (L2.CX P w) P w K mg base ["times", "length", "moments", "found", "moment", "low", "high", "time"] "timed_asks" (defScope s_timed_asks) f cdv A outer s H E) (fun cls d _ H => E cls d H) := takes_of rfl rfl rfl rfl
    have po : PassesOwn (model P w) (cxOf (L2.CX P w) P w K mg base ["times", "length", "moments", "found", "moment", "low", "high", "time"] "timed_asks" (defScope s_timed_asks) f cdv A outer s H E).A (cxOf (L2.CX P w) P w K mg base ["times", "length", "moments", "found", "moment", "low", "high", "time"] "timed_asks" (defScope s_timed_asks) f cdv A outer s H E).env (cxOf (L2.CX P w) P w K mg base ["times", "length", "moments", "found", "moment", "low", "high", "time"] "timed_asks" (defScope s_timed_asks) f cdv A outer s H E).xe := passes_of rfl
    let cz : Cz := ⟨K, cl, fun _ => E⟩
    exact ⟨_, (bc (sexp (xcal rfl C_need hr tk rfl (a1 (xcal rfl C__are_times hr tk rfl (a1 (xv 0) a0)) (a1 xs a0))))
      (bc (sexp (xcal rfl C_need hr tk rfl (a1 (xcal rfl C_is_positive hr tk rfl (a1 (xv 1) a0)) (a1 xs a0))))
      (bc (sexp (xcal rfl C_need hr tk rfl (a1 (xcal rfl C__are_numbers hr tk rfl (a1 (xv 2) a0)) (a1 xs a0))))
      (bc (snew 3 sc_timed_asks.nd (olst a0))
      (bc (sfor po rfl (itup (xv 2)) (gx 4 sc_timed_asks.nd) (bc (sset 5 sc_timed_asks.nd (xcb cr_len len_ok rfl T.b.len (by decide +kernel) (a1 (xof (ocomp (own := [("time", 7)]) rfl sc_timed_asks.nd (itup (xv 0)) (blkOk_of (N0 := ["times", "length", "moments", "found", "moment", "low", "high", "time"]) (o0 := defScope s_timed_asks) rfl rfl (by decide +kernel)) (gin_name (by decide)) mono_name (fun _ _ _ _ _ => (gx 7 sc_timed_asks.nd)) (fun _ _ _ _ _ => (t1 (xtcmp c_le (xv 7) (xsub (xv 4) (xv 1))))) (fun _ _ _ _ _ => (xv 7)) s H)) a0)))
      (bc (sset 6 sc_timed_asks.nd (xcb cr_len len_ok rfl T.b.len (by decide +kernel) (a1 (xof (ocomp (own := [("time", 7)]) rfl sc_timed_asks.nd (itup (xv 0)) (blkOk_of (N0 := ["times", "length", "moments", "found", "moment", "low", "high", "time"]) (o0 := defScope s_timed_asks) rfl rfl (by decide +kernel)) (gin_name (by decide)) mono_name (fun _ _ _ _ _ => (gx 7 sc_timed_asks.nd)) (fun _ _ _ _ _ => (t1 (xtcmp c_le (xv 7) (xv 4)))) (fun _ _ _ _ _ => (xv 7)) s H)) a0)))
      (b1 (sif (xtcmp c_lt (xv 5) (xv 6)) (b1 (sappn 3 (xv 3) (a1 (xtup (a1 (xv 5) (a1 (xv 6) a0))) a0))) b0)))))
      (b1 (sret (xcalSt rfl C_asks_of hr tk rfl (xv 3)))))))))⟩
theorem sc_is_queue : FnScope ["thing", "one", "other"] ["thing"] (defScope s_is_queue) := ⟨rfl, rfl, rfl, by decide +kernel, rfl, by decide +kernel, by decide +kernel⟩
def m_is_queue : Nv → RS :=
  (sSeq (sIf (tNotF (tVal (eCall f_is_asks (aCons (eV 0) aNil)))) (sRet (eC (.bool false))) sNext)
    (sRet (eCb gAll (aCons (eOf (oComp [1, 2] (iZp (aCons (eV 0) (aCons (eSl (eV 0) (pS (eC (.int 1))) pN) aNil))) (gT 2 (gsC (gN 1) (gsC (gN 2) gsN))) fYes (eBin gLe (eBin gIx (eV 1) (eC (.int 1))) (eBin gIx (eV 2) (eC (.int 1)))))) aNil))))
def f_is_queue : Nv → Rs Rv := ary 1 (body 2 (m_is_queue))
theorem ok_is_queue {P : Program} {w : World} {K : PySem.W.Frag} {mg : Str → Option Value} {base : Heap} {cl : Str → Option Value} {f : Addr} {fd : FuncData} (F : Fun K "is_queue" "is_queue" s_is_queue f fd) (hm : mg "is_queue" = some (.ref f)) (T : Txt P w K mg base cl) (C_is_asks : Cal P w K mg base cl 5 "is_asks" ["thing"] f_is_asks) :
    Cal P w K mg base cl 6 "is_queue" ["thing"] f_is_queue :=
  cal_mk (g := m_is_queue) (m := 2) F hm sc_is_queue rfl (fun _ _ _ _ _ _ us hl => match us, hl with | [_], _ => rfl) fun cdv A outer s H E hr => by
    have tk : Takes (cxOf (L2.CX P w) P w K mg base ["thing", "one", "other"] "is_queue" (defScope s_is_queue) f cdv A outer s H E) (fun cls d _ H => E cls d H) := takes_of rfl rfl rfl rfl
    have po : PassesOwn (model P w) (cxOf (L2.CX P w) P w K mg base ["thing", "one", "other"] "is_queue" (defScope s_is_queue) f cdv A outer s H E).A (cxOf (L2.CX P w) P w K mg base ["thing", "one", "other"] "is_queue" (defScope s_is_queue) f cdv A outer s H E).env (cxOf (L2.CX P w) P w K mg base ["thing", "one", "other"] "is_queue" (defScope s_is_queue) f cdv A outer s H E).xe := passes_of rfl
    let cz : Cz := ⟨K, cl, fun _ => E⟩
    exact ⟨_, (bc (sif (xtnot (xt (xcal rfl C_is_asks hr tk rfl (a1 (xv 0) a0)))) (b1 (sret xb)) b0)
      (b1 (sret (xcb (cr_all rfl) all_ok rfl T.b.all (by decide +kernel) (a1 (xof (ocomp (own := [("one", 1), ("other", 2)]) rfl sc_is_queue.nd (izip rfl T.b.zip (a1 (xv 0) (a1 (xsl (xv 0) (p_so xi) p_no) a0))) (blkOk_of (N0 := ["thing", "one", "other"]) (o0 := defScope s_is_queue) rfl rfl (by decide +kernel)) (gin_tup (gsin_cons (gin_name (by decide)) mono_name (gsin_cons (gin_name (by decide)) mono_name gsin_nil))) mono_tup2 (fun _ _ _ _ _ => (gtup rfl (gs1 (gx 1 sc_is_queue.nd) (gs1 (gx 2 sc_is_queue.nd) gs0)))) (fun _ _ _ _ _ => t0) (fun _ _ _ _ _ => (xcmp c_le (xix (xv 1) xi) (xix (xv 2) xi))) s H)) a0)))))⟩
theorem sc_asks_by : FnScope ["history", "front", "place", "found", "event"] ["history"] (defScope s_asks_by) := ⟨rfl, rfl, rfl, by decide +kernel, rfl, by decide +kernel, by decide +kernel⟩
def lp_asks_by_0 : Nv → RS := (sIf (tVal (eBin (gEq false) (eBin gIx (eV 4) (eC (.int 0))) (eC (.str "put")))) (sAug (fun a b => a + b) 2 (eBin gIx (eV 4) (eC (.int 1)))) (sIf (tVal (eBin (gEq false) (eBin gIx (eV 4) (eC (.int 0))) (eC (.str "drop")))) (sAug (fun a b => a + b) 1 (eBin gIx (eV 4) (eC (.int 1)))) (sIf (tVal (eBin gLt (eV 1) (eV 2))) (sApp 3 (aCons (eTup (aCons (eV 1) (aCons (eV 2) aNil))) aNil)) sNext)))
def m_asks_by : Nv → RS :=
  (sSeq (sExpr (eCall f_need (aCons (eCall f_is_history (aCons (eV 0) aNil)) (aCons (eC (.str "history")) aNil))))
    (sSeq (sSet 1 (eC (.int 0)))
    (sSeq (sSet 2 (eC (.int 0)))
    (sSeq (sNew 3 (oLst aNil))
    (sSeq (sFor (iT (eV 0)) (gN 4) (lp_asks_by_0))
    (sRet (eCallSt f_asks_of (eV 3))))))))
def f_asks_by : Nv → Rs Rv := ary 1 (body 4 (m_asks_by))
theorem ok_asks_by {P : Program} {w : World} {K : PySem.W.Frag} {mg : Str → Option Value} {base : Heap} {cl : Str → Option Value} {f : Addr} {fd : FuncData} (F : Fun K "asks_by" "asks_by" s_asks_by f fd) (hm : mg "asks_by" = some (.ref f)) (T : Txt P w K mg base cl) (C_need : Cal P w K mg base cl 3 "need" ["fit", "word"] f_need) (C_asks_of : CalSt P w K mg base cl 4 "asks_of" f_asks_of) (C_is_history : Cal P w K mg base cl 5 "is_history" ["thing"] f_is_history) :
    Cal P w K mg base cl 6 "asks_by" ["history"] f_asks_by :=
  cal_mk (g := m_asks_by) (m := 4) F hm sc_asks_by rfl (fun _ _ _ _ _ _ us hl => match us, hl with | [_], _ => rfl) fun cdv A outer s H E hr => by
    have tk : Takes (cxOf (L2.CX P w) P w K mg base ["history", "front", "place", "found", "event"] "asks_by" (defScope s_asks_by) f cdv A outer s H E) (fun cls d _ H => E cls d H) := takes_of rfl rfl rfl rfl
    have po : PassesOwn (model P w) (cxOf (L2.CX P w) P w K mg base ["history", "front", "place", "found", "event"] "asks_by" (defScope s_asks_by) f cdv A outer s H E).A (cxOf (L2.CX P w) P w K mg base ["history", "front", "place", "found", "event"] "asks_by" (defScope s_asks_by) f cdv A outer s H E).env (cxOf (L2.CX P w) P w K mg base ["history", "front", "place", "found", "event"] "asks_by" (defScope s_asks_by) f cdv A outer s H E).xe := passes_of rfl
    let cz : Cz := ⟨K, cl, fun _ => E⟩
    exact ⟨_, (bc (sexp (xcal rfl C_need hr tk rfl (a1 (xcal rfl C_is_history hr tk rfl (a1 (xv 0) a0)) (a1 xs a0))))
      (bc (sset 1 sc_asks_by.nd xi)
      (bc (sset 2 sc_asks_by.nd xi)
      (bc (snew 3 sc_asks_by.nd (olst a0))
      (bc (sfor po rfl (itup (xv 0)) (gx 4 sc_asks_by.nd) (b1 (sif (xtcmp (c_eq hr) (xix (xv 4) xi) xs) (b1 (saugA 2 sc_asks_by.nd (xix (xv 4) xi))) (b1 (sif (xtcmp (c_eq hr) (xix (xv 4) xi) xs) (b1 (saugA 1 sc_asks_by.nd (xix (xv 4) xi))) (b1 (sif (xtcmp c_lt (xv 1) (xv 2)) (b1 (sappn 3 (xv 3) (a1 (xtup (a1 (xv 1) (a1 (xv 2) a0))) a0))) b0)))))))
      (b1 (sret (xcalSt rfl C_asks_of hr tk rfl (xv 3)))))))))⟩
theorem sc__law_same : FnScope ["_law_got", "_law_due", "_law_k"] ["_law_got", "_law_due"] (defScope s__law_same) := ⟨rfl, rfl, rfl, by decide +kernel, rfl, by decide +kernel, by decide +kernel⟩
def m__law_same (f_rec : Nv → Rs Rv) : Nv → RS :=
  (sSeq (sIf (tOrF (tVal (eIsN false (eV 1))) (tVal (eIsN false (eV 0)))) (sRet (eAnd (eIsN false (eV 1)) (eIsN false (eV 0)))) sNext)
    (sSeq (sIf (tOrF (tVal (eIsi "bool" (eV 1))) (tVal (eIsi "bool" (eV 0)))) (sRet (eAnd (eIsi "bool" (eV 1)) (eAnd (eIsi "bool" (eV 0)) (eBin (gEq false) (eV 0) (eV 1))))) sNext)
    (sSeq (sIf (tVal (eIsi "int" (eV 1))) (sRet (eAnd (eIsi "int" (eV 0)) (eBin (gEq false) (eV 0) (eV 1)))) sNext)
    (sSeq (sIf (tVal (eIsi "str" (eV 1))) (sRet (eAnd (eIsi "str" (eV 0)) (eBin (gEq false) (eV 0) (eV 1)))) sNext)
    (sSeq (sIf (tOrF (tNotF (tVal (eIsi "tuple" (eV 0)))) (tVal (eBin (gEq true) (eCb gLen (aCons (eV 0) aNil)) (eCb gLen (aCons (eV 1) aNil))))) (sRet (eC (.bool false))) sNext)
    (sRet (eCb gAll (aCons (eOf (oComp [2] (iR1 (aCons (eCb gLen (aCons (eV 1) aNil)) aNil)) (gN 2) fYes (eCall f_rec (aCons (eBin gIx (eV 0) (eV 2)) (aCons (eBin gIx (eV 1) (eV 2)) aNil))))) aNil))))))))
def fr__law_same (f_rec : Nv → Rs Rv) : Nv → Rs Rv := ary 2 (body 1 (m__law_same f_rec))
theorem okr__law_same {P : Program} {w : World} {K : PySem.W.Frag} {mg : Str → Option Value} {base : Heap} {cl : Str → Option Value} {f : Addr} {fd : FuncData} (F : Fun K "_law_same" "_law_same" s__law_same f fd) (hm : mg "_law_same" = some (.ref f)) (T : Txt P w K mg base cl) {lr : Nat} {f_rec : Nv → Rs Rv} (C_rec : Cal P w K mg base cl lr "_law_same" ["_law_got", "_law_due"] f_rec) :
    Cal P w K mg base cl (lr + 1) "_law_same" ["_law_got", "_law_due"] (fr__law_same f_rec) :=
  cal_mk (g := m__law_same f_rec) (m := 1) F hm sc__law_same rfl (fun _ _ _ _ _ _ us hl => match us, hl with | [_, _], _ => rfl) fun cdv A outer s H E hr => by
    have tk : Takes (cxOf (L2.CX P w) P w K mg base ["_law_got", "_law_due", "_law_k"] "_law_same" (defScope s__law_same) f cdv A outer s H E) (fun cls d _ H => E cls d H) := takes_of rfl rfl rfl rfl
    have po : PassesOwn (model P w) (cxOf (L2.CX P w) P w K mg base ["_law_got", "_law_due", "_law_k"] "_law_same" (defScope s__law_same) f cdv A outer s H E).A (cxOf (L2.CX P w) P w K mg base ["_law_got", "_law_due", "_law_k"] "_law_same" (defScope s__law_same) f cdv A outer s H E).env (cxOf (L2.CX P w) P w K mg base ["_law_got", "_law_due", "_law_k"] "_law_same" (defScope s__law_same) f cdv A outer s H E).xe := passes_of rfl
    let cz : Cz := ⟨K, cl, fun _ => E⟩
    exact ⟨_, (bc (sif (xtw (wor (xtisn (xv 1)) (wor1 (xtisn (xv 0))))) (b1 (sret (xand (xisn (xv 1)) (xone (xisn (xv 0)))))) b0)
      (bc (sif (xtw (wor (xt (xisi kit_bool rfl T.b.isinstance rfl T.b.bool (by decide +kernel) (xv 1))) (wor1 (xt (xisi kit_bool rfl T.b.isinstance rfl T.b.bool (by decide +kernel) (xv 0)))))) (b1 (sret (xand (xisi kit_bool rfl T.b.isinstance rfl T.b.bool (by decide +kernel) (xv 1)) (xand (xisi kit_bool rfl T.b.isinstance rfl T.b.bool (by decide +kernel) (xv 0)) (xone (xcmp (c_eq hr) (xv 0) (xv 1))))))) b0)
      (bc (sif (xt (xisi kit_int rfl T.b.isinstance rfl T.b.int (by decide +kernel) (xv 1))) (b1 (sret (xand (xisi kit_int rfl T.b.isinstance rfl T.b.int (by decide +kernel) (xv 0)) (xone (xcmp (c_eq hr) (xv 0) (xv 1)))))) b0)
      (bc (sif (xt (xisi kit_str rfl T.b.isinstance rfl T.b.str (by decide +kernel) (xv 1))) (b1 (sret (xand (xisi kit_str rfl T.b.isinstance rfl T.b.str (by decide +kernel) (xv 0)) (xone (xcmp (c_eq hr) (xv 0) (xv 1)))))) b0)
      (bc (sif (xtw (wor (xtnot (xt (xisi kit_tuple rfl T.b.isinstance rfl T.b.tuple (by decide +kernel) (xv 0)))) (wor1 (xtcmp (c_ne hr) (xcb cr_len len_ok rfl T.b.len (by decide +kernel) (a1 (xv 0) a0)) (xcb cr_len len_ok rfl T.b.len (by decide +kernel) (a1 (xv 1) a0)))))) (b1 (sret xb)) b0)
      (b1 (sret (xcb (cr_all rfl) all_ok rfl T.b.all (by decide +kernel) (a1 (xof (ocomp (own := [("_law_k", 2)]) rfl sc__law_same.nd (irng1 rfl T.b.range (a1 (xcb cr_len len_ok rfl T.b.len (by decide +kernel) (a1 (xv 1) a0)) a0)) (blkOk_of (N0 := ["_law_got", "_law_due", "_law_k"]) (o0 := defScope s__law_same) rfl rfl (by decide +kernel)) (gin_name (by decide)) mono_name (fun _ _ _ _ _ => (gx 2 sc__law_same.nd)) (fun _ _ _ _ _ => t0) (fun _ _ _ _ _ => (xcalB rfl C_rec hr rfl (a1 (xix (xv 0) (xv 2)) (a1 (xix (xv 1) (xv 2)) a0)) (Nat.le_refl _))) s H)) a0)))))))))⟩
def f__law_same : Nv → Rs Rv := (fr__law_same (fr__law_same (fr__law_same (fr__law_same (fr__law_same (ary 2 (body 1 fun _ => none)))))))
theorem ok__law_same {P : Program} {w : World} {K : PySem.W.Frag} {mg : Str → Option Value} {base : Heap} {cl : Str → Option Value} {f : Addr} {fd : FuncData} (F : Fun K "_law_same" "_law_same" s__law_same f fd) (hm : mg "_law_same" = some (.ref f)) (T : Txt P w K mg base cl) :
    Cal P w K mg base cl 6 "_law_same" ["_law_got", "_law_due"] f__law_same := (okr__law_same F hm T (okr__law_same F hm T (okr__law_same F hm T (okr__law_same F hm T (okr__law_same F hm T (cal_mk (k := 0) (g := fun _ => none) (m := 1) F hm sc__law_same rfl (fun _ _ _ _ _ _ us hl => match us, hl with | [_, _], _ => rfl) fun cdv A outer s H E hr => ⟨fun _ _ _ => False, ⟨⟨fun _ _ _ _ _ _ h => h.elim⟩, fun _ _ _ _ _ _ _ _ h => h.elim⟩⟩))))))
end K2
set_option Elab.async false
set_option linter.all false
set_option maxRecDepth 100000
set_option maxHeartbeats 1000000
namespace K2
open PySem PySem.Spec PyProof.Rows L2 Dl
theorem sc_need_order : FnScope ["asks", "one", "other"] ["asks"] (defScope s_need_order) := ⟨rfl, rfl, rfl, by decide +kernel, rfl, by decide +kernel, by decide +kernel⟩
def m_need_order : Nv → RS :=
  (sIf (tNotF (tVal (eCall f_is_queue (aCons (eV 0) aNil)))) (sSeq (sAsg (eCall f_crossed_asks (aCons (eV 0) aNil)) (gT 2 (gsC (gN 1) (gsC (gN 2) gsN))))
    (sRaise "OutOfOrder" "one" "other" (aCons (eV 1) (aCons (eV 2) aNil)))) sNext)
def f_need_order : Nv → Rs Rv := ary 1 (body 2 (m_need_order))
theorem ok_need_order {P : Program} {w : World} {K : PySem.W.Frag} {mg : Str → Option Value} {base : Heap} {cl : Str → Option Value} {f : Addr} {fd : FuncData} (F : Fun K "need_order" "need_order" s_need_order f fd) (hm : mg "need_order" = some (.ref f)) (T : Txt P w K mg base cl) (C_is_queue : Cal P w K mg base cl 6 "is_queue" ["thing"] f_is_queue) (C_crossed_asks : Cal P w K mg base cl 1 "crossed_asks" ["asks"] f_crossed_asks) :
    Cal P w K mg base cl 7 "need_order" ["asks"] f_need_order :=
  cal_mk (g := m_need_order) (m := 2) F hm sc_need_order rfl (fun _ _ _ _ _ _ us hl => match us, hl with | [_], _ => rfl) fun cdv A outer s H E hr => by
    have tk : Takes (cxOf (L2.CX P w) P w K mg base ["asks", "one", "other"] "need_order" (defScope s_need_order) f cdv A outer s H E) (fun cls d _ H => E cls d H) := takes_of rfl rfl rfl rfl
    have po : PassesOwn (model P w) (cxOf (L2.CX P w) P w K mg base ["asks", "one", "other"] "need_order" (defScope s_need_order) f cdv A outer s H E).A (cxOf (L2.CX P w) P w K mg base ["asks", "one", "other"] "need_order" (defScope s_need_order) f cdv A outer s H E).env (cxOf (L2.CX P w) P w K mg base ["asks", "one", "other"] "need_order" (defScope s_need_order) f cdv A outer s H E).xe := passes_of rfl
    let cz : Cz := ⟨K, cl, fun _ => E⟩
    exact ⟨_, (b1 (sif (xtnot (xt (xcal rfl C_is_queue hr tk rfl (a1 (xv 0) a0)))) (bc (sasg (xcal rfl C_crossed_asks hr tk rfl (a1 (xv 0) a0)) (gtup rfl (gs1 (gx 1 sc_need_order.nd) (gs1 (gx 2 sc_need_order.nd) gs0))))
      (b1 (sraise rfl T.x_OutOfOrder T.e_OutOfOrder hr tk rfl rfl (a1 (xv 1) (a1 (xv 2) a0))))) b0))⟩
theorem sc__law_calendars : FnScope ["_law_nums_here", "_law_width", "_law_hop", "_law_many", "_law_row_here", "_law_long", "_law_widths", "_law_calendar_here", "_law_by", "_law_times", "_law_now", "_law_k", "_law_length", "_law_moments", "_law_timed_here", "_law_got", "_law_early"] ["_law_nums_here"] (defScope s__law_calendars) := ⟨rfl, rfl, rfl, by decide +kernel, rfl, by decide +kernel, by decide +kernel⟩
def lp__law_calendars_0 : Nv → RS := (sSeq (sSet 10 (eBin gAdd (eV 10) (eBin gIx (eTup (aCons (eC (.int 0)) (aCons (eC (.int 1)) (aCons (eC (.int 0)) (aCons (eC (.int 2)) (aCons (eC (.int 1)) (aCons (eC (.int 5)) aNil))))))) (eBin gMod (eCb gInt (aCons (eBin gDiv (eBin gIx (eV 0) (eBin gAdd (eC (.int 4)) (eBin gMod (eCb gInt (aCons (eV 11) aNil)) (eC (.int 60))))) (eC (.int 5))) aNil)) (eC (.int 6))))))
    (sApp 9 (aCons (eBin gMul (eV 10) (eV 8)) aNil)))
def lp__law_calendars_1 : Nv → RS := (sSeq (sSet 16 (eBin gMod (eCb gInt (aCons (eBin gDiv (eBin gIx (eV 0) (eBin gAdd (eC (.int 50)) (eV 11))) (eC (.int 9))) aNil)) (eC (.int 2))))
    (sApp 13 (aCons (eCb gMax2 (aCons (eC (.int 0)) (aCons (eBin Dl.gSub (eBin gMul (eBin gMod (eCb gInt (aCons (eBin gIx (eV 0) (eBin gAdd (eC (.int 40)) (eV 11))) aNil)) (eBin gAdd (eV 10) (eC (.int 3)))) (eV 8)) (eV 16)) aNil))) aNil)))
def m__law_calendars : Nv → RS :=
  (sSeq (sSet 1 (eBin gAdd (eBin gAdd (eC (.int 1)) (eBin gMod (eCb gInt (aCons (eBin gIx (eV 0) (eC (.int 0))) aNil)) (eC (.int 6)))) (eBin gMul (eC (.int 34)) (eCb gInt (aCons (eBin (gEq false) (eBin gIx (eV 0) (eC (.int 1))) (eC (.int 7))) aNil)))))
    (sSeq (sSet 2 (eBin gAdd (eBin gAdd (eC (.int 1)) (eBin gMod (eCb gInt (aCons (eBin gDiv (eBin gIx (eV 0) (eC (.int 0))) (eC (.int 6))) aNil)) (eC (.int 4)))) (eBin gMul (eC (.int 36)) (eCb gInt (aCons (eBin (gEq false) (eBin gIx (eV 0) (eC (.int 1))) (eC (.int 6))) aNil)))))
    (sSeq (sSet 3 (eBin gAdd (eBin gMod (eCb gInt (aCons (eBin gDiv (eBin gIx (eV 0) (eC (.int 0))) (eC (.int 24))) aNil)) (eC (.int 9))) (eBin gMul (eC (.int 11)) (eCb gInt (aCons (eBin (gEq false) (eBin gIx (eV 0) (eC (.int 1))) (eC (.int 5))) aNil)))))
    (sSeq (sSet 4 (eCall f__law_steady (aCons (eV 1) (aCons (eV 2) (aCons (eV 3) aNil)))))
    (sSeq (sIf (tOrF (tNotF (tVal (eCall f__law_same (aCons (eCall f_steady_asks (aCons (eV 1) (aCons (eV 2) (aCons (eV 3) aNil)))) (aCons (eV 4) aNil))))) (tVal (eBin (gIsB true) (eCall f_is_queue (aCons (eV 4) aNil)) (eC (.bool true))))) (sRet (eC (.bool false))) sNext)
    (sSeq (sIf (tNotF (tVal (eCall f__law_same (aCons (eCallR f_steady_asks (aCons (eV 3) (aCons (eV 2) (aCons (eV 1) aNil)))) (aCons (eV 4) aNil))))) (sRet (eC (.bool false))) sNext)
    (sSeq (sSet 5 (eBin gAdd (eBin gMod (eCb gInt (aCons (eBin gIx (eV 0) (eC (.int 2))) aNil)) (eC (.int 11))) (eBin gMul (eC (.int 49)) (eCb gInt (aCons (eBin (gEq false) (eBin gIx (eV 0) (eC (.int 1))) (eC (.int 4))) aNil)))))
    (sSeq (sSet 6 (eCb gTupOf (aCons (eOf (oComp [11] (iR1 (aCons (eV 5) aNil)) (gN 11) fYes (eBin gAdd (eC (.int 1)) (eBin gMod (eCb gInt (aCons (eBin gIx (eV 0) (eBin gAdd (eC (.int 4)) (eV 11))) aNil)) (eBin gAdd (eC (.int 6)) (eBin gMul (eC (.int 34)) (eCb gInt (aCons (eBin (gEq false) (eBin gIx (eV 0) (eC (.int 1))) (eC (.int 3))) aNil)))))))) aNil)))
    (sSeq (sSet 7 (eCall f__law_calendar (aCons (eV 6) aNil)))
    (sSeq (sIf (tOrF (tNotF (tVal (eCall f__law_same (aCons (eCall f_calendar_asks (aCons (eV 6) aNil)) (aCons (eV 7) aNil))))) (tVal (eBin (gIsB true) (eCall f_is_queue (aCons (eCallR f_calendar_asks (aCons (eV 6) aNil)) aNil)) (eC (.bool true))))) (sRet (eC (.bool false))) sNext)
    (sSeq (sSet 8 (eBin gAdd (eC (.int 1)) (eBin gMul (eBin gAdd (eBin gPow (eC (.int 10)) (eC (.int 25))) (eBin gIx (eV 0) (eC (.int 2)))) (eCb gInt (aCons (eBin (gEq false) (eBin gMod (eCb gInt (aCons (eBin gIx (eV 0) (eC (.int 1))) aNil)) (eC (.int 3))) (eC (.int 1))) aNil)))))
    (sSeq (sNew 9 (oLst aNil))
    (sSeq (sSet 10 (eBin gMod (eCb gInt (aCons (eBin gDiv (eBin gIx (eV 0) (eC (.int 3))) (eC (.int 7))) aNil)) (eC (.int 5))))
    (sSeq (sFor (iR1 (aCons (eBin gAdd (eBin gMod (eCb gInt (aCons (eBin gIx (eV 0) (eC (.int 3))) aNil)) (eC (.int 12))) (eBin gMul (eC (.int 100)) (eCb gInt (aCons (eBin (gEq false) (eBin gIx (eV 0) (eC (.int 1))) (eC (.int 2))) aNil)))) aNil)) (gN 11) (lp__law_calendars_0))
    (sSeq (sSet 12 (eBin gAdd (eBin gMul (eV 8) (eBin gAdd (eC (.int 1)) (eBin gMod (eCb gInt (aCons (eBin gDiv (eBin gIx (eV 0) (eC (.int 0))) (eC (.int 500))) aNil)) (eC (.int 7))))) (eCb gInt (aCons (eBin (gEq false) (eBin gIx (eV 0) (eC (.int 1))) (eC (.int 1))) aNil))))
    (sSeq (sNew 13 (oLst aNil))
    (sSeq (sFor (iR1 (aCons (eBin gMod (eCb gInt (aCons (eBin gDiv (eBin gIx (eV 0) (eC (.int 3))) (eC (.int 50))) aNil)) (eC (.int 8))) aNil)) (gN 11) (lp__law_calendars_1))
    (sSeq (sFrz 9 (sFrz 13 (sSet 14 (eCall f__law_timed (aCons (eV 9) (aCons (eV 12) (aCons (eV 13) aNil)))))))
    (sSeq (sSet 15 (eCall f_timed_asks (aCons (eCb gTupOf (aCons (eV 9) aNil)) (aCons (eV 12) (aCons (eCb gTupOf (aCons (eV 13) aNil)) aNil)))))
    (sSeq (sIf (tOrF (tNotF (tVal (eCall f__law_same (aCons (eV 15) (aCons (eV 14) aNil))))) (tVal (eBin (gIsB true) (eCall f_is_queue (aCons (eV 15) aNil)) (eC (.bool true))))) (sRet (eC (.bool false))) sNext)
    (sRet (eCall f__law_same (aCons (eCallN 3 [1, 2, 0] f_timed_asks (aCons (eCb gTupOf (aCons (eV 13) aNil)) (aCons (eCb gTupOf (aCons (eV 9) aNil)) (aCons (eV 12) aNil)))) (aCons (eV 14) aNil))))))))))))))))))))))))
def f__law_calendars : Nv → Rs Rv := ary 1 (body 16 (m__law_calendars))
theorem ok__law_calendars {P : Program} {w : World} {K : PySem.W.Frag} {mg : Str → Option Value} {base : Heap} {cl : Str → Option Value} {f : Addr} {fd : FuncData} (F : Fun K "_law_calendars" "_law_calendars" s__law_calendars f fd) (hm : mg "_law_calendars" = some (.ref f)) (T : Txt P w K mg base cl) (C__law_steady : Cal P w K mg base cl 1 "_law_steady" ["_law_width", "_law_hop", "_law_many"] f__law_steady) (C__law_calendar : Cal P w K mg base cl 2 "_law_calendar" ["_law_widths"] f__law_calendar) (C__law_timed : Cal P w K mg base cl 2 "_law_timed" ["_law_times", "_law_length", "_law_moments"] f__law_timed) (C_timed_asks : Cal P w K mg base cl 5 "timed_asks" ["times", "length", "moments"] f_timed_asks) (C__law_same : Cal P w K mg base cl 6 "_law_same" ["_law_got", "_law_due"] f__law_same) (C_is_queue : Cal P w K mg base cl 6 "is_queue" ["thing"] f_is_queue) (C_steady_asks : Cal P w K mg base cl 4 "steady_asks" ["width", "hop", "many"] f_steady_asks) (C_calendar_asks : Cal P w K mg base cl 4 "calendar_asks" ["widths"] f_calendar_asks) (P_timed_asks : CalN P w K mg base cl 5 "timed_asks" ["times", "length", "moments"] ["moments", "times", "length"] [1, 2, 0] f_timed_asks) (R_steady_asks : CalR P w K mg base cl 4 "steady_asks" ["width", "hop", "many"] ["many", "hop", "width"] f_steady_asks) (R_calendar_asks : CalR P w K mg base cl 4 "calendar_asks" ["widths"] ["widths"] f_calendar_asks) :
    Cal P w K mg base cl 7 "_law_calendars" ["_law_nums_here"] f__law_calendars :=
  cal_mk (g := m__law_calendars) (m := 16) F hm sc__law_calendars rfl (fun _ _ _ _ _ _ us hl => match us, hl with | [_], _ => rfl) fun cdv A outer s H E hr => by
    have tk : Takes (cxOf (L2.CX P w) P w K mg base ["_law_nums_here", "_law_width", "_law_hop", "_law_many", "_law_row_here", "_law_long", "_law_widths", "_law_calendar_here", "_law_by", "_law_times", "_law_now", "_law_k", "_law_length", "_law_moments", "_law_timed_here", "_law_got", "_law_early"] "_law_calendars" (defScope s__law_calendars) f cdv A outer s H E) (fun cls d _ H => E cls d H) := takes_of rfl rfl rfl rfl
    have po : PassesOwn (model P w) (cxOf (L2.CX P w) P w K mg base ["_law_nums_here", "_law_width", "_law_hop", "_law_many", "_law_row_here", "_law_long", "_law_widths", "_law_calendar_here", "_law_by", "_law_times", "_law_now", "_law_k", "_law_length", "_law_moments", "_law_timed_here", "_law_got", "_law_early"] "_law_calendars" (defScope s__law_calendars) f cdv A outer s H E).A (cxOf (L2.CX P w) P w K mg base ["_law_nums_here", "_law_width", "_law_hop", "_law_many", "_law_row_here", "_law_long", "_law_widths", "_law_calendar_here", "_law_by", "_law_times", "_law_now", "_law_k", "_law_length", "_law_moments", "_law_timed_here", "_law_got", "_law_early"] "_law_calendars" (defScope s__law_calendars) f cdv A outer s H E).env (cxOf (L2.CX P w) P w K mg base ["_law_nums_here", "_law_width", "_law_hop", "_law_many", "_law_row_here", "_law_long", "_law_widths", "_law_calendar_here", "_law_by", "_law_times", "_law_now", "_law_k", "_law_length", "_law_moments", "_law_timed_here", "_law_got", "_law_early"] "_law_calendars" (defScope s__law_calendars) f cdv A outer s H E).xe := passes_of rfl
    let cz : Cz := ⟨K, cl, fun _ => E⟩
    exact ⟨_, (bc (sset 1 sc__law_calendars.nd (xadd (xadd xi (xmod (xct call_int1 int_ok rfl T.b.int (by decide +kernel) (a1 (xix (xv 0) xi) a0)) xi)) (xmul xi (xct call_int1 int_ok rfl T.b.int (by decide +kernel) (a1 (xcmp (c_eq hr) (xix (xv 0) xi) xi) a0)))))
      (bc (sset 2 sc__law_calendars.nd (xadd (xadd xi (xmod (xct call_int1 int_ok rfl T.b.int (by decide +kernel) (a1 (xdiv (xix (xv 0) xi) xi) a0)) xi)) (xmul xi (xct call_int1 int_ok rfl T.b.int (by decide +kernel) (a1 (xcmp (c_eq hr) (xix (xv 0) xi) xi) a0)))))
      (bc (sset 3 sc__law_calendars.nd (xadd (xmod (xct call_int1 int_ok rfl T.b.int (by decide +kernel) (a1 (xdiv (xix (xv 0) xi) xi) a0)) xi) (xmul xi (xct call_int1 int_ok rfl T.b.int (by decide +kernel) (a1 (xcmp (c_eq hr) (xix (xv 0) xi) xi) a0)))))
      (bc (sset 4 sc__law_calendars.nd (xcal rfl C__law_steady hr tk rfl (a1 (xv 1) (a1 (xv 2) (a1 (xv 3) a0)))))
      (bc (sif (xtw (wor (xtnot (xt (xcal rfl C__law_same hr tk rfl (a1 (xcal rfl C_steady_asks hr tk rfl (a1 (xv 1) (a1 (xv 2) (a1 (xv 3) a0)))) (a1 (xv 4) a0))))) (wor1 (xtcmp c_isnB (xcal rfl C_is_queue hr tk rfl (a1 (xv 4) a0)) xb)))) (b1 (sret xb)) b0)
      (bc (sif (xtnot (xt (xcal rfl C__law_same hr tk rfl (a1 (xcalR rfl R_steady_asks hr tk rfl (k1 (xv 3) (k1 (xv 2) (k1 (xv 1) k0)))) (a1 (xv 4) a0))))) (b1 (sret xb)) b0)
      (bc (sset 5 sc__law_calendars.nd (xadd (xmod (xct call_int1 int_ok rfl T.b.int (by decide +kernel) (a1 (xix (xv 0) xi) a0)) xi) (xmul xi (xct call_int1 int_ok rfl T.b.int (by decide +kernel) (a1 (xcmp (c_eq hr) (xix (xv 0) xi) xi) a0)))))
      (bc (sset 6 sc__law_calendars.nd (xct call_tuple_of tupOf_ok rfl T.b.tuple (by decide +kernel) (a1 (xof (ocomp (own := [("_law_k", 11)]) rfl sc__law_calendars.nd (irng1 rfl T.b.range (a1 (xv 5) a0)) (blkOk_of (N0 := ["_law_nums_here", "_law_width", "_law_hop", "_law_many", "_law_row_here", "_law_long", "_law_widths", "_law_calendar_here", "_law_by", "_law_times", "_law_now", "_law_k", "_law_length", "_law_moments", "_law_timed_here", "_law_got", "_law_early"]) (o0 := defScope s__law_calendars) rfl rfl (by decide +kernel)) (gin_name (by decide)) mono_name (fun _ _ _ _ _ => (gx 11 sc__law_calendars.nd)) (fun _ _ _ _ _ => t0) (fun _ _ _ _ _ => (xadd xi (xmod (xct call_int1 int_ok rfl T.b.int (by decide +kernel) (a1 (xix (xv 0) (xadd xi (xv 11))) a0)) (xadd xi (xmul xi (xct call_int1 int_ok rfl T.b.int (by decide +kernel) (a1 (xcmp (c_eq hr) (xix (xv 0) xi) xi) a0))))))) s H)) a0)))
      (bc (sset 7 sc__law_calendars.nd (xcal rfl C__law_calendar hr tk rfl (a1 (xv 6) a0)))
      (bc (sif (xtw (wor (xtnot (xt (xcal rfl C__law_same hr tk rfl (a1 (xcal rfl C_calendar_asks hr tk rfl (a1 (xv 6) a0)) (a1 (xv 7) a0))))) (wor1 (xtcmp c_isnB (xcal rfl C_is_queue hr tk rfl (a1 (xcalR rfl R_calendar_asks hr tk rfl (k1 (xv 6) k0)) a0)) xb)))) (b1 (sret xb)) b0)
      (bc (sset 8 sc__law_calendars.nd (xadd xi (xmul (xadd (xpow xi xi) (xix (xv 0) xi)) (xct call_int1 int_ok rfl T.b.int (by decide +kernel) (a1 (xcmp (c_eq hr) (xmod (xct call_int1 int_ok rfl T.b.int (by decide +kernel) (a1 (xix (xv 0) xi) a0)) xi) xi) a0)))))
      (bc (snew 9 sc__law_calendars.nd (olst a0))
      (bc (sset 10 sc__law_calendars.nd (xmod (xct call_int1 int_ok rfl T.b.int (by decide +kernel) (a1 (xdiv (xix (xv 0) xi) xi) a0)) xi))
      (bc (sfor po rfl (irng1 rfl T.b.range (a1 (xadd (xmod (xct call_int1 int_ok rfl T.b.int (by decide +kernel) (a1 (xix (xv 0) xi) a0)) xi) (xmul xi (xct call_int1 int_ok rfl T.b.int (by decide +kernel) (a1 (xcmp (c_eq hr) (xix (xv 0) xi) xi) a0)))) a0)) (gx 11 sc__law_calendars.nd) (bc (sset 10 sc__law_calendars.nd (xadd (xv 10) (xix (xtup (a1 xi (a1 xi (a1 xi (a1 xi (a1 xi (a1 xi a0))))))) (xmod (xct call_int1 int_ok rfl T.b.int (by decide +kernel) (a1 (xdiv (xix (xv 0) (xadd xi (xmod (xct call_int1 int_ok rfl T.b.int (by decide +kernel) (a1 (xv 11) a0)) xi))) xi) a0)) xi))))
      (b1 (sappn 9 (xv 9) (a1 (xmul (xv 10) (xv 8)) a0)))))
      (bc (sset 12 sc__law_calendars.nd (xadd (xmul (xv 8) (xadd xi (xmod (xct call_int1 int_ok rfl T.b.int (by decide +kernel) (a1 (xdiv (xix (xv 0) xi) xi) a0)) xi))) (xct call_int1 int_ok rfl T.b.int (by decide +kernel) (a1 (xcmp (c_eq hr) (xix (xv 0) xi) xi) a0))))
      (bc (snew 13 sc__law_calendars.nd (olst a0))
      (bc (sfor po rfl (irng1 rfl T.b.range (a1 (xmod (xct call_int1 int_ok rfl T.b.int (by decide +kernel) (a1 (xdiv (xix (xv 0) xi) xi) a0)) xi) a0)) (gx 11 sc__law_calendars.nd) (bc (sset 16 sc__law_calendars.nd (xmod (xct call_int1 int_ok rfl T.b.int (by decide +kernel) (a1 (xdiv (xix (xv 0) (xadd xi (xv 11))) xi) a0)) xi))
      (b1 (sappn 13 (xv 13) (a1 (xcb (call_max2 rfl) max2_ok rfl T.b.max (by decide +kernel) (a1 xi (a1 (xsub (xmul (xmod (xct call_int1 int_ok rfl T.b.int (by decide +kernel) (a1 (xix (xv 0) (xadd xi (xv 11))) a0)) (xadd (xv 10) xi)) (xv 8)) (xv 16)) a0))) a0)))))
      (bc (sfrz 9 (sfrz 13 (sset 14 sc__law_calendars.nd (xcal rfl C__law_timed hr tk rfl (a1 (xv 9) (a1 (xv 12) (a1 (xv 13) a0)))))))
      (bc (sset 15 sc__law_calendars.nd (xcal rfl C_timed_asks hr tk rfl (a1 (xct call_tuple_of tupOf_ok rfl T.b.tuple (by decide +kernel) (a1 (xv 9) a0)) (a1 (xv 12) (a1 (xct call_tuple_of tupOf_ok rfl T.b.tuple (by decide +kernel) (a1 (xv 13) a0)) a0)))))
      (bc (sif (xtw (wor (xtnot (xt (xcal rfl C__law_same hr tk rfl (a1 (xv 15) (a1 (xv 14) a0))))) (wor1 (xtcmp c_isnB (xcal rfl C_is_queue hr tk rfl (a1 (xv 15) a0)) xb)))) (b1 (sret xb)) b0)
      (b1 (sret (xcal rfl C__law_same hr tk rfl (a1 (xcalME rfl P_timed_asks hr tk rfl (k1 (xct call_tuple_of tupOf_ok rfl T.b.tuple (by decide +kernel) (a1 (xv 13) a0)) (k1 (xct call_tuple_of tupOf_ok rfl T.b.tuple (by decide +kernel) (a1 (xv 9) a0)) (k1 (xv 12) k0)))) (a1 (xv 14) a0)))))))))))))))))))))))))⟩
theorem sc_need_queue : FnScope ["queue"] ["queue"] (defScope s_need_queue) := ⟨rfl, rfl, rfl, by decide +kernel, rfl, by decide +kernel, by decide +kernel⟩
def m_need_queue : Nv → RS :=
  (sSeq (sExpr (eCall f_need (aCons (eCall f_is_asks (aCons (eV 0) aNil)) (aCons (eC (.str "queue")) aNil))))
    (sExpr (eCall f_need_order (aCons (eV 0) aNil))))
def f_need_queue : Nv → Rs Rv := ary 1 (body 0 (m_need_queue))
theorem ok_need_queue {P : Program} {w : World} {K : PySem.W.Frag} {mg : Str → Option Value} {base : Heap} {cl : Str → Option Value} {f : Addr} {fd : FuncData} (F : Fun K "need_queue" "need_queue" s_need_queue f fd) (hm : mg "need_queue" = some (.ref f)) (T : Txt P w K mg base cl) (C_need : Cal P w K mg base cl 3 "need" ["fit", "word"] f_need) (C_need_order : Cal P w K mg base cl 7 "need_order" ["asks"] f_need_order) (C_is_asks : Cal P w K mg base cl 5 "is_asks" ["thing"] f_is_asks) :
    Cal P w K mg base cl 8 "need_queue" ["queue"] f_need_queue :=
  cal_mk (g := m_need_queue) (m := 0) F hm sc_need_queue rfl (fun _ _ _ _ _ _ us hl => match us, hl with | [_], _ => rfl) fun cdv A outer s H E hr => by
    have tk : Takes (cxOf (L2.CX P w) P w K mg base ["queue"] "need_queue" (defScope s_need_queue) f cdv A outer s H E) (fun cls d _ H => E cls d H) := takes_of rfl rfl rfl rfl
    have po : PassesOwn (model P w) (cxOf (L2.CX P w) P w K mg base ["queue"] "need_queue" (defScope s_need_queue) f cdv A outer s H E).A (cxOf (L2.CX P w) P w K mg base ["queue"] "need_queue" (defScope s_need_queue) f cdv A outer s H E).env (cxOf (L2.CX P w) P w K mg base ["queue"] "need_queue" (defScope s_need_queue) f cdv A outer s H E).xe := passes_of rfl
    let cz : Cz := ⟨K, cl, fun _ => E⟩
    exact ⟨_, (bc (sexp (xcal rfl C_need hr tk rfl (a1 (xcal rfl C_is_asks hr tk rfl (a1 (xv 0) a0)) (a1 xs a0))))
      (b1 (sexp (xcal rfl C_need_order hr tk rfl (a1 (xv 0) a0)))))⟩
theorem sc_history_by : FnScope ["queue", "front", "place", "events", "low", "high"] ["queue"] (defScope s_history_by) := ⟨rfl, rfl, rfl, by decide +kernel, rfl, by decide +kernel, by decide +kernel⟩
def lp_history_by_0 : Nv → RS := (sSeq (sIf (tVal (eBin gGt (eV 5) (eV 2))) (sApp 3 (aCons (eTup (aCons (eC (.str "put")) (aCons (eBin Dl.gSub (eV 5) (eV 2)) aNil))) aNil)) sNext)
    (sSeq (sIf (tVal (eBin gGt (eV 4) (eV 1))) (sApp 3 (aCons (eTup (aCons (eC (.str "drop")) (aCons (eBin Dl.gSub (eV 4) (eV 1)) aNil))) aNil)) sNext)
    (sSeq (sApp 3 (aCons (eTup (aCons (eC (.str "ask")) aNil)) aNil))
    (sSeq (sSet 1 (eV 4))
    (sSet 2 (eV 5))))))
def m_history_by : Nv → RS :=
  (sSeq (sExpr (eCall f_need_queue (aCons (eV 0) aNil)))
    (sSeq (sSet 1 (eC (.int 0)))
    (sSeq (sSet 2 (eC (.int 0)))
    (sSeq (sNew 3 (oLst aNil))
    (sSeq (sFor (iT (eV 0)) (gT 2 (gsC (gN 4) (gsC (gN 5) gsN))) (lp_history_by_0))
    (sRet (eCb gTupOf (aCons (eV 3) aNil))))))))
def f_history_by : Nv → Rs Rv := ary 1 (body 5 (m_history_by))
theorem ok_history_by {P : Program} {w : World} {K : PySem.W.Frag} {mg : Str → Option Value} {base : Heap} {cl : Str → Option Value} {f : Addr} {fd : FuncData} (F : Fun K "history_by" "history_by" s_history_by f fd) (hm : mg "history_by" = some (.ref f)) (T : Txt P w K mg base cl) (C_need_queue : Cal P w K mg base cl 8 "need_queue" ["queue"] f_need_queue) :
    Cal P w K mg base cl 9 "history_by" ["queue"] f_history_by :=
  cal_mk (g := m_history_by) (m := 5) F hm sc_history_by rfl (fun _ _ _ _ _ _ us hl => match us, hl with | [_], _ => rfl) fun cdv A outer s H E hr => by
    have tk : Takes (cxOf (L2.CX P w) P w K mg base ["queue", "front", "place", "events", "low", "high"] "history_by" (defScope s_history_by) f cdv A outer s H E) (fun cls d _ H => E cls d H) := takes_of rfl rfl rfl rfl
    have po : PassesOwn (model P w) (cxOf (L2.CX P w) P w K mg base ["queue", "front", "place", "events", "low", "high"] "history_by" (defScope s_history_by) f cdv A outer s H E).A (cxOf (L2.CX P w) P w K mg base ["queue", "front", "place", "events", "low", "high"] "history_by" (defScope s_history_by) f cdv A outer s H E).env (cxOf (L2.CX P w) P w K mg base ["queue", "front", "place", "events", "low", "high"] "history_by" (defScope s_history_by) f cdv A outer s H E).xe := passes_of rfl
    let cz : Cz := ⟨K, cl, fun _ => E⟩
    exact ⟨_, (bc (sexp (xcal rfl C_need_queue hr tk rfl (a1 (xv 0) a0)))
      (bc (sset 1 sc_history_by.nd xi)
      (bc (sset 2 sc_history_by.nd xi)
      (bc (snew 3 sc_history_by.nd (olst a0))
      (bc (sfor po rfl (itup (xv 0)) (gtup rfl (gs1 (gx 4 sc_history_by.nd) (gs1 (gx 5 sc_history_by.nd) gs0))) (bc (sif (xtcmp c_gt (xv 5) (xv 2)) (b1 (sappn 3 (xv 3) (a1 (xtup (a1 xs (a1 (xsub (xv 5) (xv 2)) a0))) a0))) b0)
      (bc (sif (xtcmp c_gt (xv 4) (xv 1)) (b1 (sappn 3 (xv 3) (a1 (xtup (a1 xs (a1 (xsub (xv 4) (xv 1)) a0))) a0))) b0)
      (bc (sappn 3 (xv 3) (a1 (xtup (a1 xs a0)) a0))
      (bc (sset 1 sc_history_by.nd (xv 4))
      (b1 (sset 2 sc_history_by.nd (xv 5))))))))
      (b1 (sret (xct call_tuple_of tupOf_ok rfl T.b.tuple (by decide +kernel) (a1 (xv 3) a0)))))))))⟩
theorem sc__law_call : FnScope ["_law_which", "_law_a", "_law_b", "_law_c", "e"] ["_law_which", "_law_a", "_law_b", "_law_c"] (defScope s__law_call) := ⟨rfl, rfl, rfl, by decide +kernel, rfl, by decide +kernel, by decide +kernel⟩
def m__law_call : Nv → RS :=
  (sTryM 4 [("NotUsable", (gUT (gUC (fun _ => some (.str "no")) (gUC (fun fs => fs.lookup ("word" : Str)) (gUC (fun fs => fs.lookup ("at" : Str)) (gUC (fun _ => some (.bool (true && (!false)))) (fun _ => some []))))))), ("OutOfOrder", (gUT (gUC (fun _ => some (.str "order")) (gUC (fun fs => fs.lookup ("one" : Str)) (gUC (fun fs => fs.lookup ("other" : Str)) (gUC (fun _ => some (.bool (true && true))) (fun _ => some []))))))), ("InvalidPaper", (gUT (gUC (fun _ => some (.str "paper")) (gUC (fun fs => fs.lookup ("word" : Str)) (gUC (fun fs => fs.lookup ("at" : Str)) (gUC (fun _ => some (.bool (true && true))) (fun _ => some [])))))))] (sSeq (sIf (tVal (eBin (gEq false) (eV 0) (eC (.str "lets_history")))) (sRet (eTup (aCons (eC (.str "ok")) (aCons (eCall f_lets_history (aCons (eV 1) aNil)) aNil)))) sNext)
    (sSeq (sIf (tVal (eBin (gEq false) (eV 0) (eC (.str "asks_by")))) (sRet (eTup (aCons (eC (.str "ok")) (aCons (eCall f_asks_by (aCons (eV 1) aNil)) aNil)))) sNext)
    (sSeq (sIf (tVal (eBin (gEq false) (eV 0) (eC (.str "history_by")))) (sRet (eTup (aCons (eC (.str "ok")) (aCons (eCall f_history_by (aCons (eV 1) aNil)) aNil)))) sNext)
    (sSeq (sIf (tVal (eBin (gEq false) (eV 0) (eC (.str "steady_asks")))) (sRet (eTup (aCons (eC (.str "ok")) (aCons (eCall f_steady_asks (aCons (eV 1) (aCons (eV 2) (aCons (eV 3) aNil)))) aNil)))) sNext)
    (sSeq (sIf (tVal (eBin (gEq false) (eV 0) (eC (.str "calendar_asks")))) (sRet (eTup (aCons (eC (.str "ok")) (aCons (eCall f_calendar_asks (aCons (eV 1) aNil)) aNil)))) sNext)
    (sRet (eTup (aCons (eC (.str "ok")) (aCons (eCall f_timed_asks (aCons (eV 1) (aCons (eV 2) (aCons (eV 3) aNil)))) aNil))))))))))
def f__law_call : Nv → Rs Rv := ary 4 (body 1 (m__law_call))
theorem ok__law_call {P : Program} {w : World} {K : PySem.W.Frag} {mg : Str → Option Value} {base : Heap} {cl : Str → Option Value} {f : Addr} {fd : FuncData} (F : Fun K "_law_call" "_law_call" s__law_call f fd) (hm : mg "_law_call" = some (.ref f)) (T : Txt P w K mg base cl) (C_timed_asks : Cal P w K mg base cl 5 "timed_asks" ["times", "length", "moments"] f_timed_asks) (C_lets_history : Cal P w K mg base cl 5 "lets_history" ["thing"] f_lets_history) (C_asks_by : Cal P w K mg base cl 6 "asks_by" ["history"] f_asks_by) (C_history_by : Cal P w K mg base cl 9 "history_by" ["queue"] f_history_by) (C_steady_asks : Cal P w K mg base cl 4 "steady_asks" ["width", "hop", "many"] f_steady_asks) (C_calendar_asks : Cal P w K mg base cl 4 "calendar_asks" ["widths"] f_calendar_asks) :
    Cal P w K mg base cl 10 "_law_call" ["_law_which", "_law_a", "_law_b", "_law_c"] f__law_call :=
  cal_mk (g := m__law_call) (m := 1) F hm sc__law_call rfl (fun _ _ _ _ _ _ us hl => match us, hl with | [_, _, _, _], _ => rfl) fun cdv A outer s H E hr => by
    have tk : Takes (cxOf (L2.CX P w) P w K mg base ["_law_which", "_law_a", "_law_b", "_law_c", "e"] "_law_call" (defScope s__law_call) f cdv A outer s H E) (fun cls d _ H => E cls d H) := takes_of rfl rfl rfl rfl
    have po : PassesOwn (model P w) (cxOf (L2.CX P w) P w K mg base ["_law_which", "_law_a", "_law_b", "_law_c", "e"] "_law_call" (defScope s__law_call) f cdv A outer s H E).A (cxOf (L2.CX P w) P w K mg base ["_law_which", "_law_a", "_law_b", "_law_c", "e"] "_law_call" (defScope s__law_call) f cdv A outer s H E).env (cxOf (L2.CX P w) P w K mg base ["_law_which", "_law_a", "_law_b", "_law_c", "e"] "_law_call" (defScope s__law_call) f cdv A outer s H E).xe := passes_of rfl
    let cz : Cz := ⟨K, cl, fun _ => E⟩
    exact ⟨_, (b1 (stryM 4 sc__law_call.nd rfl rfl rfl rfl T.exm (fun W pn xe tk _ => (bc (sif (xtcmp (c_eq hr) (xv 0) xs) (b1 (sret (xtup (a1 xs (a1 (xcalS rfl C_lets_history hr tk rfl (a1 (xv 1) a0)) a0))))) b0)
      (bc (sif (xtcmp (c_eq hr) (xv 0) xs) (b1 (sret (xtup (a1 xs (a1 (xcalS rfl C_asks_by hr tk rfl (a1 (xv 1) a0)) a0))))) b0)
      (bc (sif (xtcmp (c_eq hr) (xv 0) xs) (b1 (sret (xtup (a1 xs (a1 (xcalS rfl C_history_by hr tk rfl (a1 (xv 1) a0)) a0))))) b0)
      (bc (sif (xtcmp (c_eq hr) (xv 0) xs) (b1 (sret (xtup (a1 xs (a1 (xcalS rfl C_steady_asks hr tk rfl (a1 (xv 1) (a1 (xv 2) (a1 (xv 3) a0)))) a0))))) b0)
      (bc (sif (xtcmp (c_eq hr) (xv 0) xs) (b1 (sret (xtup (a1 xs (a1 (xcalS rfl C_calendar_asks hr tk rfl (a1 (xv 1) a0)) a0))))) b0)
      (b1 (sret (xtup (a1 xs (a1 (xcalS rfl C_timed_asks hr tk rfl (a1 (xv 1) (a1 (xv 2) (a1 (xv 3) a0)))) a0)))))))))))
      (.cons (.head _) T.e_NotUsable ⟨rfl, by decide, .inl T.x_NotUsable.gC⟩ (su_ret (ust (usc ux_s (usc (ux_f rfl T.x_NotUsable.xf T.x_NotUsable.nf) (usc (ux_f rfl T.x_NotUsable.xf T.x_NotUsable.ng) (usc (ux_and2 (ux_is (b := true) rfl T.i_NotUsable (.own _) T.k_NotUsable_AskError rfl T.b.isinstance (fun _ _ _ => pe_glob (v := .ref T.a_AskError) rfl T.g_AskError rfl (by decide))) (ux_not (ux_is (b := false) rfl T.i_NotUsable (.own _) T.k_NotUsable_PaperError rfl T.b.isinstance (fun _ _ _ => pe_glob (v := .ref T.a_PaperError) rfl T.g_PaperError rfl (by decide))))) us0))))))
      (.cons (.tail _ (.head _)) T.e_OutOfOrder ⟨rfl, by decide, .inl T.x_OutOfOrder.gC⟩ (su_ret (ust (usc ux_s (usc (ux_f rfl T.x_OutOfOrder.xf T.x_OutOfOrder.nf) (usc (ux_f rfl T.x_OutOfOrder.xf T.x_OutOfOrder.ng) (usc (ux_and2 (ux_is (b := true) rfl T.i_OutOfOrder (.own _) T.k_OutOfOrder_AskError rfl T.b.isinstance (fun _ _ _ => pe_glob (v := .ref T.a_AskError) rfl T.g_AskError rfl (by decide))) (ux_is (b := true) rfl T.i_OutOfOrder (.ty _) T.k_OutOfOrder_ValueError rfl T.b.isinstance (fun _ _ _ => pe_bltn rfl T.b_ValueError (by decide +kernel) rfl (by decide) (by decide)))) us0))))))
      (.cons (.tail _ (.tail _ (.head _))) T.e_InvalidPaper ⟨rfl, by decide, .inl T.x_InvalidPaper.gC⟩ (su_ret (ust (usc ux_s (usc (ux_f rfl T.x_InvalidPaper.xf T.x_InvalidPaper.nf) (usc (ux_f rfl T.x_InvalidPaper.xf T.x_InvalidPaper.ng) (usc (ux_and2 (ux_is (b := true) rfl T.i_InvalidPaper (.own _) T.k_InvalidPaper_PaperError rfl T.b.isinstance (fun _ _ _ => pe_glob (v := .ref T.a_PaperError) rfl T.g_PaperError rfl (by decide))) (ux_is (b := true) rfl T.i_InvalidPaper (.own _) T.k_InvalidPaper_UnderError rfl T.b.isinstance (fun _ _ _ => pe_glob (v := .ref T.a_UnderError) rfl T.g_UnderError rfl (by decide)))) us0))))))
      .nil)))))⟩
theorem sc__law_history : FnScope ["_law_events_here", "_law_played", "_law_row_here"] ["_law_events_here"] (defScope s__law_history) := ⟨rfl, rfl, rfl, by decide +kernel, rfl, by decide +kernel, by decide +kernel⟩
def m__law_history : Nv → RS :=
  (sSeq (sSet 1 (eCall f__law_play (aCons (eV 0) aNil)))
    (sSeq (sSet 2 (eCall f__law_line (aCons (eBin gIx (eV 1) (eC (.int 0))) aNil)))
    (sSeq (sIf (tOrF (tNotF (tVal (eCall f__law_same (aCons (eCallR f_lets_history (aCons (eV 0) aNil)) (aCons (eCb gLen (aCons (eBin gIx (eV 1) (eC (.int 1))) aNil)) aNil))))) (tVal (eBin (gIsB true) (eCallR f_is_history (aCons (eV 0) aNil)) (eC (.bool true))))) (sRet (eC (.bool false))) sNext)
    (sSeq (sIf (tOrF (tNotF (tVal (eCall f__law_same (aCons (eCall f_asks_by (aCons (eV 0) aNil)) (aCons (eV 2) aNil))))) (tVal (eBin (gIsB true) (eCall f_is_queue (aCons (eCallR f_asks_by (aCons (eV 0) aNil)) aNil)) (eC (.bool true))))) (sRet (eC (.bool false))) sNext)
    (sRet (eAnd (eCall f__law_steps (aCons (eCall f_history_by (aCons (eV 2) aNil)) (aCons (eV 2) aNil))) (eCall f__law_same (aCons (eCall f_asks_by (aCons (eCallR f_history_by (aCons (eV 2) aNil)) aNil)) (aCons (eV 2) aNil)))))))))
def f__law_history : Nv → Rs Rv := ary 1 (body 2 (m__law_history))
theorem ok__law_history {P : Program} {w : World} {K : PySem.W.Frag} {mg : Str → Option Value} {base : Heap} {cl : Str → Option Value} {f : Addr} {fd : FuncData} (F : Fun K "_law_history" "_law_history" s__law_history f fd) (hm : mg "_law_history" = some (.ref f)) (T : Txt P w K mg base cl) (C__law_play : Cal P w K mg base cl 1 "_law_play" ["_law_events_here"] f__law_play) (C__law_line : Cal P w K mg base cl 1 "_law_line" ["_law_parts"] f__law_line) (C__law_steps : Cal P w K mg base cl 4 "_law_steps" ["_law_told", "_law_row_here"] f__law_steps) (C__law_same : Cal P w K mg base cl 6 "_law_same" ["_law_got", "_law_due"] f__law_same) (C_is_queue : Cal P w K mg base cl 6 "is_queue" ["thing"] f_is_queue) (C_history_by : Cal P w K mg base cl 9 "history_by" ["queue"] f_history_by) (C_asks_by : Cal P w K mg base cl 6 "asks_by" ["history"] f_asks_by) (R_is_history : CalR P w K mg base cl 5 "is_history" ["thing"] ["thing"] f_is_history) (R_lets_history : CalR P w K mg base cl 5 "lets_history" ["thing"] ["thing"] f_lets_history) (R_asks_by : CalR P w K mg base cl 6 "asks_by" ["history"] ["history"] f_asks_by) (R_history_by : CalR P w K mg base cl 9 "history_by" ["queue"] ["queue"] f_history_by) :
    Cal P w K mg base cl 10 "_law_history" ["_law_events_here"] f__law_history :=
  cal_mk (g := m__law_history) (m := 2) F hm sc__law_history rfl (fun _ _ _ _ _ _ us hl => match us, hl with | [_], _ => rfl) fun cdv A outer s H E hr => by
    have tk : Takes (cxOf (L2.CX P w) P w K mg base ["_law_events_here", "_law_played", "_law_row_here"] "_law_history" (defScope s__law_history) f cdv A outer s H E) (fun cls d _ H => E cls d H) := takes_of rfl rfl rfl rfl
    have po : PassesOwn (model P w) (cxOf (L2.CX P w) P w K mg base ["_law_events_here", "_law_played", "_law_row_here"] "_law_history" (defScope s__law_history) f cdv A outer s H E).A (cxOf (L2.CX P w) P w K mg base ["_law_events_here", "_law_played", "_law_row_here"] "_law_history" (defScope s__law_history) f cdv A outer s H E).env (cxOf (L2.CX P w) P w K mg base ["_law_events_here", "_law_played", "_law_row_here"] "_law_history" (defScope s__law_history) f cdv A outer s H E).xe := passes_of rfl
    let cz : Cz := ⟨K, cl, fun _ => E⟩
    exact ⟨_, (bc (sset 1 sc__law_history.nd (xcal rfl C__law_play hr tk rfl (a1 (xv 0) a0)))
      (bc (sset 2 sc__law_history.nd (xcal rfl C__law_line hr tk rfl (a1 (xix (xv 1) xi) a0)))
      (bc (sif (xtw (wor (xtnot (xt (xcal rfl C__law_same hr tk rfl (a1 (xcalR rfl R_lets_history hr tk rfl (k1 (xv 0) k0)) (a1 (xcb cr_len len_ok rfl T.b.len (by decide +kernel) (a1 (xix (xv 1) xi) a0)) a0))))) (wor1 (xtcmp c_isnB (xcalR rfl R_is_history hr tk rfl (k1 (xv 0) k0)) xb)))) (b1 (sret xb)) b0)
      (bc (sif (xtw (wor (xtnot (xt (xcal rfl C__law_same hr tk rfl (a1 (xcal rfl C_asks_by hr tk rfl (a1 (xv 0) a0)) (a1 (xv 2) a0))))) (wor1 (xtcmp c_isnB (xcal rfl C_is_queue hr tk rfl (a1 (xcalR rfl R_asks_by hr tk rfl (k1 (xv 0) k0)) a0)) xb)))) (b1 (sret xb)) b0)
      (b1 (sret (xand (xcal rfl C__law_steps hr tk rfl (a1 (xcal rfl C_history_by hr tk rfl (a1 (xv 2) a0)) (a1 (xv 2) a0))) (xone (xcal rfl C__law_same hr tk rfl (a1 (xcal rfl C_asks_by hr tk rfl (a1 (xcalR rfl R_history_by hr tk rfl (k1 (xv 2) k0)) a0)) (a1 (xv 2) a0)))))))))))⟩
theorem sc__law_refused : FnScope ["_law_which", "_law_a", "_law_b", "_law_c", "_law_word"] ["_law_which", "_law_a", "_law_b", "_law_c", "_law_word"] (defScope s__law_refused) := ⟨rfl, rfl, rfl, by decide +kernel, rfl, by decide +kernel, by decide +kernel⟩
def m__law_refused : Nv → RS :=
  (sRet (eCall f__law_same (aCons (eCall f__law_call (aCons (eV 0) (aCons (eV 1) (aCons (eV 2) (aCons (eV 3) aNil))))) (aCons (eTup (aCons (eC (.str "no")) (aCons (eV 4) (aCons (eUn (fun | .int i => some (.int (-i)) | _ => none) (eC (.int 1))) (aCons (eC (.bool true)) aNil))))) aNil))))
def f__law_refused : Nv → Rs Rv := ary 5 (body 0 (m__law_refused))
theorem ok__law_refused {P : Program} {w : World} {K : PySem.W.Frag} {mg : Str → Option Value} {base : Heap} {cl : Str → Option Value} {f : Addr} {fd : FuncData} (F : Fun K "_law_refused" "_law_refused" s__law_refused f fd) (hm : mg "_law_refused" = some (.ref f)) (T : Txt P w K mg base cl) (C__law_same : Cal P w K mg base cl 6 "_law_same" ["_law_got", "_law_due"] f__law_same) (C__law_call : Cal P w K mg base cl 10 "_law_call" ["_law_which", "_law_a", "_law_b", "_law_c"] f__law_call) :
    Cal P w K mg base cl 11 "_law_refused" ["_law_which", "_law_a", "_law_b", "_law_c", "_law_word"] f__law_refused :=
  cal_mk (g := m__law_refused) (m := 0) F hm sc__law_refused rfl (fun _ _ _ _ _ _ us hl => match us, hl with | [_, _, _, _, _], _ => rfl) fun cdv A outer s H E hr => by
    have tk : Takes (cxOf (L2.CX P w) P w K mg base ["_law_which", "_law_a", "_law_b", "_law_c", "_law_word"] "_law_refused" (defScope s__law_refused) f cdv A outer s H E) (fun cls d _ H => E cls d H) := takes_of rfl rfl rfl rfl
    have po : PassesOwn (model P w) (cxOf (L2.CX P w) P w K mg base ["_law_which", "_law_a", "_law_b", "_law_c", "_law_word"] "_law_refused" (defScope s__law_refused) f cdv A outer s H E).A (cxOf (L2.CX P w) P w K mg base ["_law_which", "_law_a", "_law_b", "_law_c", "_law_word"] "_law_refused" (defScope s__law_refused) f cdv A outer s H E).env (cxOf (L2.CX P w) P w K mg base ["_law_which", "_law_a", "_law_b", "_law_c", "_law_word"] "_law_refused" (defScope s__law_refused) f cdv A outer s H E).xe := passes_of rfl
    let cz : Cz := ⟨K, cl, fun _ => E⟩
    exact ⟨_, (b1 (sret (xcal rfl C__law_same hr tk rfl (a1 (xcal rfl C__law_call hr tk rfl (a1 (xv 0) (a1 (xv 1) (a1 (xv 2) (a1 (xv 3) a0))))) (a1 (xtup (a1 xs (a1 (xv 4) (a1 (xneg xi) (a1 xb a0))))) a0)))))⟩
theorem sc__law_spoilt_histories : FnScope ["_law_events_here", "_law_pick", "_law_thing", "_law_due", "_law_answer"] ["_law_events_here", "_law_pick"] (defScope s__law_spoilt_histories) := ⟨rfl, rfl, rfl, by decide +kernel, rfl, by decide +kernel, by decide +kernel⟩
def lp__law_spoilt_histories_0 : Nv → RS := (sSeq (sSet 3 (eCall f__law_checked (aCons (eV 2) aNil)))
    (sSeq (sIf (tNotF (tVal (eCall f__law_same (aCons (eCall f__law_call (aCons (eC (.str "lets_history")) (aCons (eV 2) (aCons (eC .none) (aCons (eC .none) aNil))))) (aCons (eV 3) aNil))))) (sRet (eC (.bool false))) sNext)
    (sSeq (sIf (tNotF (tVal (eCall f__law_same (aCons (eCall f_is_history (aCons (eV 2) aNil)) (aCons (eBin (gEq false) (eBin gIx (eV 3) (eC (.int 0))) (eC (.str "ok"))) aNil))))) (sRet (eC (.bool false))) sNext)
    (sSeq (sSet 4 (eTup (aCons (eC (.str "no")) (aCons (eC (.str "history")) (aCons (eUn (fun | .int i => some (.int (-i)) | _ => none) (eC (.int 1))) (aCons (eC (.bool true)) aNil))))))
    (sSeq (sIf (tVal (eBin (gEq false) (eBin gIx (eV 3) (eC (.int 0))) (eC (.str "ok")))) (sSet 4 (eTup (aCons (eC (.str "ok")) (aCons (eCall f__law_line (aCons (eBin gIx (eCall f__law_play (aCons (eV 2) aNil)) (eC (.int 0))) aNil)) aNil)))) sNext)
    (sIf (tNotF (tVal (eCall f__law_same (aCons (eCall f__law_call (aCons (eC (.str "asks_by")) (aCons (eV 2) (aCons (eC .none) (aCons (eC .none) aNil))))) (aCons (eV 4) aNil))))) (sRet (eC (.bool false))) sNext))))))
def m__law_spoilt_histories : Nv → RS :=
  (sSeq (sFor (iL (eCall f__law_spoilt (aCons (eV 0) (aCons (eV 1) aNil)))) (gN 2) (lp__law_spoilt_histories_0))
    (sRet (eC (.bool true))))
def f__law_spoilt_histories : Nv → Rs Rv := ary 2 (body 3 (m__law_spoilt_histories))
theorem ok__law_spoilt_histories {P : Program} {w : World} {K : PySem.W.Frag} {mg : Str → Option Value} {base : Heap} {cl : Str → Option Value} {f : Addr} {fd : FuncData} (F : Fun K "_law_spoilt_histories" "_law_spoilt_histories" s__law_spoilt_histories f fd) (hm : mg "_law_spoilt_histories" = some (.ref f)) (T : Txt P w K mg base cl) (C__law_spoilt : Cal P w K mg base cl 4 "_law_spoilt" ["_law_events_here", "_law_pick"] f__law_spoilt) (C__law_checked : Cal P w K mg base cl 3 "_law_checked" ["_law_thing"] f__law_checked) (C__law_same : Cal P w K mg base cl 6 "_law_same" ["_law_got", "_law_due"] f__law_same) (C__law_call : Cal P w K mg base cl 10 "_law_call" ["_law_which", "_law_a", "_law_b", "_law_c"] f__law_call) (C_is_history : Cal P w K mg base cl 5 "is_history" ["thing"] f_is_history) (C__law_line : Cal P w K mg base cl 1 "_law_line" ["_law_parts"] f__law_line) (C__law_play : Cal P w K mg base cl 1 "_law_play" ["_law_events_here"] f__law_play) :
    Cal P w K mg base cl 11 "_law_spoilt_histories" ["_law_events_here", "_law_pick"] f__law_spoilt_histories :=
  cal_mk (g := m__law_spoilt_histories) (m := 3) F hm sc__law_spoilt_histories rfl (fun _ _ _ _ _ _ us hl => match us, hl with | [_, _], _ => rfl) fun cdv A outer s H E hr => by
    have tk : Takes (cxOf (L2.CX P w) P w K mg base ["_law_events_here", "_law_pick", "_law_thing", "_law_due", "_law_answer"] "_law_spoilt_histories" (defScope s__law_spoilt_histories) f cdv A outer s H E) (fun cls d _ H => E cls d H) := takes_of rfl rfl rfl rfl
    have po : PassesOwn (model P w) (cxOf (L2.CX P w) P w K mg base ["_law_events_here", "_law_pick", "_law_thing", "_law_due", "_law_answer"] "_law_spoilt_histories" (defScope s__law_spoilt_histories) f cdv A outer s H E).A (cxOf (L2.CX P w) P w K mg base ["_law_events_here", "_law_pick", "_law_thing", "_law_due", "_law_answer"] "_law_spoilt_histories" (defScope s__law_spoilt_histories) f cdv A outer s H E).env (cxOf (L2.CX P w) P w K mg base ["_law_events_here", "_law_pick", "_law_thing", "_law_due", "_law_answer"] "_law_spoilt_histories" (defScope s__law_spoilt_histories) f cdv A outer s H E).xe := passes_of rfl
    let cz : Cz := ⟨K, cl, fun _ => E⟩
    exact ⟨_, (bc (sfor po rfl (ilist (xcal rfl C__law_spoilt hr tk rfl (a1 (xv 0) (a1 (xv 1) a0)))) (gx 2 sc__law_spoilt_histories.nd) (bc (sset 3 sc__law_spoilt_histories.nd (xcal rfl C__law_checked hr tk rfl (a1 (xv 2) a0)))
      (bc (sif (xtnot (xt (xcal rfl C__law_same hr tk rfl (a1 (xcal rfl C__law_call hr tk rfl (a1 xs (a1 (xv 2) (a1 xn (a1 xn a0))))) (a1 (xv 3) a0))))) (b1 (sret xb)) b0)
      (bc (sif (xtnot (xt (xcal rfl C__law_same hr tk rfl (a1 (xcal rfl C_is_history hr tk rfl (a1 (xv 2) a0)) (a1 (xcmp (c_eq hr) (xix (xv 3) xi) xs) a0))))) (b1 (sret xb)) b0)
      (bc (sset 4 sc__law_spoilt_histories.nd (xtup (a1 xs (a1 xs (a1 (xneg xi) (a1 xb a0))))))
      (bc (sif (xtcmp (c_eq hr) (xix (xv 3) xi) xs) (b1 (sset 4 sc__law_spoilt_histories.nd (xtup (a1 xs (a1 (xcal rfl C__law_line hr tk rfl (a1 (xix (xcal rfl C__law_play hr tk rfl (a1 (xv 2) a0)) xi) a0)) a0))))) b0)
      (b1 (sif (xtnot (xt (xcal rfl C__law_same hr tk rfl (a1 (xcal rfl C__law_call hr tk rfl (a1 xs (a1 (xv 2) (a1 xn (a1 xn a0))))) (a1 (xv 4) a0))))) (b1 (sret xb)) b0))))))))
      (b1 (sret xb)))⟩
theorem sc__law_rows : FnScope ["_law_row_here", "_law_pick", "_law_at", "_law_bad", "_law_things", "_law_thing", "_law_fault_here", "_law_got"] ["_law_row_here", "_law_pick"] (defScope s__law_rows) := ⟨rfl, rfl, rfl, by decide +kernel, rfl, by decide +kernel, by decide +kernel⟩
def lp__law_rows_0 : Nv → RS := (sIf (tNotF (tVal (eCall f__law_asks (aCons (eV 5) aNil)))) (sIf (tOrF (tNotF (tVal (eCall f__law_refused (aCons (eC (.str "history_by")) (aCons (eV 5) (aCons (eC .none) (aCons (eC .none) (aCons (eC (.str "queue")) aNil)))))))) (tVal (eBin (gIsB true) (eCall f_is_queue (aCons (eV 5) aNil)) (eC (.bool false))))) (sRet (eC (.bool false))) sNext) (sSeq (sSet 6 (eCall f__law_fault (aCons (eV 5) aNil)))
    (sSeq (sSet 7 (eCall f__law_call (aCons (eC (.str "history_by")) (aCons (eV 5) (aCons (eC .none) (aCons (eC .none) aNil))))))
    (sSeq (sIf (tNotF (tVal (eCall f__law_same (aCons (eCall f_is_queue (aCons (eV 5) aNil)) (aCons (eIsN false (eV 6)) aNil))))) (sRet (eC (.bool false))) sNext)
    (sIf (tVal (eIsN false (eV 6))) (sIf (tOrF (tVal (eBin (gEq true) (eBin gIx (eV 7) (eC (.int 0))) (eC (.str "ok")))) (tOrF (tNotF (tVal (eCall f__law_steps (aCons (eBin gIx (eV 7) (eC (.int 1))) (aCons (eV 5) aNil))))) (tNotF (tVal (eCall f__law_same (aCons (eCall f_asks_by (aCons (eBin gIx (eV 7) (eC (.int 1))) aNil)) (aCons (eV 5) aNil))))))) (sRet (eC (.bool false))) sNext) (sIf (tNotF (tVal (eCall f__law_same (aCons (eV 7) (aCons (eTup (aCons (eC (.str "order")) (aCons (eBin gIx (eV 6) (eC (.int 0))) (aCons (eBin gIx (eV 6) (eC (.int 1))) (aCons (eC (.bool true)) aNil))))) aNil))))) (sRet (eC (.bool false))) sNext))))))
def m__law_rows : Nv → RS :=
  (sSeq (sSet 2 (eBin gMod (eCb gInt (aCons (eV 1) aNil)) (eBin gAdd (eCb gLen (aCons (eV 0) aNil)) (eC (.int 1)))))
    (sSeq (sSet 3 (eTup (aCons (eBin gIx (eTup (aCons (eTup (aCons (eC (.int 2)) (aCons (eC (.int 2)) aNil))) (aCons (eOf (oLst (aCons (eC (.int 0)) (aCons (eC (.int 1)) aNil)))) (aCons (eTup (aCons (eC (.int 0)) (aCons (eC (.bool true)) aNil))) (aCons (eC .none) (aCons (eTup (aCons (eC (.int 1)) (aCons (eC (.int 2)) (aCons (eC (.int 3)) aNil)))) (aCons (eC (.str "0-1")) (aCons (eTup (aCons (eUn (fun | .int i => some (.int (-i)) | _ => none) (eC (.int 1))) (aCons (eC (.int 2)) aNil))) (aCons (eC (.int 5)) aNil))))))))) (eBin gMod (eCb gInt (aCons (eBin gDiv (eV 1) (eC (.int 61))) aNil)) (eC (.int 8)))) aNil)))
    (sSeq (sSet 4 (eOf (oLst (aCons (eV 0) (aCons (eOf (oCb gLstOf (aCons (eV 0) aNil))) (aCons (eC .none) (aCons (eBin gAdd (eV 0) (eSl (eV 0) pN (pS (eC (.int 1))))) (aCons (eUn gRvs (eV 0)) (aCons (eBin gAdd (eBin gAdd (eSl (eV 0) pN (pS (eV 2))) (eV 3)) (eSl (eV 0) (pS (eV 2)) pN)) (aCons (eTup (aCons (eV 0) aNil)) (aCons (eBin gAdd (eSl (eV 0) (pS (eV 2)) pN) (eSl (eV 0) pN (pS (eV 2)))) aNil)))))))))))
    (sSeq (sSet 4 (eBin gAdd (eV 4) (eOf (oLst (aCons (eBin gAdd (eSl (eV 0) pN (pS (eV 2))) (eSl (eV 0) (pS (eBin gAdd (eV 2) (eC (.int 1)))) pN)) (aCons (eSl (eV 0) (pS (eV 2)) pN) (aCons (eC (.int 3)) (aCons (eBin gAdd (eV 3) (eSl (eV 0) (pS (eV 2)) pN)) (aCons (eCall f__law_line (aCons (eBin gAdd (eV 0) (eTup (aCons (eTup (aCons (eC (.int 0)) (aCons (eC (.int 50)) aNil))) (aCons (eTup (aCons (eC (.int 1)) (aCons (eC (.int 3)) aNil))) aNil)))) aNil)) aNil)))))))))
    (sSeq (sFor (iL (eV 4)) (gN 5) (lp__law_rows_0))
    (sRet (eC (.bool true))))))))
def f__law_rows : Nv → Rs Rv := ary 2 (body 6 (m__law_rows))
theorem ok__law_rows {P : Program} {w : World} {K : PySem.W.Frag} {mg : Str → Option Value} {base : Heap} {cl : Str → Option Value} {f : Addr} {fd : FuncData} (F : Fun K "_law_rows" "_law_rows" s__law_rows f fd) (hm : mg "_law_rows" = some (.ref f)) (T : Txt P w K mg base cl) (C__law_line : Cal P w K mg base cl 1 "_law_line" ["_law_parts"] f__law_line) (C__law_asks : Cal P w K mg base cl 2 "_law_asks" ["_law_thing"] f__law_asks) (C__law_fault : Cal P w K mg base cl 1 "_law_fault" ["_law_asks_here"] f__law_fault) (C__law_call : Cal P w K mg base cl 10 "_law_call" ["_law_which", "_law_a", "_law_b", "_law_c"] f__law_call) (C__law_same : Cal P w K mg base cl 6 "_law_same" ["_law_got", "_law_due"] f__law_same) (C__law_refused : Cal P w K mg base cl 11 "_law_refused" ["_law_which", "_law_a", "_law_b", "_law_c", "_law_word"] f__law_refused) (C_is_queue : Cal P w K mg base cl 6 "is_queue" ["thing"] f_is_queue) (C__law_steps : Cal P w K mg base cl 4 "_law_steps" ["_law_told", "_law_row_here"] f__law_steps) (C_asks_by : Cal P w K mg base cl 6 "asks_by" ["history"] f_asks_by) :
    Cal P w K mg base cl 12 "_law_rows" ["_law_row_here", "_law_pick"] f__law_rows :=
  cal_mk (g := m__law_rows) (m := 6) F hm sc__law_rows rfl (fun _ _ _ _ _ _ us hl => match us, hl with | [_, _], _ => rfl) fun cdv A outer s H E hr => by
    have tk : Takes (cxOf (L2.CX P w) P w K mg base ["_law_row_here", "_law_pick", "_law_at", "_law_bad", "_law_things", "_law_thing", "_law_fault_here", "_law_got"] "_law_rows" (defScope s__law_rows) f cdv A outer s H E) (fun cls d _ H => E cls d H) := takes_of rfl rfl rfl rfl
    have po : PassesOwn (model P w) (cxOf (L2.CX P w) P w K mg base ["_law_row_here", "_law_pick", "_law_at", "_law_bad", "_law_things", "_law_thing", "_law_fault_here", "_law_got"] "_law_rows" (defScope s__law_rows) f cdv A outer s H E).A (cxOf (L2.CX P w) P w K mg base ["_law_row_here", "_law_pick", "_law_at", "_law_bad", "_law_things", "_law_thing", "_law_fault_here", "_law_got"] "_law_rows" (defScope s__law_rows) f cdv A outer s H E).env (cxOf (L2.CX P w) P w K mg base ["_law_row_here", "_law_pick", "_law_at", "_law_bad", "_law_things", "_law_thing", "_law_fault_here", "_law_got"] "_law_rows" (defScope s__law_rows) f cdv A outer s H E).xe := passes_of rfl
    let cz : Cz := ⟨K, cl, fun _ => E⟩
    exact ⟨_, (bc (sset 2 sc__law_rows.nd (xmod (xct call_int1 int_ok rfl T.b.int (by decide +kernel) (a1 (xv 1) a0)) (xadd (xcb cr_len len_ok rfl T.b.len (by decide +kernel) (a1 (xv 0) a0)) xi)))
      (bc (sset 3 sc__law_rows.nd (xtup (a1 (xix (xtup (a1 (xtup (a1 xi (a1 xi a0))) (a1 (xof (olst (a1 xi (a1 xi a0)))) (a1 (xtup (a1 xi (a1 xb a0))) (a1 xn (a1 (xtup (a1 xi (a1 xi (a1 xi a0)))) (a1 xs (a1 (xtup (a1 (xneg xi) (a1 xi a0))) (a1 xi a0))))))))) (xmod (xct call_int1 int_ok rfl T.b.int (by decide +kernel) (a1 (xdiv (xv 1) xi) a0)) xi)) a0)))
      (bc (sset 4 sc__law_rows.nd (xof (olst (a1 (xv 0) (a1 (xof (oct call_list_of lstOf_ok rfl T.b.list (by decide +kernel) (a1 (xv 0) a0))) (a1 xn (a1 (xadd (xv 0) (xsl (xv 0) p_no (p_so xi))) (a1 (xrev (xv 0)) (a1 (xadd (xadd (xsl (xv 0) p_no (p_so (xv 2))) (xv 3)) (xsl (xv 0) (p_so (xv 2)) p_no)) (a1 (xtup (a1 (xv 0) a0)) (a1 (xadd (xsl (xv 0) (p_so (xv 2)) p_no) (xsl (xv 0) p_no (p_so (xv 2)))) a0)))))))))))
      (bc (sset 4 sc__law_rows.nd (xadd (xv 4) (xof (olst (a1 (xadd (xsl (xv 0) p_no (p_so (xv 2))) (xsl (xv 0) (p_so (xadd (xv 2) xi)) p_no)) (a1 (xsl (xv 0) (p_so (xv 2)) p_no) (a1 xi (a1 (xadd (xv 3) (xsl (xv 0) (p_so (xv 2)) p_no)) (a1 (xcal rfl C__law_line hr tk rfl (a1 (xadd (xv 0) (xtup (a1 (xtup (a1 xi (a1 xi a0))) (a1 (xtup (a1 xi (a1 xi a0))) a0)))) a0)) a0)))))))))
      (bc (sfor po rfl (ilist (xv 4)) (gx 5 sc__law_rows.nd) (b1 (sif (xtnot (xt (xcal rfl C__law_asks hr tk rfl (a1 (xv 5) a0)))) (b1 (sif (xtw (wor (xtnot (xt (xcal rfl C__law_refused hr tk rfl (a1 xs (a1 (xv 5) (a1 xn (a1 xn (a1 xs a0)))))))) (wor1 (xtcmp c_isnB (xcal rfl C_is_queue hr tk rfl (a1 (xv 5) a0)) xb)))) (b1 (sret xb)) b0)) (bc (sset 6 sc__law_rows.nd (xcal rfl C__law_fault hr tk rfl (a1 (xv 5) a0)))
      (bc (sset 7 sc__law_rows.nd (xcal rfl C__law_call hr tk rfl (a1 xs (a1 (xv 5) (a1 xn (a1 xn a0))))))
      (bc (sif (xtnot (xt (xcal rfl C__law_same hr tk rfl (a1 (xcal rfl C_is_queue hr tk rfl (a1 (xv 5) a0)) (a1 (xisn (xv 6)) a0))))) (b1 (sret xb)) b0)
      (b1 (sif (xtisn (xv 6)) (b1 (sif (xtw (wor (xtcmp (c_ne hr) (xix (xv 7) xi) xs) (wor (xtnot (xt (xcal rfl C__law_steps hr tk rfl (a1 (xix (xv 7) xi) (a1 (xv 5) a0))))) (wor1 (xtnot (xt (xcal rfl C__law_same hr tk rfl (a1 (xcal rfl C_asks_by hr tk rfl (a1 (xix (xv 7) xi) a0)) (a1 (xv 5) a0))))))))) (b1 (sret xb)) b0)) (b1 (sif (xtnot (xt (xcal rfl C__law_same hr tk rfl (a1 (xv 7) (a1 (xtup (a1 xs (a1 (xix (xv 6) xi) (a1 (xix (xv 6) xi) (a1 xb a0))))) a0))))) (b1 (sret xb)) b0))))))))))
      (b1 (sret xb)))))))⟩
theorem sc__law_bad_calendars : FnScope ["_law_pick", "_law_bad", "_law_falls", "_law_zero"] ["_law_pick"] (defScope s__law_bad_calendars) := ⟨rfl, rfl, rfl, by decide +kernel, rfl, by decide +kernel, by decide +kernel⟩
def lp__law_bad_calendars_0 : Nv → RS := (sSeq (sIf (tNotF (tVal (eCall f__law_refused (aCons (eC (.str "steady_asks")) (aCons (eV 1) (aCons (eV 1) (aCons (eC .none) (aCons (eC (.str "width")) aNil)))))))) (sRet (eC (.bool false))) sNext)
    (sSeq (sIf (tNotF (tVal (eCall f__law_refused (aCons (eC (.str "steady_asks")) (aCons (eC (.int 2)) (aCons (eV 1) (aCons (eUn (fun | .int i => some (.int (-i)) | _ => none) (eC (.int 1))) (aCons (eC (.str "hop")) aNil)))))))) (sRet (eC (.bool false))) sNext)
    (sIf (tNotF (tVal (eCall f__law_refused (aCons (eC (.str "timed_asks")) (aCons (eTup (aCons (eC (.int 0)) (aCons (eC (.int 1)) aNil))) (aCons (eV 1) (aCons (eC .none) (aCons (eC (.str "length")) aNil)))))))) (sRet (eC (.bool false))) sNext)))
def lp__law_bad_calendars_1 : Nv → RS := (sSeq (sIf (tNotF (tVal (eCall f__law_refused (aCons (eC (.str "timed_asks")) (aCons (eV 1) (aCons (eC (.int 0)) (aCons (eV 1) (aCons (eC (.str "times")) aNil)))))))) (sRet (eC (.bool false))) sNext)
    (sSeq (sIf (tNotF (tVal (eCall f__law_refused (aCons (eC (.str "calendar_asks")) (aCons (eV 1) (aCons (eC .none) (aCons (eC .none) (aCons (eC (.str "widths")) aNil)))))))) (sRet (eC (.bool false))) sNext)
    (sIf (tNotF (tVal (eCall f__law_refused (aCons (eC (.str "timed_asks")) (aCons (eTup (aCons (eC (.int 0)) (aCons (eC (.int 1)) aNil))) (aCons (eC (.int 2)) (aCons (eV 1) (aCons (eC (.str "moments")) aNil)))))))) (sRet (eC (.bool false))) sNext)))
def lp__law_bad_calendars_2 : Nv → RS := (sIf (tNotF (tVal (eCall f__law_refused (aCons (eC (.str "steady_asks")) (aCons (eC (.int 2)) (aCons (eC (.int 1)) (aCons (eV 1) (aCons (eC (.str "many")) aNil)))))))) (sRet (eC (.bool false))) sNext)
def m__law_bad_calendars : Nv → RS :=
  (sSeq (sFor (iT (eTup (aCons (eC (.int 0)) (aCons (eC (.bool true)) (aCons (eUn (fun | .int i => some (.int (-i)) | _ => none) (eC (.int 1))) (aCons (eC .none) (aCons (eC (.str "3")) (aCons (eTup (aCons (eC (.int 1)) aNil)) aNil)))))))) (gN 1) (lp__law_bad_calendars_0))
    (sSeq (sFor (iT (eTup (aCons (eOf (oLst (aCons (eC (.int 1)) (aCons (eC (.int 2)) aNil)))) (aCons (eTup (aCons (eUn (fun | .int i => some (.int (-i)) | _ => none) (eC (.int 1))) aNil)) (aCons (eTup (aCons (eC (.bool true)) aNil)) (aCons (eTup (aCons (eC (.int 0)) (aCons (eTup (aCons (eC (.int 1)) aNil)) aNil))) (aCons (eC .none) (aCons (eC (.int 5)) (aCons (eTup (aCons (eC (.int 3)) (aCons (eC .none) aNil))) (aCons (eC (.str "12")) aNil)))))))))) (gN 1) (lp__law_bad_calendars_1))
    (sSeq (sFor (iT (eTup (aCons (eUn (fun | .int i => some (.int (-i)) | _ => none) (eC (.int 1))) (aCons (eC (.bool true)) (aCons (eC .none) (aCons (eC (.str "3")) (aCons (eTup (aCons (eC (.int 1)) aNil)) aNil))))))) (gN 1) (lp__law_bad_calendars_2))
    (sSeq (sSet 2 (eCb gTupOf (aCons (eOf (oLst (aCons (eBin gIx (eV 0) (eC (.int 0))) (aCons (eBin gAdd (eBin gIx (eV 0) (eC (.int 0))) (eBin gIx (eV 0) (eC (.int 1)))) (aCons (eBin Dl.gSub (eBin gAdd (eBin gIx (eV 0) (eC (.int 0))) (eBin gIx (eV 0) (eC (.int 1)))) (eC (.int 1))) (aCons (eBin gAdd (eBin gIx (eV 0) (eC (.int 0))) (eBin gMul (eC (.int 2)) (eBin gIx (eV 0) (eC (.int 1))))) aNil)))))) aNil)))
    (sSeq (sIf (tNotF (tVal (eCall f__law_refused (aCons (eC (.str "timed_asks")) (aCons (eV 2) (aCons (eC (.int 3)) (aCons (eTup (aCons (eC (.int 4)) aNil)) (aCons (eC (.str "times")) aNil)))))))) (sRet (eC (.bool false))) sNext)
    (sSeq (sSet 3 (eCb gTupOf (aCons (eBin gAdd (eOf (oRep (oLst (aCons (eBin gAdd (eC (.int 1)) (eBin gIx (eV 0) (eC (.int 1)))) aNil)) (eCb gInt (aCons (eBin gIx (eV 0) (eC (.int 0))) aNil)))) (eOf (oLst (aCons (eC (.int 0)) aNil)))) aNil)))
    (sRet (eAnd (eCall f__law_refused (aCons (eC (.str "calendar_asks")) (aCons (eV 3) (aCons (eC .none) (aCons (eC .none) (aCons (eC (.str "widths")) aNil)))))) (eBin (gEq false) (eCall f_calendar_asks (aCons (eTup aNil) aNil)) (eTup aNil))))))))))
def f__law_bad_calendars : Nv → Rs Rv := ary 1 (body 3 (m__law_bad_calendars))
theorem ok__law_bad_calendars {P : Program} {w : World} {K : PySem.W.Frag} {mg : Str → Option Value} {base : Heap} {cl : Str → Option Value} {f : Addr} {fd : FuncData} (F : Fun K "_law_bad_calendars" "_law_bad_calendars" s__law_bad_calendars f fd) (hm : mg "_law_bad_calendars" = some (.ref f)) (T : Txt P w K mg base cl) (C__law_refused : Cal P w K mg base cl 11 "_law_refused" ["_law_which", "_law_a", "_law_b", "_law_c", "_law_word"] f__law_refused) (C_calendar_asks : Cal P w K mg base cl 4 "calendar_asks" ["widths"] f_calendar_asks) :
    Cal P w K mg base cl 12 "_law_bad_calendars" ["_law_pick"] f__law_bad_calendars :=
  cal_mk (g := m__law_bad_calendars) (m := 3) F hm sc__law_bad_calendars rfl (fun _ _ _ _ _ _ us hl => match us, hl with | [_], _ => rfl) fun cdv A outer s H E hr => by
    have tk : Takes (cxOf (L2.CX P w) P w K mg base ["_law_pick", "_law_bad", "_law_falls", "_law_zero"] "_law_bad_calendars" (defScope s__law_bad_calendars) f cdv A outer s H E) (fun cls d _ H => E cls d H) := takes_of rfl rfl rfl rfl
    have po : PassesOwn (model P w) (cxOf (L2.CX P w) P w K mg base ["_law_pick", "_law_bad", "_law_falls", "_law_zero"] "_law_bad_calendars" (defScope s__law_bad_calendars) f cdv A outer s H E).A (cxOf (L2.CX P w) P w K mg base ["_law_pick", "_law_bad", "_law_falls", "_law_zero"] "_law_bad_calendars" (defScope s__law_bad_calendars) f cdv A outer s H E).env (cxOf (L2.CX P w) P w K mg base ["_law_pick", "_law_bad", "_law_falls", "_law_zero"] "_law_bad_calendars" (defScope s__law_bad_calendars) f cdv A outer s H E).xe := passes_of rfl
    let cz : Cz := ⟨K, cl, fun _ => E⟩
    exact ⟨_, (bc (sfor po rfl (itup (xtup (a1 xi (a1 xb (a1 (xneg xi) (a1 xn (a1 xs (a1 (xtup (a1 xi a0)) a0)))))))) (gx 1 sc__law_bad_calendars.nd) (bc (sif (xtnot (xt (xcal rfl C__law_refused hr tk rfl (a1 xs (a1 (xv 1) (a1 (xv 1) (a1 xn (a1 xs a0)))))))) (b1 (sret xb)) b0)
      (bc (sif (xtnot (xt (xcal rfl C__law_refused hr tk rfl (a1 xs (a1 xi (a1 (xv 1) (a1 (xneg xi) (a1 xs a0)))))))) (b1 (sret xb)) b0)
      (b1 (sif (xtnot (xt (xcal rfl C__law_refused hr tk rfl (a1 xs (a1 (xtup (a1 xi (a1 xi a0))) (a1 (xv 1) (a1 xn (a1 xs a0)))))))) (b1 (sret xb)) b0)))))
      (bc (sfor po rfl (itup (xtup (a1 (xof (olst (a1 xi (a1 xi a0)))) (a1 (xtup (a1 (xneg xi) a0)) (a1 (xtup (a1 xb a0)) (a1 (xtup (a1 xi (a1 (xtup (a1 xi a0)) a0))) (a1 xn (a1 xi (a1 (xtup (a1 xi (a1 xn a0))) (a1 xs a0)))))))))) (gx 1 sc__law_bad_calendars.nd) (bc (sif (xtnot (xt (xcal rfl C__law_refused hr tk rfl (a1 xs (a1 (xv 1) (a1 xi (a1 (xv 1) (a1 xs a0)))))))) (b1 (sret xb)) b0)
      (bc (sif (xtnot (xt (xcal rfl C__law_refused hr tk rfl (a1 xs (a1 (xv 1) (a1 xn (a1 xn (a1 xs a0)))))))) (b1 (sret xb)) b0)
      (b1 (sif (xtnot (xt (xcal rfl C__law_refused hr tk rfl (a1 xs (a1 (xtup (a1 xi (a1 xi a0))) (a1 xi (a1 (xv 1) (a1 xs a0)))))))) (b1 (sret xb)) b0)))))
      (bc (sfor po rfl (itup (xtup (a1 (xneg xi) (a1 xb (a1 xn (a1 xs (a1 (xtup (a1 xi a0)) a0))))))) (gx 1 sc__law_bad_calendars.nd) (b1 (sif (xtnot (xt (xcal rfl C__law_refused hr tk rfl (a1 xs (a1 xi (a1 xi (a1 (xv 1) (a1 xs a0)))))))) (b1 (sret xb)) b0)))
      (bc (sset 2 sc__law_bad_calendars.nd (xct call_tuple_of tupOf_ok rfl T.b.tuple (by decide +kernel) (a1 (xof (olst (a1 (xix (xv 0) xi) (a1 (xadd (xix (xv 0) xi) (xix (xv 0) xi)) (a1 (xsub (xadd (xix (xv 0) xi) (xix (xv 0) xi)) xi) (a1 (xadd (xix (xv 0) xi) (xmul xi (xix (xv 0) xi))) a0)))))) a0)))
      (bc (sif (xtnot (xt (xcal rfl C__law_refused hr tk rfl (a1 xs (a1 (xv 2) (a1 xi (a1 (xtup (a1 xi a0)) (a1 xs a0)))))))) (b1 (sret xb)) b0)
      (bc (sset 3 sc__law_bad_calendars.nd (xct call_tuple_of tupOf_ok rfl T.b.tuple (by decide +kernel) (a1 (xadd (xof (orep (olst (a1 (xadd xi (xix (xv 0) xi)) a0)) (xct call_int1 int_ok rfl T.b.int (by decide +kernel) (a1 (xix (xv 0) xi) a0)))) (xof (olst (a1 xi a0)))) a0)))
      (b1 (sret (xand (xcal rfl C__law_refused hr tk rfl (a1 xs (a1 (xv 3) (a1 xn (a1 xn (a1 xs a0)))))) (xone (xcmp (c_eq hr) (xcal rfl C_calendar_asks hr tk rfl (a1 (xtup a0) a0)) (xtup a0))))))))))))⟩
theorem sc_law : FnScope ["_law_script", "_law_pick", "_law_events_here", "_law_row_here"] ["_law_script"] (defScope s_law) := ⟨rfl, rfl, rfl, by decide +kernel, rfl, by decide +kernel, by decide +kernel⟩
def m_law : Nv → RS :=
  (sSeq (sSet 1 (eCall f__law_nums (aCons (eV 0) (aCons (eC (.int 3)) (aCons (eOf (oLst (aCons (eC (.int 1000000)) (aCons (eC (.int 1000000)) (aCons (eC (.int 9)) (aCons (eC (.int 6)) aNil)))))) aNil)))))
    (sSeq (sSet 2 (eCall f__law_events (aCons (eCall f__law_nums (aCons (eV 0) (aCons (eC (.int 0)) (aCons (eBin gAdd (eOf (oLst (aCons (eC (.int 4)) (aCons (eC (.int 58)) aNil)))) (eOf (oRep (oLst (aCons (eC (.int 800)) aNil)) (eC (.int 58))))) aNil)))) aNil)))
    (sSeq (sIf (tOrF (tNotF (tVal (eCall f__law_history (aCons (eV 2) aNil)))) (tNotF (tVal (eCall f__law_spoilt_histories (aCons (eV 2) (aCons (eBin gIx (eV 1) (eC (.int 0))) aNil)))))) (sRet (eC (.bool false))) sNext)
    (sSeq (sSet 3 (eCall f__law_row (aCons (eCall f__law_nums (aCons (eV 0) (aCons (eC (.int 1)) (aCons (eBin gAdd (eOf (oLst (aCons (eC (.int 8)) (aCons (eC (.int 9)) aNil)))) (eOf (oRep (oLst (aCons (eC (.int 1000)) aNil)) (eC (.int 18))))) aNil)))) aNil)))
    (sSeq (sIf (tNotF (tVal (eCall f__law_rows (aCons (eV 3) (aCons (eBin gIx (eV 1) (eC (.int 1))) aNil))))) (sRet (eC (.bool false))) sNext)
    (sSeq (sIf (tNotF (tVal (eCall f__law_calendars (aCons (eCall f__law_nums (aCons (eV 0) (aCons (eC (.int 2)) (aCons (eBin gAdd (eOf (oLst (aCons (eC (.int 4000)) (aCons (eC (.int 8)) aNil)))) (eOf (oRep (oLst (aCons (eC (.int 1000)) aNil)) (eC (.int 62))))) aNil)))) aNil)))) (sRet (eC (.bool false))) sNext)
    (sSeq (sIf (tNotF (tVal (eCall f__law_bad_calendars (aCons (eOf (oLst (aCons (eBin gIx (eV 1) (eC (.int 2))) (aCons (eBin gAdd (eBin gIx (eV 1) (eC (.int 3))) (eC (.int 1))) aNil)))) aNil)))) (sRet (eC (.bool false))) sNext)
    (sRet (eAnd (eCall f__law_history (aCons (eV 2) aNil)) (eCall f__law_rows (aCons (eV 3) (aCons (eBin gIx (eV 1) (eC (.int 0))) aNil))))))))))))
def f_law : Nv → Rs Rv := ary 1 (body 3 (m_law))
theorem ok_law {P : Program} {w : World} {K : PySem.W.Frag} {mg : Str → Option Value} {base : Heap} {cl : Str → Option Value} {f : Addr} {fd : FuncData} (F : Fun K "law" "law" s_law f fd) (hm : mg "law" = some (.ref f)) (T : Txt P w K mg base cl) (C__law_nums : Cal P w K mg base cl 1 "_law_nums" ["_law_script", "_law_at", "_law_bounds"] f__law_nums) (C__law_events : Cal P w K mg base cl 1 "_law_events" ["_law_nums_here"] f__law_events) (C__law_row : Cal P w K mg base cl 2 "_law_row" ["_law_nums_here"] f__law_row) (C__law_rows : Cal P w K mg base cl 12 "_law_rows" ["_law_row_here", "_law_pick"] f__law_rows) (C__law_calendars : Cal P w K mg base cl 7 "_law_calendars" ["_law_nums_here"] f__law_calendars) (C__law_bad_calendars : Cal P w K mg base cl 12 "_law_bad_calendars" ["_law_pick"] f__law_bad_calendars) (C__law_history : Cal P w K mg base cl 10 "_law_history" ["_law_events_here"] f__law_history) (C__law_spoilt_histories : Cal P w K mg base cl 11 "_law_spoilt_histories" ["_law_events_here", "_law_pick"] f__law_spoilt_histories) :
    Cal P w K mg base cl 13 "law" ["_law_script"] f_law :=
  cal_mk (g := m_law) (m := 3) F hm sc_law rfl (fun _ _ _ _ _ _ us hl => match us, hl with | [_], _ => rfl) fun cdv A outer s H E hr => by
    have tk : Takes (cxOf (L2.CX P w) P w K mg base ["_law_script", "_law_pick", "_law_events_here", "_law_row_here"] "law" (defScope s_law) f cdv A outer s H E) (fun cls d _ H => E cls d H) := takes_of rfl rfl rfl rfl
    have po : PassesOwn (model P w) (cxOf (L2.CX P w) P w K mg base ["_law_script", "_law_pick", "_law_events_here", "_law_row_here"] "law" (defScope s_law) f cdv A outer s H E).A (cxOf (L2.CX P w) P w K mg base ["_law_script", "_law_pick", "_law_events_here", "_law_row_here"] "law" (defScope s_law) f cdv A outer s H E).env (cxOf (L2.CX P w) P w K mg base ["_law_script", "_law_pick", "_law_events_here", "_law_row_here"] "law" (defScope s_law) f cdv A outer s H E).xe := passes_of rfl
    let cz : Cz := ⟨K, cl, fun _ => E⟩
    exact ⟨_, (bc (sset 1 sc_law.nd (xcal rfl C__law_nums hr tk rfl (a1 (xv 0) (a1 xi (a1 (xof (olst (a1 xi (a1 xi (a1 xi (a1 xi a0)))))) a0)))))
      (bc (sset 2 sc_law.nd (xcal rfl C__law_events hr tk rfl (a1 (xcal rfl C__law_nums hr tk rfl (a1 (xv 0) (a1 xi (a1 (xadd (xof (olst (a1 xi (a1 xi a0)))) (xof (orep (olst (a1 xi a0)) xi))) a0)))) a0)))
      (bc (sif (xtw (wor (xtnot (xt (xcal rfl C__law_history hr tk rfl (a1 (xv 2) a0)))) (wor1 (xtnot (xt (xcal rfl C__law_spoilt_histories hr tk rfl (a1 (xv 2) (a1 (xix (xv 1) xi) a0)))))))) (b1 (sret xb)) b0)
      (bc (sset 3 sc_law.nd (xcal rfl C__law_row hr tk rfl (a1 (xcal rfl C__law_nums hr tk rfl (a1 (xv 0) (a1 xi (a1 (xadd (xof (olst (a1 xi (a1 xi a0)))) (xof (orep (olst (a1 xi a0)) xi))) a0)))) a0)))
      (bc (sif (xtnot (xt (xcal rfl C__law_rows hr tk rfl (a1 (xv 3) (a1 (xix (xv 1) xi) a0))))) (b1 (sret xb)) b0)
      (bc (sif (xtnot (xt (xcal rfl C__law_calendars hr tk rfl (a1 (xcal rfl C__law_nums hr tk rfl (a1 (xv 0) (a1 xi (a1 (xadd (xof (olst (a1 xi (a1 xi a0)))) (xof (orep (olst (a1 xi a0)) xi))) a0)))) a0)))) (b1 (sret xb)) b0)
      (bc (sif (xtnot (xt (xcal rfl C__law_bad_calendars hr tk rfl (a1 (xof (olst (a1 (xix (xv 1) xi) (a1 (xadd (xix (xv 1) xi) xi) a0)))) a0)))) (b1 (sret xb)) b0)
      (b1 (sret (xand (xcal rfl C__law_history hr tk rfl (a1 (xv 2) a0)) (xone (xcal rfl C__law_rows hr tk rfl (a1 (xv 3) (a1 (xix (xv 1) xi) a0))))))))))))))⟩
end K2
set_option Elab.async false
set_option linter.all false
set_option maxRecDepth 100000
set_option maxHeartbeats 0
namespace K2
open PySem PySem.Spec PyProof.Rows L2 Dl
theorem sc_init_NotUsable : FnScope ["self", "word", "at"] ["self", "word", "at"] (defScope s_init_NotUsable) := ⟨rfl, rfl, rfl, by decide +kernel, rfl, by decide +kernel, by decide +kernel⟩
theorem sc_init_OutOfOrder : FnScope ["self", "one", "other"] ["self", "one", "other"] (defScope s_init_OutOfOrder) := ⟨rfl, rfl, rfl, by decide +kernel, rfl, by decide +kernel, by decide +kernel⟩
theorem sc_init_InvalidPaper : FnScope ["self", "word", "at"] ["self", "word", "at"] (defScope s_init_InvalidPaper) := ⟨rfl, rfl, rfl, by decide +kernel, rfl, by decide +kernel, by decide +kernel⟩
section
variable {P : Program} {w : World} {K : PySem.W.Frag} {h : Heap} {mg : Str → Option Value}
def cl (K : PySem.W.Frag) (x : Str) : Option Value := if x = "NotUsable" then some (.ref (He.ga K "NotUsable")) else if x = "OutOfOrder" then some (.ref (He.ga K "OutOfOrder")) else if x = "InvalidPaper" then some (.ref (He.ga K "InvalidPaper")) else none
theorem facts (X : K.In h) (G : h.Ns mainGlobals mg) (c : He.SaysX fa fn ts [] ex w h K) (base : Heap) (hKb : K.In base) (hNb : base.Ns mainGlobals mg) : Cal P w K mg base (cl K) 13 "law" ["_law_script"] f_law := by
  have exk := c.more
  unfold ex at exk
  simp only [Bool.and_eq_true] at exk
  obtain ⟨⟨⟨⟨⟨⟨⟨⟨⟨⟨⟨⟨e0, e1⟩, e2⟩, e3⟩, e4⟩, e5⟩, e6⟩, e7⟩, e8⟩, e9⟩, e10⟩, e11⟩, e12⟩ := exk
  have m_is_integer : mg "is_integer" = some (.ref (He.ga K "is_integer")) := He.glo_ok X G (c.t.d.fact 0 (f := .glo "is_integer") rfl)
  have m_is_number : mg "is_number" = some (.ref (He.ga K "is_number")) := He.glo_ok X G (c.t.d.fact 1 (f := .glo "is_number") rfl)
  have m_is_positive : mg "is_positive" = some (.ref (He.ga K "is_positive")) := He.glo_ok X G (c.t.d.fact 2 (f := .glo "is_positive") rfl)
  have m_is_group : mg "is_group" = some (.ref (He.ga K "is_group")) := He.glo_ok X G (c.t.d.fact 3 (f := .glo "is_group") rfl)
  have m_is_stretch : mg "is_stretch" = some (.ref (He.ga K "is_stretch")) := He.glo_ok X G (c.t.d.fact 4 (f := .glo "is_stretch") rfl)
  have m_asks_fault : mg "asks_fault" = some (.ref (He.ga K "asks_fault")) := He.glo_ok X G (c.t.d.fact 5 (f := .glo "asks_fault") rfl)
  have m_is_asks : mg "is_asks" = some (.ref (He.ga K "is_asks")) := He.glo_ok X G (c.t.d.fact 6 (f := .glo "is_asks") rfl)
  have m_is_queue : mg "is_queue" = some (.ref (He.ga K "is_queue")) := He.glo_ok X G (c.t.d.fact 7 (f := .glo "is_queue") rfl)
  have m_crossed_asks : mg "crossed_asks" = some (.ref (He.ga K "crossed_asks")) := He.glo_ok X G (c.t.d.fact 8 (f := .glo "crossed_asks") rfl)
  have m_need : mg "need" = some (.ref (He.ga K "need")) := He.glo_ok X G (c.t.d.fact 9 (f := .glo "need") rfl)
  have m_need_queue : mg "need_queue" = some (.ref (He.ga K "need_queue")) := He.glo_ok X G (c.t.d.fact 10 (f := .glo "need_queue") rfl)
  have m_need_order : mg "need_order" = some (.ref (He.ga K "need_order")) := He.glo_ok X G (c.t.d.fact 11 (f := .glo "need_order") rfl)
  have m_refuse : mg "refuse" = some (.ref (He.ga K "refuse")) := He.glo_ok X G (c.t.d.fact 12 (f := .glo "refuse") rfl)
  have m_asks_of : mg "asks_of" = some (.ref (He.ga K "asks_of")) := He.glo_ok X G (c.t.d.fact 13 (f := .glo "asks_of") rfl)
  have m_lets_history : mg "lets_history" = some (.ref (He.ga K "lets_history")) := He.glo_ok X G (c.t.d.fact 14 (f := .glo "lets_history") rfl)
  have m_is_history : mg "is_history" = some (.ref (He.ga K "is_history")) := He.glo_ok X G (c.t.d.fact 15 (f := .glo "is_history") rfl)
  have m_asks_by : mg "asks_by" = some (.ref (He.ga K "asks_by")) := He.glo_ok X G (c.t.d.fact 16 (f := .glo "asks_by") rfl)
  have m_history_by : mg "history_by" = some (.ref (He.ga K "history_by")) := He.glo_ok X G (c.t.d.fact 17 (f := .glo "history_by") rfl)
  have m__is_queue_event : mg "_is_queue_event" = some (.ref (He.ga K "_is_queue_event")) := He.glo_ok X G (c.t.d.fact 18 (f := .glo "_is_queue_event") rfl)
  have m__growth : mg "_growth" = some (.ref (He.ga K "_growth")) := He.glo_ok X G (c.t.d.fact 19 (f := .glo "_growth") rfl)
  have m__history_fault : mg "_history_fault" = some (.ref (He.ga K "_history_fault")) := He.glo_ok X G (c.t.d.fact 20 (f := .glo "_history_fault") rfl)
  have m_steady_asks : mg "steady_asks" = some (.ref (He.ga K "steady_asks")) := He.glo_ok X G (c.t.d.fact 21 (f := .glo "steady_asks") rfl)
  have m_calendar_asks : mg "calendar_asks" = some (.ref (He.ga K "calendar_asks")) := He.glo_ok X G (c.t.d.fact 22 (f := .glo "calendar_asks") rfl)
  have m_timed_asks : mg "timed_asks" = some (.ref (He.ga K "timed_asks")) := He.glo_ok X G (c.t.d.fact 23 (f := .glo "timed_asks") rfl)
  have m__are_numbers : mg "_are_numbers" = some (.ref (He.ga K "_are_numbers")) := He.glo_ok X G (c.t.d.fact 24 (f := .glo "_are_numbers") rfl)
  have m__are_times : mg "_are_times" = some (.ref (He.ga K "_are_times")) := He.glo_ok X G (c.t.d.fact 25 (f := .glo "_are_times") rfl)
  have m__law_nums : mg "_law_nums" = some (.ref (He.ga K "_law_nums")) := He.glo_ok X G (c.t.d.fact 26 (f := .glo "_law_nums") rfl)
  have m__law_int : mg "_law_int" = some (.ref (He.ga K "_law_int")) := He.glo_ok X G (c.t.d.fact 27 (f := .glo "_law_int") rfl)
  have m__law_same : mg "_law_same" = some (.ref (He.ga K "_law_same")) := He.glo_ok X G (c.t.d.fact 28 (f := .glo "_law_same") rfl)
  have m__law_events : mg "_law_events" = some (.ref (He.ga K "_law_events")) := He.glo_ok X G (c.t.d.fact 29 (f := .glo "_law_events") rfl)
  have m__law_play : mg "_law_play" = some (.ref (He.ga K "_law_play")) := He.glo_ok X G (c.t.d.fact 30 (f := .glo "_law_play") rfl)
  have m__law_event : mg "_law_event" = some (.ref (He.ga K "_law_event")) := He.glo_ok X G (c.t.d.fact 31 (f := .glo "_law_event") rfl)
  have m__law_checked : mg "_law_checked" = some (.ref (He.ga K "_law_checked")) := He.glo_ok X G (c.t.d.fact 32 (f := .glo "_law_checked") rfl)
  have m__law_line : mg "_law_line" = some (.ref (He.ga K "_law_line")) := He.glo_ok X G (c.t.d.fact 33 (f := .glo "_law_line") rfl)
  have m__law_asks : mg "_law_asks" = some (.ref (He.ga K "_law_asks")) := He.glo_ok X G (c.t.d.fact 34 (f := .glo "_law_asks") rfl)
  have m__law_fault : mg "_law_fault" = some (.ref (He.ga K "_law_fault")) := He.glo_ok X G (c.t.d.fact 35 (f := .glo "_law_fault") rfl)
  have m__law_row : mg "_law_row" = some (.ref (He.ga K "_law_row")) := He.glo_ok X G (c.t.d.fact 36 (f := .glo "_law_row") rfl)
  have m__law_steps : mg "_law_steps" = some (.ref (He.ga K "_law_steps")) := He.glo_ok X G (c.t.d.fact 37 (f := .glo "_law_steps") rfl)
  have m__law_call : mg "_law_call" = some (.ref (He.ga K "_law_call")) := He.glo_ok X G (c.t.d.fact 38 (f := .glo "_law_call") rfl)
  have m__law_refused : mg "_law_refused" = some (.ref (He.ga K "_law_refused")) := He.glo_ok X G (c.t.d.fact 39 (f := .glo "_law_refused") rfl)
  have m__law_history : mg "_law_history" = some (.ref (He.ga K "_law_history")) := He.glo_ok X G (c.t.d.fact 40 (f := .glo "_law_history") rfl)
  have m__law_spoilt : mg "_law_spoilt" = some (.ref (He.ga K "_law_spoilt")) := He.glo_ok X G (c.t.d.fact 41 (f := .glo "_law_spoilt") rfl)
  have m__law_spoilt_histories : mg "_law_spoilt_histories" = some (.ref (He.ga K "_law_spoilt_histories")) := He.glo_ok X G (c.t.d.fact 42 (f := .glo "_law_spoilt_histories") rfl)
  have m__law_rows : mg "_law_rows" = some (.ref (He.ga K "_law_rows")) := He.glo_ok X G (c.t.d.fact 43 (f := .glo "_law_rows") rfl)
  have m__law_steady : mg "_law_steady" = some (.ref (He.ga K "_law_steady")) := He.glo_ok X G (c.t.d.fact 44 (f := .glo "_law_steady") rfl)
  have m__law_calendar : mg "_law_calendar" = some (.ref (He.ga K "_law_calendar")) := He.glo_ok X G (c.t.d.fact 45 (f := .glo "_law_calendar") rfl)
  have m__law_timed : mg "_law_timed" = some (.ref (He.ga K "_law_timed")) := He.glo_ok X G (c.t.d.fact 46 (f := .glo "_law_timed") rfl)
  have m__law_calendars : mg "_law_calendars" = some (.ref (He.ga K "_law_calendars")) := He.glo_ok X G (c.t.d.fact 47 (f := .glo "_law_calendars") rfl)
  have m__law_bad_calendars : mg "_law_bad_calendars" = some (.ref (He.ga K "_law_bad_calendars")) := He.glo_ok X G (c.t.d.fact 48 (f := .glo "_law_bad_calendars") rfl)
  have m_law : mg "law" = some (.ref (He.ga K "law")) := He.glo_ok X G (c.t.d.fact 49 (f := .glo "law") rfl)
  have m_NotUsable : mg "NotUsable" = some (.ref (He.ga K "NotUsable")) := He.glo_ok X G (c.t.d.fact 50 (f := .glo "NotUsable") rfl)
  have m_OutOfOrder : mg "OutOfOrder" = some (.ref (He.ga K "OutOfOrder")) := He.glo_ok X G (c.t.d.fact 51 (f := .glo "OutOfOrder") rfl)
  have m_InvalidPaper : mg "InvalidPaper" = some (.ref (He.ga K "InvalidPaper")) := He.glo_ok X G (c.t.d.fact 52 (f := .glo "InvalidPaper") rfl)
  have m_AskError : mg "AskError" = some (.ref (He.ga K "AskError")) := He.glo_ok X G (c.t.d.fact 53 (f := .glo "AskError") rfl)
  have m_PaperError : mg "PaperError" = some (.ref (He.ga K "PaperError")) := He.glo_ok X G (c.t.d.fact 54 (f := .glo "PaperError") rfl)
  have m_UnderError : mg "UnderError" = some (.ref (He.ga K "UnderError")) := He.glo_ok X G (c.t.d.fact 55 (f := .glo "UnderError") rfl)
  have fr_isinstance : mg "isinstance" = none := He.free_ok X G (c.t.d.fact 56 (f := .free "isinstance") rfl)
  have fr_int : mg "int" = none := He.free_ok X G (c.t.d.fact 57 (f := .free "int") rfl)
  have fr_bool : mg "bool" = none := He.free_ok X G (c.t.d.fact 58 (f := .free "bool") rfl)
  have fr_str : mg "str" = none := He.free_ok X G (c.t.d.fact 59 (f := .free "str") rfl)
  have fr_tuple : mg "tuple" = none := He.free_ok X G (c.t.d.fact 60 (f := .free "tuple") rfl)
  have fr_list : mg "list" = none := He.free_ok X G (c.t.d.fact 61 (f := .free "list") rfl)
  have fr_len : mg "len" = none := He.free_ok X G (c.t.d.fact 62 (f := .free "len") rfl)
  have fr_range : mg "range" = none := He.free_ok X G (c.t.d.fact 63 (f := .free "range") rfl)
  have fr_enumerate : mg "enumerate" = none := He.free_ok X G (c.t.d.fact 64 (f := .free "enumerate") rfl)
  have fr_zip : mg "zip" = none := He.free_ok X G (c.t.d.fact 65 (f := .free "zip") rfl)
  have fr_all : mg "all" = none := He.free_ok X G (c.t.d.fact 66 (f := .free "all") rfl)
  have fr_any : mg "any" = none := He.free_ok X G (c.t.d.fact 67 (f := .free "any") rfl)
  have fr_sum : mg "sum" = none := He.free_ok X G (c.t.d.fact 68 (f := .free "sum") rfl)
  have fr_max : mg "max" = none := He.free_ok X G (c.t.d.fact 69 (f := .free "max") rfl)
  have fr_min : mg "min" = none := He.free_ok X G (c.t.d.fact 70 (f := .free "min") rfl)
  have fr_sorted : mg "sorted" = none := He.free_ok X G (c.t.d.fact 71 (f := .free "sorted") rfl)
  have fr_set : mg "set" = none := He.free_ok X G (c.t.d.fact 72 (f := .free "set") rfl)
  have fr_ValueError : mg "ValueError" = none := He.free_ok X G (c.t.d.fact 73 (f := .free "ValueError") rfl)
  have bx : Tx mg := ⟨fr_isinstance, fr_int, fr_bool, fr_str, fr_tuple, fr_list, fr_len, fr_range, fr_enumerate, fr_zip, fr_all, fr_any, fr_sum, fr_max, fr_min, fr_sorted, fr_set⟩
  obtain ⟨fd_init_NotUsable, H_init_NotUsable⟩ := c.t.d.def_ 0 (d := d_init_NotUsable) rfl
  have F_init_NotUsable : Fun K "__init__" "NotUsable.__init__" s_init_NotUsable (He.ma K (He.ga K "NotUsable") "__init__") fd_init_NotUsable := fun_of H_init_NotUsable
  have I_NotUsable := ok_init2 (P := P) (w := w) (mg := mg) (base := base) (ff := "word") (g := "at") (s := "self") (a := "word") (b := "at") F_init_NotUsable sc_init_NotUsable rfl (by decide +kernel) (by decide +kernel)
  have J_NotUsable : Binds K fd_init_NotUsable ["self", "word", "at"] [] := F_init_NotUsable.binds fun _ _ _ _ _ _ us hl => match us, hl with | [_, _, _], _ => rfl
  obtain ⟨fd_init_OutOfOrder, H_init_OutOfOrder⟩ := c.t.d.def_ 1 (d := d_init_OutOfOrder) rfl
  have F_init_OutOfOrder : Fun K "__init__" "OutOfOrder.__init__" s_init_OutOfOrder (He.ma K (He.ga K "OutOfOrder") "__init__") fd_init_OutOfOrder := fun_of H_init_OutOfOrder
  have I_OutOfOrder := ok_init2 (P := P) (w := w) (mg := mg) (base := base) (ff := "one") (g := "other") (s := "self") (a := "one") (b := "other") F_init_OutOfOrder sc_init_OutOfOrder rfl (by decide +kernel) (by decide +kernel)
  have J_OutOfOrder : Binds K fd_init_OutOfOrder ["self", "one", "other"] [] := F_init_OutOfOrder.binds fun _ _ _ _ _ _ us hl => match us, hl with | [_, _, _], _ => rfl
  obtain ⟨fd_init_InvalidPaper, H_init_InvalidPaper⟩ := c.t.d.def_ 2 (d := d_init_InvalidPaper) rfl
  have F_init_InvalidPaper : Fun K "__init__" "InvalidPaper.__init__" s_init_InvalidPaper (He.ma K (He.ga K "InvalidPaper") "__init__") fd_init_InvalidPaper := fun_of H_init_InvalidPaper
  have I_InvalidPaper := ok_init2 (P := P) (w := w) (mg := mg) (base := base) (ff := "word") (g := "at") (s := "self") (a := "word") (b := "at") F_init_InvalidPaper sc_init_InvalidPaper rfl (by decide +kernel) (by decide +kernel)
  have J_InvalidPaper : Binds K fd_init_InvalidPaper ["self", "word", "at"] [] := F_init_InvalidPaper.binds fun _ _ _ _ _ _ us hl => match us, hl with | [_, _, _], _ => rfl
  obtain ⟨fd_is_integer, H_is_integer⟩ := c.t.d.def_ 3 (d := d_is_integer) rfl
  have F_is_integer : Fun K "is_integer" "is_integer" s_is_integer (He.ga K "is_integer") fd_is_integer := fun_of H_is_integer
  obtain ⟨fd_is_number, H_is_number⟩ := c.t.d.def_ 4 (d := d_is_number) rfl
  have F_is_number : Fun K "is_number" "is_number" s_is_number (He.ga K "is_number") fd_is_number := fun_of H_is_number
  obtain ⟨fd_is_positive, H_is_positive⟩ := c.t.d.def_ 5 (d := d_is_positive) rfl
  have F_is_positive : Fun K "is_positive" "is_positive" s_is_positive (He.ga K "is_positive") fd_is_positive := fun_of H_is_positive
  obtain ⟨fd_is_group, H_is_group⟩ := c.t.d.def_ 6 (d := d_is_group) rfl
  have F_is_group : Fun K "is_group" "is_group" s_is_group (He.ga K "is_group") fd_is_group := fun_of H_is_group
  obtain ⟨fd_is_stretch, H_is_stretch⟩ := c.t.d.def_ 7 (d := d_is_stretch) rfl
  have F_is_stretch : Fun K "is_stretch" "is_stretch" s_is_stretch (He.ga K "is_stretch") fd_is_stretch := fun_of H_is_stretch
  obtain ⟨fd_asks_fault, H_asks_fault⟩ := c.t.d.def_ 8 (d := d_asks_fault) rfl
  have F_asks_fault : Fun K "asks_fault" "asks_fault" s_asks_fault (He.ga K "asks_fault") fd_asks_fault := fun_of H_asks_fault
  obtain ⟨fd_is_asks, H_is_asks⟩ := c.t.d.def_ 9 (d := d_is_asks) rfl
  have F_is_asks : Fun K "is_asks" "is_asks" s_is_asks (He.ga K "is_asks") fd_is_asks := fun_of H_is_asks
  obtain ⟨fd_is_queue, H_is_queue⟩ := c.t.d.def_ 10 (d := d_is_queue) rfl
  have F_is_queue : Fun K "is_queue" "is_queue" s_is_queue (He.ga K "is_queue") fd_is_queue := fun_of H_is_queue
  obtain ⟨fd_crossed_asks, H_crossed_asks⟩ := c.t.d.def_ 11 (d := d_crossed_asks) rfl
  have F_crossed_asks : Fun K "crossed_asks" "crossed_asks" s_crossed_asks (He.ga K "crossed_asks") fd_crossed_asks := fun_of H_crossed_asks
  obtain ⟨fd_need, H_need⟩ := c.t.d.def_ 12 (d := d_need) rfl
  have F_need : Fun K "need" "need" s_need (He.ga K "need") fd_need := fun_of H_need
  obtain ⟨fd_need_queue, H_need_queue⟩ := c.t.d.def_ 13 (d := d_need_queue) rfl
  have F_need_queue : Fun K "need_queue" "need_queue" s_need_queue (He.ga K "need_queue") fd_need_queue := fun_of H_need_queue
  obtain ⟨fd_need_order, H_need_order⟩ := c.t.d.def_ 14 (d := d_need_order) rfl
  have F_need_order : Fun K "need_order" "need_order" s_need_order (He.ga K "need_order") fd_need_order := fun_of H_need_order
  obtain ⟨fd_refuse, H_refuse⟩ := c.t.d.def_ 15 (d := d_refuse) rfl
  have F_refuse : Fun K "refuse" "refuse" s_refuse (He.ga K "refuse") fd_refuse := fun_of H_refuse
  obtain ⟨fd_asks_of, H_asks_of⟩ := c.t.d.def_ 16 (d := d_asks_of) rfl
  have F_asks_of : Fun K "asks_of" "asks_of" s_asks_of (He.ga K "asks_of") fd_asks_of := fun_of H_asks_of
  obtain ⟨fd_lets_history, H_lets_history⟩ := c.t.d.def_ 17 (d := d_lets_history) rfl
  have F_lets_history : Fun K "lets_history" "lets_history" s_lets_history (He.ga K "lets_history") fd_lets_history := fun_of H_lets_history
  obtain ⟨fd_is_history, H_is_history⟩ := c.t.d.def_ 18 (d := d_is_history) rfl
  have F_is_history : Fun K "is_history" "is_history" s_is_history (He.ga K "is_history") fd_is_history := fun_of H_is_history
  obtain ⟨fd_asks_by, H_asks_by⟩ := c.t.d.def_ 19 (d := d_asks_by) rfl
  have F_asks_by : Fun K "asks_by" "asks_by" s_asks_by (He.ga K "asks_by") fd_asks_by := fun_of H_asks_by
  obtain ⟨fd_history_by, H_history_by⟩ := c.t.d.def_ 20 (d := d_history_by) rfl
  have F_history_by : Fun K "history_by" "history_by" s_history_by (He.ga K "history_by") fd_history_by := fun_of H_history_by
  obtain ⟨fd__is_queue_event, H__is_queue_event⟩ := c.t.d.def_ 21 (d := d__is_queue_event) rfl
  have F__is_queue_event : Fun K "_is_queue_event" "_is_queue_event" s__is_queue_event (He.ga K "_is_queue_event") fd__is_queue_event := fun_of H__is_queue_event
  obtain ⟨fd__growth, H__growth⟩ := c.t.d.def_ 22 (d := d__growth) rfl
  have F__growth : Fun K "_growth" "_growth" s__growth (He.ga K "_growth") fd__growth := fun_of H__growth
  obtain ⟨fd__history_fault, H__history_fault⟩ := c.t.d.def_ 23 (d := d__history_fault) rfl
  have F__history_fault : Fun K "_history_fault" "_history_fault" s__history_fault (He.ga K "_history_fault") fd__history_fault := fun_of H__history_fault
  obtain ⟨fd_steady_asks, H_steady_asks⟩ := c.t.d.def_ 24 (d := d_steady_asks) rfl
  have F_steady_asks : Fun K "steady_asks" "steady_asks" s_steady_asks (He.ga K "steady_asks") fd_steady_asks := fun_of H_steady_asks
  obtain ⟨fd_calendar_asks, H_calendar_asks⟩ := c.t.d.def_ 25 (d := d_calendar_asks) rfl
  have F_calendar_asks : Fun K "calendar_asks" "calendar_asks" s_calendar_asks (He.ga K "calendar_asks") fd_calendar_asks := fun_of H_calendar_asks
  obtain ⟨fd_timed_asks, H_timed_asks⟩ := c.t.d.def_ 26 (d := d_timed_asks) rfl
  have F_timed_asks : Fun K "timed_asks" "timed_asks" s_timed_asks (He.ga K "timed_asks") fd_timed_asks := fun_of H_timed_asks
  obtain ⟨fd__are_numbers, H__are_numbers⟩ := c.t.d.def_ 27 (d := d__are_numbers) rfl
  have F__are_numbers : Fun K "_are_numbers" "_are_numbers" s__are_numbers (He.ga K "_are_numbers") fd__are_numbers := fun_of H__are_numbers
  obtain ⟨fd__are_times, H__are_times⟩ := c.t.d.def_ 28 (d := d__are_times) rfl
  have F__are_times : Fun K "_are_times" "_are_times" s__are_times (He.ga K "_are_times") fd__are_times := fun_of H__are_times
  obtain ⟨fd__law_nums, H__law_nums⟩ := c.t.d.def_ 29 (d := d__law_nums) rfl
  have F__law_nums : Fun K "_law_nums" "_law_nums" s__law_nums (He.ga K "_law_nums") fd__law_nums := fun_of H__law_nums
  obtain ⟨fd__law_int, H__law_int⟩ := c.t.d.def_ 30 (d := d__law_int) rfl
  have F__law_int : Fun K "_law_int" "_law_int" s__law_int (He.ga K "_law_int") fd__law_int := fun_of H__law_int
  obtain ⟨fd__law_same, H__law_same⟩ := c.t.d.def_ 31 (d := d__law_same) rfl
  have F__law_same : Fun K "_law_same" "_law_same" s__law_same (He.ga K "_law_same") fd__law_same := fun_of H__law_same
  obtain ⟨fd__law_events, H__law_events⟩ := c.t.d.def_ 32 (d := d__law_events) rfl
  have F__law_events : Fun K "_law_events" "_law_events" s__law_events (He.ga K "_law_events") fd__law_events := fun_of H__law_events
  obtain ⟨fd__law_play, H__law_play⟩ := c.t.d.def_ 33 (d := d__law_play) rfl
  have F__law_play : Fun K "_law_play" "_law_play" s__law_play (He.ga K "_law_play") fd__law_play := fun_of H__law_play
  obtain ⟨fd__law_event, H__law_event⟩ := c.t.d.def_ 34 (d := d__law_event) rfl
  have F__law_event : Fun K "_law_event" "_law_event" s__law_event (He.ga K "_law_event") fd__law_event := fun_of H__law_event
  obtain ⟨fd__law_checked, H__law_checked⟩ := c.t.d.def_ 35 (d := d__law_checked) rfl
  have F__law_checked : Fun K "_law_checked" "_law_checked" s__law_checked (He.ga K "_law_checked") fd__law_checked := fun_of H__law_checked
  obtain ⟨fd__law_line, H__law_line⟩ := c.t.d.def_ 36 (d := d__law_line) rfl
  have F__law_line : Fun K "_law_line" "_law_line" s__law_line (He.ga K "_law_line") fd__law_line := fun_of H__law_line
  obtain ⟨fd__law_asks, H__law_asks⟩ := c.t.d.def_ 37 (d := d__law_asks) rfl
  have F__law_asks : Fun K "_law_asks" "_law_asks" s__law_asks (He.ga K "_law_asks") fd__law_asks := fun_of H__law_asks
  obtain ⟨fd__law_fault, H__law_fault⟩ := c.t.d.def_ 38 (d := d__law_fault) rfl
  have F__law_fault : Fun K "_law_fault" "_law_fault" s__law_fault (He.ga K "_law_fault") fd__law_fault := fun_of H__law_fault
  obtain ⟨fd__law_row, H__law_row⟩ := c.t.d.def_ 39 (d := d__law_row) rfl
  have F__law_row : Fun K "_law_row" "_law_row" s__law_row (He.ga K "_law_row") fd__law_row := fun_of H__law_row
  obtain ⟨fd__law_steps, H__law_steps⟩ := c.t.d.def_ 40 (d := d__law_steps) rfl
  have F__law_steps : Fun K "_law_steps" "_law_steps" s__law_steps (He.ga K "_law_steps") fd__law_steps := fun_of H__law_steps
  obtain ⟨fd__law_call, H__law_call⟩ := c.t.d.def_ 41 (d := d__law_call) rfl
  have F__law_call : Fun K "_law_call" "_law_call" s__law_call (He.ga K "_law_call") fd__law_call := fun_of H__law_call
  obtain ⟨fd__law_refused, H__law_refused⟩ := c.t.d.def_ 42 (d := d__law_refused) rfl
  have F__law_refused : Fun K "_law_refused" "_law_refused" s__law_refused (He.ga K "_law_refused") fd__law_refused := fun_of H__law_refused
  obtain ⟨fd__law_history, H__law_history⟩ := c.t.d.def_ 43 (d := d__law_history) rfl
  have F__law_history : Fun K "_law_history" "_law_history" s__law_history (He.ga K "_law_history") fd__law_history := fun_of H__law_history
  obtain ⟨fd__law_spoilt, H__law_spoilt⟩ := c.t.d.def_ 44 (d := d__law_spoilt) rfl
  have F__law_spoilt : Fun K "_law_spoilt" "_law_spoilt" s__law_spoilt (He.ga K "_law_spoilt") fd__law_spoilt := fun_of H__law_spoilt
  obtain ⟨fd__law_spoilt_histories, H__law_spoilt_histories⟩ := c.t.d.def_ 45 (d := d__law_spoilt_histories) rfl
  have F__law_spoilt_histories : Fun K "_law_spoilt_histories" "_law_spoilt_histories" s__law_spoilt_histories (He.ga K "_law_spoilt_histories") fd__law_spoilt_histories := fun_of H__law_spoilt_histories
  obtain ⟨fd__law_rows, H__law_rows⟩ := c.t.d.def_ 46 (d := d__law_rows) rfl
  have F__law_rows : Fun K "_law_rows" "_law_rows" s__law_rows (He.ga K "_law_rows") fd__law_rows := fun_of H__law_rows
  obtain ⟨fd__law_steady, H__law_steady⟩ := c.t.d.def_ 47 (d := d__law_steady) rfl
  have F__law_steady : Fun K "_law_steady" "_law_steady" s__law_steady (He.ga K "_law_steady") fd__law_steady := fun_of H__law_steady
  obtain ⟨fd__law_calendar, H__law_calendar⟩ := c.t.d.def_ 48 (d := d__law_calendar) rfl
  have F__law_calendar : Fun K "_law_calendar" "_law_calendar" s__law_calendar (He.ga K "_law_calendar") fd__law_calendar := fun_of H__law_calendar
  obtain ⟨fd__law_timed, H__law_timed⟩ := c.t.d.def_ 49 (d := d__law_timed) rfl
  have F__law_timed : Fun K "_law_timed" "_law_timed" s__law_timed (He.ga K "_law_timed") fd__law_timed := fun_of H__law_timed
  obtain ⟨fd__law_calendars, H__law_calendars⟩ := c.t.d.def_ 50 (d := d__law_calendars) rfl
  have F__law_calendars : Fun K "_law_calendars" "_law_calendars" s__law_calendars (He.ga K "_law_calendars") fd__law_calendars := fun_of H__law_calendars
  obtain ⟨fd__law_bad_calendars, H__law_bad_calendars⟩ := c.t.d.def_ 51 (d := d__law_bad_calendars) rfl
  have F__law_bad_calendars : Fun K "_law_bad_calendars" "_law_bad_calendars" s__law_bad_calendars (He.ga K "_law_bad_calendars") fd__law_bad_calendars := fun_of H__law_bad_calendars
  obtain ⟨fd_law, H_law⟩ := c.t.d.def_ 52 (d := d_law) rfl
  have F_law : Fun K "law" "law" s_law (He.ga K "law") fd_law := fun_of H_law
  have T : Txt P w K mg base (cl K) := { b := bx, x_NotUsable := exT_of e0 m_NotUsable I_NotUsable J_NotUsable, e_NotUsable := if_pos rfl, x_OutOfOrder := exT_of e1 m_OutOfOrder I_OutOfOrder J_OutOfOrder, e_OutOfOrder := (if_neg (by decide)).trans (if_pos rfl), x_InvalidPaper := exT_of e2 m_InvalidPaper I_InvalidPaper J_InvalidPaper, e_InvalidPaper := (if_neg (by decide)).trans ((if_neg (by decide)).trans (if_pos rfl)), i_InvalidPaper := exiB_ok e3, i_NotUsable := exiB_ok e4, i_OutOfOrder := exiB_ok e5, a_AskError := He.ga K "AskError", g_AskError := m_AskError, a_PaperError := He.ga K "PaperError", g_PaperError := m_PaperError, a_UnderError := He.ga K "UnderError", g_UnderError := m_UnderError, b_ValueError := fr_ValueError, k_InvalidPaper_PaperError := of_decide_eq_true e6, k_InvalidPaper_UnderError := of_decide_eq_true e7, k_NotUsable_AskError := of_decide_eq_true e8, k_NotUsable_PaperError := of_decide_eq_true e9, k_OutOfOrder_AskError := of_decide_eq_true e10, k_OutOfOrder_ValueError := of_decide_eq_true e11, exm := exm_of (xs := ["NotUsable", "OutOfOrder", "InvalidPaper"]) e12 }
  have C_is_integer := ok_is_integer F_is_integer m_is_integer T 
  have C_is_group := ok_is_group F_is_group m_is_group T 
  have C_crossed_asks := ok_crossed_asks F_crossed_asks m_crossed_asks T 
  have C__growth := ok__growth F__growth m__growth T 
  have C__law_nums := ok__law_nums F__law_nums m__law_nums T 
  have C__law_int := ok__law_int F__law_int m__law_int T 
  have C__law_events := ok__law_events F__law_events m__law_events T 
  have C__law_play := ok__law_play F__law_play m__law_play T 
  have C__law_line := ok__law_line F__law_line m__law_line T 
  have C__law_fault := ok__law_fault F__law_fault m__law_fault T 
  have C__law_steady := ok__law_steady F__law_steady m__law_steady T 
  have C_is_number := ok_is_number F_is_number m_is_number T C_is_integer
  have C_is_positive := ok_is_positive F_is_positive m_is_positive T C_is_integer
  have C__law_event := ok__law_event F__law_event m__law_event T C__law_int
  have C__law_asks := ok__law_asks F__law_asks m__law_asks T C__law_int
  have C__law_row := ok__law_row F__law_row m__law_row T C__law_line
  have C__law_calendar := ok__law_calendar F__law_calendar m__law_calendar T C__law_line
  have C__law_timed := ok__law_timed F__law_timed m__law_timed T C__law_line
  have C_is_stretch := ok_is_stretch F_is_stretch m_is_stretch T C_is_group C_is_number
  have C_need := ok_need F_need m_need T 
  have C_refuse := ok_refuse F_refuse m_refuse T 
  have C__is_queue_event := ok__is_queue_event F__is_queue_event m__is_queue_event T C_is_positive
  have C__are_numbers := ok__are_numbers F__are_numbers m__are_numbers T C_is_number
  have C__law_checked := ok__law_checked F__law_checked m__law_checked T C__law_event
  have C_asks_fault := ok_asks_fault F_asks_fault m_asks_fault T C_is_stretch
  have C_asks_of := ok_asks_of F_asks_of m_asks_of T C_is_stretch
  have C__history_fault := ok__history_fault F__history_fault m__history_fault T C__growth C__is_queue_event
  have C_steady_asks := ok_steady_asks F_steady_asks m_steady_asks T C_need C_is_positive C_is_number
  have R_steady_asks := Cal.kw (ks := ["many", "hop", "width"]) C_steady_asks F_steady_asks m_steady_asks (by decide) (fun _ _ _ _ _ _ ws hl => match ws, hl with | [_, _, _], _ => rfl)
  have C_calendar_asks := ok_calendar_asks F_calendar_asks m_calendar_asks T C_need C_is_positive
  have R_calendar_asks := Cal.kw (ks := ["widths"]) C_calendar_asks F_calendar_asks m_calendar_asks (by decide) (fun _ _ _ _ _ _ ws hl => match ws, hl with | [_], _ => rfl)
  have C__are_times := ok__are_times F__are_times m__are_times T C__are_numbers
  have C__law_steps := ok__law_steps F__law_steps m__law_steps T C__law_checked C__law_play
  have C__law_spoilt := ok__law_spoilt F__law_spoilt m__law_spoilt T C__law_checked
  have C_is_asks := ok_is_asks F_is_asks m_is_asks T C_asks_fault
  have C_lets_history := ok_lets_history F_lets_history m_lets_history T C_refuse C__history_fault C__growth
  have R_lets_history := Cal.kw (ks := ["thing"]) C_lets_history F_lets_history m_lets_history (by decide) (fun _ _ _ _ _ _ ws hl => match ws, hl with | [_], _ => rfl)
  have C_is_history := ok_is_history F_is_history m_is_history T C__history_fault
  have R_is_history := Cal.kw (ks := ["thing"]) C_is_history F_is_history m_is_history (by decide) (fun _ _ _ _ _ _ ws hl => match ws, hl with | [_], _ => rfl)
  have C_timed_asks := ok_timed_asks F_timed_asks m_timed_asks T C_need C_asks_of C__are_times C_is_positive C__are_numbers
  have P_timed_asks := Cal.kwN (ks := ["moments", "times", "length"]) (pm := [1, 2, 0]) C_timed_asks F_timed_asks m_timed_asks (by decide) (fun _ _ _ _ _ _ ws hl => match ws, hl with | [_, _, _], _ => rfl)
  have C_is_queue := ok_is_queue F_is_queue m_is_queue T C_is_asks
  have C_asks_by := ok_asks_by F_asks_by m_asks_by T C_need C_asks_of C_is_history
  have R_asks_by := Cal.kw (ks := ["history"]) C_asks_by F_asks_by m_asks_by (by decide) (fun _ _ _ _ _ _ ws hl => match ws, hl with | [_], _ => rfl)
  have C__law_same := ok__law_same F__law_same m__law_same T
  have C_need_order := ok_need_order F_need_order m_need_order T C_is_queue C_crossed_asks
  have C__law_calendars := ok__law_calendars F__law_calendars m__law_calendars T C__law_steady C__law_calendar C__law_timed C_timed_asks C__law_same C_is_queue C_steady_asks C_calendar_asks P_timed_asks R_steady_asks R_calendar_asks
  have C_need_queue := ok_need_queue F_need_queue m_need_queue T C_need C_need_order C_is_asks
  have C_history_by := ok_history_by F_history_by m_history_by T C_need_queue
  have R_history_by := Cal.kw (ks := ["queue"]) C_history_by F_history_by m_history_by (by decide) (fun _ _ _ _ _ _ ws hl => match ws, hl with | [_], _ => rfl)
  have C__law_call := ok__law_call F__law_call m__law_call T C_timed_asks C_lets_history C_asks_by C_history_by C_steady_asks C_calendar_asks
  have C__law_history := ok__law_history F__law_history m__law_history T C__law_play C__law_line C__law_steps C__law_same C_is_queue C_history_by C_asks_by R_is_history R_lets_history R_asks_by R_history_by
  have C__law_refused := ok__law_refused F__law_refused m__law_refused T C__law_same C__law_call
  have C__law_spoilt_histories := ok__law_spoilt_histories F__law_spoilt_histories m__law_spoilt_histories T C__law_spoilt C__law_checked C__law_same C__law_call C_is_history C__law_line C__law_play
  have C__law_rows := ok__law_rows F__law_rows m__law_rows T C__law_line C__law_asks C__law_fault C__law_call C__law_same C__law_refused C_is_queue C__law_steps C_asks_by
  have C__law_bad_calendars := ok__law_bad_calendars F__law_bad_calendars m__law_bad_calendars T C__law_refused C_calendar_asks
  have C_law := ok_law F_law m_law T C__law_nums C__law_events C__law_row C__law_rows C__law_calendars C__law_bad_calendars C__law_history C__law_spoilt_histories
  exact C_law
end
end K2
set_option Elab.async false
set_option linter.all false
set_option maxRecDepth 100000
set_option maxHeartbeats 0
namespace K2
open PySem PySem.Spec PyProof.Rows L2 Dl
end K2
set_option Elab.async false
set_option linter.all false
set_option maxRecDepth 100000
set_option maxHeartbeats 0
namespace K2
open PySem PySem.Spec PyProof.Rows L2 Dl
def Math : Prop := ∀ ns : List Int, ns.length ≤ 63 → (∀ i ∈ ns, Builtin.Int.intBits i ≤ 1048576) → ∃ n, f_law [.im (.list (ns.map .int))] = some (.ok (.d (.bool true), n))
theorem lay {K : PySem.W.Frag} {H : Hp} {A : AS} {a : Addr} {ns : List Int} (h : SqL K H a (ns.map V.int)) (hA : ¬ A a) : Dv K H A (.ref a) (.list (ns.map .int)) := by
  have t : ∀ l : List Int, DvA K H A (l.map V.int) (l.map .int) := fun l => by
    induction l with
    | nil => exact .nil
    | cons n r ih => exact .cons (.int n) ih
  rcases h with h | h
  · exact .lst (.inl ⟨h, hA⟩) (t ns)
  · exact .lst (.inr h) (t ns)
theorem told {c : Cz} {S : AS} {σ : Sg} {as : Nv} {H : Hp} {Q : VK} {d : PD} {n : Nv} {r : Rs Rv} (h : ∀ v H', Dv c.K H' (AV S σ n) v d → Q v H') (e : r = some (.ok (.d d, n))) : OkF c S r σ as H Q := by
  subst e
  exact fun v H' st R' w => h v H' (w.weak fun a z => z.elim .inl .inr)
theorem says0 {F : Nv → Rs Rv} (M : ∀ ns : List Int, ns.length ≤ 63 → (∀ i ∈ ns, Builtin.Int.intBits i ≤ 1048576) → ∃ n, F [.im (.list (ns.map .int))] = some (.ok (.d (.bool true), n))) {K : PySem.W.Frag} {c : Str → Option Value} (H : Hp) (a : Addr) (ns : List Int) (hl : ns.length ≤ 63) (hB : ∀ i ∈ ns, Builtin.Int.intBits i ≤ 1048576) (hO : Only H) (hS : SqL K H a (ns.map V.int)) : spM K c 1 F [.ref a] H (fun v _ => v = .bl true) fun _ _ _ => False := by
  refine ⟨rfl, fun _ => False, [.im (.list (ns.map .int))], ⟨rfl, fun i d e => ?_, fun i pm ds e => ?_, fun i j pm qm ds es p e => ?_, fun a z => z.elim⟩, fun b ⟨i, pm, ds, e, _⟩ => ?_, fun i ds e => ?_, ?_⟩
  · match i, e with
    | 0, e =>
      cases e
      refine ⟨.ref a, rfl, lay hS fun z => ?_⟩
      rcases z with z | ⟨i, pm, ds, e, _⟩
      · exact z
      · match i, e with
        | 0, e => cases e
        | i + 1, e => cases e
    | i + 1, e => cases e
  · match i, e with
    | 0, e => cases e
    | i + 1, e => cases e
  · match i, e with
    | 0, e => cases e
    | i + 1, e => cases e
  · match i, e with
    | 0, e => cases e
    | i + 1, e => cases e
  · match i, e with
    | 0, e => cases e
    | i + 1, e => cases e
  · obtain ⟨n, e⟩ := M ns hl hB
    exact told (fun v H' w => by cases w; rfl) e
theorem says (M : Math) {K : PySem.W.Frag} {c : Str → Option Value} (H : Hp) (a : Addr) (ns : List Int) (hl : ns.length ≤ 63) (hB : ∀ i ∈ ns, Builtin.Int.intBits i ≤ 1048576) (hO : Only H) (hS : SqL K H a (ns.map V.int)) : spM K c 1 f_law [.ref a] H (fun v _ => v = .bl true) fun _ _ _ => False := says0 (F := f_law) M H a ns hl hB hO hS
end K2
section
open PySem PySem.W PySem.Calls PyProof.Rows
theorem k02 (M : K2.Math) : PySem.Challenge.rw_underthree_k02_whole_histories_and_calen.Holds := by
  w_on; o_law
  refine HandSHeadRun.head_any (r := OpenLaw.row PySem.Challenge.rw_underthree_k02_whole_histories_and_calen) (q := K2.vw) (H := K2.hk) (ob := K2.ob) (M := 6000) (loose := K2.loose) (d := HandSHeadRun.topDef (OpenLaw.row PySem.Challenge.rw_underthree_k02_whole_histories_and_calen).prog 62) (kwd := []) K2.ob_eq
    (by kernel_rfl) (fun s => by kernel_rfl) K2.run (by kernel_rfl) (by kernel_rfl) (by kernel_rfl) (by rfl) (by first | assumption | decide +kernel) (by decide +kernel) ⟨rfl, rfl, rfl, rfl, rfl, by decide +kernel⟩ ?hw ?hc
  case hw => w_witness2
  case hc =>
    refine Dl.walk_ofG (l := PySem.Challenge.rw_underthree_k02_whole_histories_and_calen) (n := 63) (k := 13) (x := "_law_script") rfl (by decide) (by kernel_rfl) ⟨rfl, by decide, by decide⟩ ?F (fun w H t e s' ⟨_, _, _, _, _, _, _, _, _, _, _, _, z⟩ => z)
    intro w mg fa h Y G hmg0
    obtain ⟨K, KX, c⟩ := Y
    have hmg : mg ("law" : PySem.Str) = some (.ref fa) := by
      have e : (HandSHeadRun.topDef (OpenLaw.row PySem.Challenge.rw_underthree_k02_whole_histories_and_calen).prog 62).name = ("law" : PySem.Str) := by kernel_rfl
      rw [← e]
      exact hmg0
    refine ⟨K, _, KX, K2.says M (c := K2.cl K), fun base hK hN => ?_⟩
    obtain ⟨a, fd, F, hm, _, bd⟩ := (K2.facts (P := PySem.Challenge.rw_underthree_k02_whole_histories_and_calen.prog) (w := w) KX G c base hK hN).ex
    rw [hmg] at hm
    cases hm
    exact ⟨fd, Dl.FnG.of F, bd⟩
end
set_option Elab.async false
set_option linter.all false
set_option maxRecDepth 100000
namespace Dl
open PySem
section
variable {s : Sl} {n n1 n2 n' m m' as' : Nv} {i : Nat} {d x y z : PD} {pm : Bool} {ct : Ct} {a b : Ar} {p q : Bool} {fa fb : Nv → Rs Ar} {ft fu : Nv → Rs Bool} {fr : Nv → Rs (List Ar)} {as : List Ar} {ds es : List PD} {fo : Nv → Rs (List PD)} {fi : Nv → Rs (List PD)} {f g : Nv → RS} {r : RS} {v : Rv} {e : Er × Nv} {tg : PD → Nv → Option Nv}
def evK (i : Nat) (n : Nv) (o : Option Sl) : Rs Ar := match o with
  | some (.im d) => Dl.ret (.d d) n
  | some (.ow _ _) => Dl.ret (.o i) n
  | _ => none
@[simp] theorem u_v : eV i (s :: n) = evK i (s :: n) (s :: n)[i]? := (rfl)
@[simp] theorem u_vi : evK i n (some (.im d)) = Dl.ret (.d d) n := (rfl)
@[simp] theorem u_vo : evK i n (some (.ow pm ct)) = Dl.ret (.o i) n := (rfl)
@[simp] theorem u_c : eC x n = Dl.ret (.d x) n := (rfl)
@[simp] theorem u_bin {G : PD → PD → Option PD} : eBin G fa fb (s :: n) = bnd (fa (s :: n)) fun a n1 => bnd (fb n1) fun b n2 => lft (ArD n2 a) fun x => lft (ArD n2 b) fun y => lft (G x y) fun d => Dl.ret (.d d) n2 := (rfl)
@[simp] theorem u_un {G : PD → Option PD} : eUn G fa (s :: n) = bnd (fa (s :: n)) fun a n1 => lft (ArD n1 a) fun x => lft (G x) fun d => Dl.ret (.d d) n1 := (rfl)
@[simp] theorem u_and : eAnd fa fb (s :: n) = bnd (fa (s :: n)) fun a n1 => lft (arB n1 a) fun b => if b = true then fb n1 else Dl.ret (.d (.bool false)) n1 := (rfl)
@[simp] theorem u_or : eOr fa fb (s :: n) = bnd (fa (s :: n)) fun a n1 => lft (arB n1 a) fun b => if b = true then Dl.ret (.d (.bool true)) n1 else fb n1 := (rfl)
@[simp] theorem u_not : eNot fa (s :: n) = bnd (fa (s :: n)) fun a n1 => lft (arB n1 a) fun b => Dl.ret (.d (.bool (!b))) n1 := (rfl)
@[simp] theorem u_if : eIf ft fa fb (s :: n) = bnd (ft (s :: n)) fun b n1 => if b = true then fa n1 else fb n1 := (rfl)
@[simp] theorem u_isN {neg : Bool} : eIsN neg fa (s :: n) = bnd (fa (s :: n)) fun a n1 => lft (ArI [a]) fun ds => Dl.ret (.d (.bool (xor neg (ds.any gIsN)))) n1 := (rfl)
@[simp] theorem u_isi {T : String} : eIsi T fa (s :: n) = bnd (fa (s :: n)) fun a n1 => lft (ArD n1 a) fun d => Dl.ret (.d (.bool (isiD T d))) n1 := (rfl)
@[simp] theorem u_nil : aNil n = Dl.ret [] n := (rfl)
@[simp] theorem u_cons : aCons fa fr (s :: n) = bnd (fa (s :: n)) fun a n1 => bnd (fr n1) fun as n2 => Dl.ret (a :: as) n2 := (rfl)
@[simp] theorem u_cb {G : List PD → Option PD} : eCb G fr (s :: n) = bnd (fr (s :: n)) fun as n1 => lft (ArDs n1 as) fun ds => lft (G ds) fun d => Dl.ret (.d d) n1 := (rfl)
@[simp] theorem u_ocb {G : List PD → Option (List PD)} : oCb G fr (s :: n) = bnd (fr (s :: n)) fun as n1 => lft (ArDs n1 as) fun ds => lft (G ds) fun es => Dl.ret es n1 := (rfl)
@[simp] theorem u_of : eOf fo (s :: n) = bnd (fo (s :: n)) fun ds n1 => Dl.ret (.d (.list ds)) n1 := (rfl)
@[simp] theorem u_tup : eTup fr (s :: n) = bnd (fr (s :: n)) fun as n1 => lft (ArI as) fun ds => if lineB ds.length = true then Dl.ret (.d (.tuple ds)) n1 else none := (rfl)
@[simp] theorem u_lst : oLst fr (s :: n) = bnd (fr (s :: n)) fun as n1 => lft (ArI as) fun ds => if lineB ds.length = true then Dl.ret ds n1 else none := (rfl)
@[simp] theorem u_call {F : Nv → Rs Rv} : eCall F fr (s :: n) = bnd (fr (s :: n)) fun as n1 => if Dl.dist as = true then lft (slots n1 as) fun m => cal (F m) n1 (eRv as n1) else none := (rfl)
@[simp] theorem u_callR {F : Nv → Rs Rv} : eCallR F fr (s :: n) = bnd (fr (s :: n)) fun as n1 => if Dl.dist as.reverse = true then lft (slots n1 as.reverse) fun m => cal (F m) n1 (eRv as.reverse n1) else none := (rfl)
@[simp] theorem u_ocall {F : Nv → Rs Rv} : oCall F fr (s :: n) = bnd (fr (s :: n)) fun as n1 => if Dl.dist as = true then lft (slots n1 as) fun m => cal (F m) n1 (oRv as n1) else none := (rfl)
@[simp] theorem u_rvd : eRv as n (.d x) m = Dl.ret (.d x) (back as m n) := (rfl)
@[simp] theorem u_rvl : eRv as n (.l ds) m = Dl.ret (.d (.list ds)) (back as m n) := (rfl)
@[simp] theorem u_orl : oRv as n (.l ds) m = Dl.ret ds (back as m n) := (rfl)
@[simp] theorem u_ArDd : ArD n (.d x) = some x := (rfl)
@[simp] theorem u_ArDs0 : ArDs n [] = some [] := (rfl)
@[simp] theorem u_ArDs1 : ArDs n (a :: as) = (ArD n a).bind fun x => (ArDs n as).map fun xs => x :: xs := by
  unfold ArDs
  rw [List.mapM_cons]
  cases ArD n a <;> simp [Option.map_eq_bind, pure]
  rfl
def ardK (o : Option Sl) : Option PD := match o with
  | some (.ow _ (.l ds)) => some (.list ds)
  | _ => none
@[simp] theorem u_ArDo : ArD n (.o i) = ardK n[i]? := by unfold ArD ardK; rfl
@[simp] theorem u_ardK : ardK (some (.ow pm (.l ds))) = some (.list ds) := (rfl)
@[simp] theorem u_arB : arB n (.d (.bool p)) = some p := (rfl)
@[simp] theorem u_slots0 : slots n [] = some [] := (rfl)
@[simp] theorem u_slots1 : slots n (.d x :: as) = (slots n as).map (.im x :: ·) := (rfl)
def sltK (n : Nv) (as : List Ar) (o : Option Sl) : Option Nv := match o with
  | some (.ow _ ds) => (slots n as).map (.ow true ds :: ·)
  | _ => none
@[simp] theorem u_slots2 : slots n (.o i :: as) = sltK n as n[i]? := by unfold sltK; rw [slots]; first | done | rfl
@[simp] theorem u_sltK : sltK n as (some (.ow pm ct)) = (slots n as).map (.ow true ct :: ·) := (rfl)
@[simp] theorem u_val : tVal fa (s :: n) = bnd (fa (s :: n)) fun a n1 => lft (arB n1 a) fun b => Dl.ret b n1 := (rfl)
@[simp] theorem u_tnot : tNotF ft (s :: n) = bnd (ft (s :: n)) fun b n1 => Dl.ret (!b) n1 := (rfl)
@[simp] theorem u_tand : tAndF ft fu (s :: n) = bnd (ft (s :: n)) fun b n1 => if b = true then fu n1 else Dl.ret false n1 := (rfl)
@[simp] theorem u_tor : tOrF ft fu (s :: n) = bnd (ft (s :: n)) fun b n1 => if b = true then Dl.ret true n1 else fu n1 := (rfl)
def sq (r : RS) (g : Nv → RS) : RS := match r with
  | some (.ok (.nx, n')) => g n'
  | r => r
@[simp] theorem u_seq : sSeq f g (s :: n) = sq (f (s :: n)) g := (rfl)
@[simp] theorem u_sq : sq (some (.ok (.nx, n))) g = g n := (rfl)
@[simp] theorem u_sqr : sq (some (.ok (.rt v, n))) g = some (.ok (.rt v, n)) := (rfl)
@[simp] theorem u_sqe : sq (some (.error e)) g = some (.error e) := (rfl)
@[simp] theorem u_next : sNext n = some (.ok (.nx, n)) := (rfl)
@[simp] theorem u_sif : sIf ft f g (s :: n) = sbn (ft (s :: n)) fun b n1 => if b = true then f n1 else g n1 := (rfl)
def retK (a : Ar) (n1 : Nv) : RS := match a with
  | .d x => some (.ok (.rt (.d x), n1))
  | .o i => match n1[i]? with
    | some (.ow false (.l ds)) => some (.ok (.rt (.l ds), n1))
    | _ => none
@[simp] theorem u_ret : sRet fa (s :: n) = sbn (fa (s :: n)) retK := (rfl)
@[simp] theorem u_retd : retK (.d x) n = some (.ok (.rt (.d x), n)) := (rfl)
def retK2 (n : Nv) (o : Option Sl) : RS := match o with
  | some (.ow false (.l ds)) => some (.ok (.rt (.l ds), n))
  | _ => none
@[simp] theorem u_reto : retK (.o i) n = retK2 n n[i]? := by unfold retK retK2; rfl
@[simp] theorem u_ret2 : retK2 n (some (.ow false (.l ds))) = some (.ok (.rt (.l ds), n)) := (rfl)
def setK (i : Nat) (a : Ar) (n1 : Nv) : RS := match a with
  | .d x => if free? n1 i = true then nxt (n1.set i (.im x)) else none
  | .o _ => none
@[simp] theorem u_set : sSet i fa (s :: n) = sbn (fa (s :: n)) (setK i) := (rfl)
@[simp] theorem u_setd : setK i (.d x) n = if free? n i = true then some (.ok (.nx, n.set i (.im x))) else none := (rfl)
@[simp] theorem u_new : sNew i fo (s :: n) = sbn (fo (s :: n)) fun ds n1 => if free? n1 i = true then some (.ok (.nx, n1.set i (.ow false (.l ds)))) else none := (rfl)
@[simp] theorem u_expr : sExpr fa (s :: n) = sbn (fa (s :: n)) fun _ n1 => some (.ok (.nx, n1)) := (rfl)
def freK (o : Option Sl) : Bool := match o with
  | some (.ow true _) => false
  | _ => true
@[simp] theorem u_free : free? n i = freK n[i]? := (rfl)
@[simp] theorem u_fre1 : freK (some (.im x)) = true := (rfl)
@[simp] theorem u_fre2 : freK (some .un) = true := (rfl)
@[simp] theorem u_fre3 : freK (some (.ow false ct)) = true := (rfl)
def appK (i : Nat) (as : List Ar) (n1 : Nv) : RS := match as, n1[i]? with
  | [.d x], some (.ow pm (.l ds)) => if ltLine ds.length = true then nxt (n1.set i (.ow pm (.l (ds ++ [x])))) else none
  | _, _ => none
def appK2 (i : Nat) (x : PD) (n : Nv) (o : Option Sl) : RS := match o with
  | some (.ow pm (.l ds)) => if ltLine ds.length = true then some (.ok (.nx, n.set i (.ow pm (.l (ds ++ [x]))))) else none
  | _ => none
def appK0 (i : Nat) (fr : Nv → Rs (List Ar)) (n : Nv) (o : Option Sl) : RS := match o with
  | some (.ow _ (.l _)) => sbn (fr n) (appK i)
  | _ => none
@[simp] theorem u_app : sApp i fr (s :: n) = appK0 i fr (s :: n) (s :: n)[i]? := by unfold sApp appK0; rfl
@[simp] theorem u_app0 : appK0 i fr n (some (.ow pm (.l ds))) = sbn (fr n) (appK i) := (rfl)
@[simp] theorem u_app1 : appK i [.d x] n = appK2 i x n n[i]? := by
  unfold appK appK2
  cases n[i]? with
  | none => rfl
  | some s =>
    cases s with
    | ow pm c => cases c <;> rfl
    | _ => rfl
@[simp] theorem u_app2 : appK2 i x n (some (.ow pm (.l ds))) = if ltLine ds.length = true then some (.ok (.nx, n.set i (.ow pm (.l (ds ++ [x]))))) else none := (rfl)
@[simp] theorem u_for : sFor fi tg f (s :: n) = sbn (fi (s :: n)) fun ds n1 => loopF tg f ds n1 := (rfl)
def asgK (tg : PD → Nv → Option Nv) (a : Ar) (n1 : Nv) : RS := match a with
  | .d x => match tg x n1 with
    | some n2 => nxt n2
    | none => none
  | .o _ => none
@[simp] theorem u_asg : sAsg fa tg (s :: n) = sbn (fa (s :: n)) (asgK tg) := (rfl)
def asgK2 (o : Option Nv) : RS := match o with
  | some n => some (.ok (.nx, n))
  | none => none
@[simp] theorem u_asgd : asgK tg (.d x) n = asgK2 (tg x n) := by
  show (match tg x n with | some n2 => nxt n2 | none => none) = asgK2 (tg x n)
  cases tg x n <;> rfl
@[simp] theorem u_asg2 : asgK2 (some n) = some (.ok (.nx, n)) := (rfl)
@[simp] theorem u_body {k : Nat} : body k f as' = Dl.fin as' (f (as' ++ List.replicate k .un)) := (rfl)
@[simp] theorem u_finr : Dl.fin as' (some (.ok (.rt v, n))) = Dl.ret v (mrg as' n) := (rfl)
@[simp] theorem u_finn : Dl.fin as' (some (.ok (.nx, n))) = Dl.ret (.d .none) (mrg as' n) := (rfl)
@[simp] theorem u_fine : Dl.fin as' (some (.error e)) = some (.error e) := (rfl)
@[simp] theorem u_ary {k : Nat} {F : Nv → Rs Rv} : ary k F (s :: n) = if (s :: n).length = k then F (s :: n) else none := (rfl)
def itmK (i : Nat) (fk : Nv → Rs Ar) (a : Ar) (n1 : Nv) : RS := match a, n1[i]? with
  | .d x, some (.ow _ (.l _)) => sbn (fk n1) fun b n2 => eItmK i x b n2
  | _, _ => none
@[simp] theorem u_itm : sItm i fa fb (s :: n) = sbn (fa (s :: n)) (itmK i fb) := (rfl)
def itmK2 (i : Nat) (fk : Nv → Rs Ar) (x : PD) (n1 : Nv) (o : Option Sl) : RS := match o with
  | some (.ow _ (.l _)) => sbn (fk n1) fun b n2 => eItmK i x b n2
  | _ => none
@[simp] theorem u_itmd : itmK i fb (.d x) n = itmK2 i fb x n n[i]? := by
  unfold itmK itmK2
  cases n[i]? with
  | none => rfl
  | some s =>
    cases s with
    | ow pm c => cases c <;> rfl
    | _ => rfl
@[simp] theorem u_itm2 : itmK2 i fb x n (some (.ow pm (.l ds))) = sbn (fb n) fun b n2 => eItmK i x b n2 := (rfl)
def itj (i : Nat) (x : PD) (n : Nv) (pm : Bool) (ds : List PD) (o : Option Nat) : RS := match o with
  | some j => some (.ok (.nx, n.set i (.ow pm (.l (ds.set j x)))))
  | none => none
@[simp] theorem u_itj {j : Nat} : itj i x n pm ds (some j) = some (.ok (.nx, n.set i (.ow pm (.l (ds.set j x))))) := (rfl)
def eit2 (i : Nat) (x : PD) (k : Int) (n : Nv) (o : Option Sl) : RS := match o with
  | some (.ow pm (.l ds)) => itj i x n pm ds (L2.ixN ds.length k)
  | _ => none
@[simp] theorem u_itme {k : Int} : eItmK i x (.d (.int k)) n = eit2 i x k n n[i]? := by
  unfold eItmK eit2
  cases n[i]? with
  | none => rfl
  | some s =>
    cases s with
    | ow pm c =>
      cases c with
      | l ds =>
        show (match L2.ixN ds.length k with | some j => nxt _ | none => none) = itj i x n pm ds (L2.ixN ds.length k)
        cases L2.ixN ds.length k <;> rfl
      | m _ => rfl
    | _ => rfl
@[simp] theorem u_eit2 {k : Int} : eit2 i x k n (some (.ow pm (.l ds))) = itj i x n pm ds (L2.ixN ds.length k) := (rfl)
@[simp] theorem g_addI {i j : Int} : gAdd (.int i) (.int j) = some (.int (i + j)) := (rfl)
@[simp] theorem g_subI {i j : Int} : Dl.gSub (.int i) (.int j) = some (.int (i - j)) := (rfl)
@[simp] theorem g_ltI {i j : Int} : gLt (.int i) (.int j) = some (.bool (decide (i < j))) := (rfl)
@[simp] theorem g_leI {i j : Int} : gLe (.int i) (.int j) = some (.bool (decide (i ≤ j))) := (rfl)
@[simp] theorem g_gtI {i j : Int} : gGt (.int i) (.int j) = some (.bool (decide (j < i))) := (rfl)
@[simp] theorem g_geI {i j : Int} : gGe (.int i) (.int j) = some (.bool (decide (j ≤ i))) := (rfl)
@[simp] theorem g_int {i : Int} : gInt [.int i] = some (.int i) := (rfl)
@[simp] theorem g_lenL : gLen [.list ds] = some (.int ds.length) := (rfl)
@[simp] theorem g_lenT : gLen [.tuple ds] = some (.int ds.length) := (rfl)
@[simp] theorem g_ixL {k : Int} : gIx (.list ds) (.int k) = L2.atI ds k := (rfl)
@[simp] theorem g_ixT {k : Int} : gIx (.tuple ds) (.int k) = L2.atI ds k := (rfl)
@[simp] theorem at_0 {α : Type} {l : List α} : L2.atI l 0 = l[0]? := by
  unfold L2.atI L2.ixN
  cases l <;> simp
@[simp] theorem at_1 {α : Type} {l : List α} : L2.atI l 1 = l[1]? := by
  unfold L2.atI L2.ixN
  cases l with
  | nil => simp
  | cons x r =>
    cases r with
    | nil => simp
    | cons y r =>
      have h : (1 : Int) < (r.length : Int) + 1 + 1 := by omega
      simp [h]
@[simp] theorem at_k {α : Type} {l : List α} {k : Nat} : L2.atI l (k : Int) = l[k]? := by
  unfold L2.atI L2.ixN
  by_cases h : k < l.length
  · simp [h]
  · simp [h]
@[simp] theorem ixN_0 {k : Nat} : L2.ixN (k + 1) 0 = some 0 := by simp [L2.ixN]
@[simp] theorem ixN_1 {k : Nat} : L2.ixN (k + 2) 1 = some 1 := by
  unfold L2.ixN
  rw [if_pos (by decide), if_pos (by omega)]
  rfl
theorem g_mod {i j : Int} (h : 0 < j) : gMod (.int i) (.int j) = some (.int (i % j)) := by
  show (if pos2 i j = true then _ else _) = _
  exact if_pos (decide_eq_true h)
theorem g_div {i j : Int} (h : 0 < j) (h2 : j < 1000000000000) : gDiv (.int i) (.int j) = some (.int (i / j)) := by
  show (if div2 i j = true then _ else _) = _
  refine if_pos (Bool.and_eq_true_iff.mpr ⟨decide_eq_true h, decide_eq_true ?_⟩)
  have h3 : j.natAbs < 2 ^ 40 := by omega
  have := (Nat.log2_lt (by omega)).mpr h3
  omega
theorem g_mul {i j : Int} (h : -(2 ^ 64) < j) (h2 : j < 2 ^ 64) : gMul (.int i) (.int j) = some (.int (i * j)) := by
  show (if mul2 i j = true then _ else _) = _
  exact if_pos (Bool.or_eq_true_iff.mpr (.inl (decide_eq_true (.inr ⟨h, h2⟩))))
@[simp] theorem g_eqI {i j : Int} : gEq false (.int i) (.int j) = some (.bool (decide (i = j))) := by
  have h1 : SeqAt.shaped (.int i) = true := rfl
  have h2 : SeqAt.shaped (.int j) = true := rfl
  unfold gEq
  rw [h1, h2]
  simp [PyData.eqv]
  try rfl
theorem line_ok {k : Nat} (h : k ≤ 10000) : lineB k = true := decide_eq_true (Nat.le_trans h (by decide))
theorem ltl_ok {k : Nat} (h : k ≤ 10000) : ltLine k = true := decide_eq_true (Nat.lt_of_le_of_lt h (by decide))
theorem in62_ok {k : Int} (h : -1000000 ≤ k) (h2 : k ≤ 1000000) : in62 k = true := by
  unfold in62
  rw [Bool.and_eq_true, decide_eq_true_eq, decide_eq_true_eq]
  exact ⟨Int.le_trans (by decide) h, Int.lt_of_le_of_lt h2 (by decide)⟩
def rng1 (as : List Ar) (n1 : Nv) : Rs (List PD) := match as with
  | [.d (.int j)] => if in62 j = true then Dl.ret (rngD 0 j.toNat) n1 else none
  | _ => none
@[simp] theorem u_iR1 : iR1 fr (s :: n) = bnd (fr (s :: n)) rng1 := (rfl)
theorem u_rng1 {k : Nat} (h : k ≤ 1000000) : rng1 [.d (.int k)] n = Dl.ret (rngD 0 k) n := by
  unfold rng1
  dsimp only
  rw [if_pos (in62_ok (by omega) (by omega)), Int.toNat_natCast]
def tupK (a : Ar) (n1 : Nv) : Rs (List PD) := match a with
  | .d (.tuple ds) => Dl.ret ds n1
  | _ => none
@[simp] theorem u_iT : iT fa (s :: n) = bnd (fa (s :: n)) tupK := (rfl)
@[simp] theorem u_tupK : tupK (.d (.tuple ds)) n = Dl.ret ds n := (rfl)
def lstK (a : Ar) (n1 : Nv) : Rs (List PD) := match a with
  | .d (.list ds) => Dl.ret ds n1
  | _ => none
@[simp] theorem u_iL : iL fa (s :: n) = bnd (fa (s :: n)) lstK := (rfl)
@[simp] theorem u_lstK : lstK (.d (.list ds)) n = Dl.ret ds n := (rfl)
@[simp] theorem u_gN : gN i x (s :: n) = if free? (s :: n) i = true then some ((s :: n).set i (.im x)) else none := (rfl)
end
end Dl
set_option Elab.async false
set_option linter.all false
set_option maxRecDepth 100000
namespace Dl
open PySem
section
variable {s : Sl} {n n1 n2 n' m : Nv} {i j : Nat} {d x y z : PD} {pm : Bool} {ct : Ct} {a b : Ar} {p q : Bool} {fa fb : Nv → Rs Ar} {ft fu : Nv → Rs Bool} {fr : Nv → Rs (List Ar)} {as : List Ar} {ds es : List PD} {fo : Nv → Rs (List PD)} {fi : Nv → Rs (List PD)} {f g : Nv → RS} {r : RS} {v : Rv} {e : Er × Nv} {tg : PD → Nv → Option Nv} {vs : List Nat} {kds : List (L2.Key × PD)} {k : L2.Key}
def cmpK (vs : List Nat) (tg : PD → Nv → Option Nv) (ft : Nv → Rs Bool) (fe : Nv → Rs Ar) (ds : List PD) (n1 : Nv) : Rs (List PD) :=
  if clr n1 vs = true then if decide (ds.length < sizeLine) = true then bnd (compF vs tg ft fe ds n1) fun xs n2 => if kndB n1 n2 = true then Dl.ret xs n2 else none else none else none
@[simp] theorem u_comp : oComp vs fi tg ft fa (s :: n) = bnd (fi (s :: n)) (cmpK vs tg ft fa) := (rfl)
theorem noE_ret {α : Type} {a : α} {n : Nv} : noE (Dl.ret a n) = Dl.ret a n := (rfl)
theorem knd_refl : ∀ n : Nv, kndB n n = true
  | [] => rfl
  | .ow p _ :: r => by simp [kndB, knd_refl r]
  | .im _ :: r => by simp [kndB, knd_refl r]
  | .un :: r => by simp [kndB, knd_refl r]
theorem set_un {n : Nv} {i : Nat} (h : n[i]? = some .un) : n.set i .un = n := by
  apply List.ext_getElem?
  intro j
  rw [List.getElem?_set]
  split
  · rename_i e; subst e
    split
    · rw [h]
    · rename_i q
      rw [List.getElem?_eq_none (by omega)] at h
      cases h
  · rfl
theorem free_set {n : Nv} {i : Nat} {d : PD} {k : Nat} (h : freK n[k]? = true) : freK (n.set i (.im d))[k]? = true := by
  rw [List.getElem?_set]
  split
  · split <;> rfl
  · exact h
theorem comp_im {fe : Nv → Rs Ar} {G : PD → PD} {i : Nat} {n : Nv} {ds : List PD} (hn : n[i]? = some .un) (hl : ds.length ≤ 10000) (h : ∀ d ∈ ds, fe (n.set i (.im d)) = Dl.ret (.d (G d)) (n.set i (.im d))) :
    cmpK [i] (gN i) fYes fe ds n = Dl.ret (ds.map G) n := by
  have hc : clr n [i] = true := by simp [clr, hn]
  have key : ∀ l : List PD, (∀ d ∈ l, d ∈ ds) → compF [i] (gN i) fYes fe l n = Dl.ret (l.map G) n := fun l => by
    induction l with
    | nil => intro _; rfl
    | cons d r ih =>
      intro hm
      unfold compF
      have e1 : gN i d n = some (n.set i (.im d)) := by
        unfold gN
        rw [u_free, hn]
        rfl
      rw [e1]
      simp only [lft_some, fYes, noE_ret, bnd_ret, if_true]
      rw [h d (hm d (List.mem_cons_self ..))]
      simp only [noE_ret, bnd_ret]
      show (if [i].all (free? (n.set i (.im d))) = true then bnd (compF [i] (gN i) fYes fe r (wipeN (n.set i (.im d)) [i])) _ else none) = _
      have e2 : [i].all (free? (n.set i (.im d))) = true := by
        simp only [List.all_cons, List.all_nil, Bool.and_true, u_free]
        exact free_set (by rw [hn]; rfl)
      have e3 : wipeN (n.set i (.im d)) [i] = n := by
        show (n.set i (.im d)).set i .un = n
        rw [List.set_set, set_un hn]
      rw [if_pos e2, e3, ih fun d hd => hm d (List.mem_cons_of_mem _ hd)]
      rfl
  unfold cmpK
  rw [if_pos hc, if_pos (show decide (ds.length < sizeLine) = true from ltl_ok hl), key ds fun _ h => h]
  show (if kndB n n = true then _ else _) = _
  rw [if_pos (knd_refl n)]
theorem comp_zip {fe : Nv → Rs Ar} {G : PD → PD → PD} {i j : Nat} {n : Nv} {ps : List (PD × PD)} (hij : i ≠ j) (hn : n[i]? = some .un) (hn2 : n[j]? = some .un) (hl : ps.length ≤ 10000)
    (h : ∀ d e, (d, e) ∈ ps → fe ((n.set i (.im d)).set j (.im e)) = Dl.ret (.d (G d e)) ((n.set i (.im d)).set j (.im e))) :
    cmpK [i, j] (gT 2 (gsC (gN i) (gsC (gN j) gsN))) fYes fe (ps.map fun p => .tuple [p.1, p.2]) n = Dl.ret (ps.map fun p => G p.1 p.2) n := by
  have hc : clr n [i, j] = true := by simp [clr, hn, hn2]
  have key : ∀ l : List (PD × PD), (∀ d ∈ l, d ∈ ps) → compF [i, j] (gT 2 (gsC (gN i) (gsC (gN j) gsN))) fYes fe (l.map fun p => .tuple [p.1, p.2]) n = Dl.ret (l.map fun p => G p.1 p.2) n := fun l => by
    induction l with
    | nil => intro _; rfl
    | cons d r ih =>
      intro hm
      obtain ⟨d, e⟩ := d
      rw [List.map_cons]
      unfold compF
      have f1 : free? n i = true := by rw [u_free, hn]; rfl
      have f2 : free? (n.set i (.im d)) j = true := by rw [u_free]; exact free_set (by rw [hn2]; rfl)
      have e1 : gT 2 (gsC (gN i) (gsC (gN j) gsN)) (.tuple [d, e]) n = some ((n.set i (.im d)).set j (.im e)) := by
        simp [gT, gsC, gN, gsN, f1, f2, hn, hn2]
        have f2' := f2
        rw [u_free] at f2'
        simp [f2', u_fre2]
      rw [e1]
      simp only [lft_some, fYes, noE_ret, bnd_ret, if_true]
      rw [h d e (hm _ (List.mem_cons_self ..))]
      simp only [noE_ret, bnd_ret]
      show (if [i, j].all (free? ((n.set i (.im d)).set j (.im e))) = true then bnd (compF [i, j] (gT 2 (gsC (gN i) (gsC (gN j) gsN))) fYes fe _ (wipeN ((n.set i (.im d)).set j (.im e)) [i, j])) _ else none) = _
      have e2 : [i, j].all (free? ((n.set i (.im d)).set j (.im e))) = true := by
        simp only [List.all_cons, List.all_nil, Bool.and_true, u_free, Bool.and_eq_true]
        exact ⟨free_set (free_set (by rw [hn]; rfl)), free_set (free_set (by rw [hn2]; rfl))⟩
      have e3 : wipeN ((n.set i (.im d)).set j (.im e)) [i, j] = n := by
        show (((n.set i (.im d)).set j (.im e)).set j .un).set i .un = n
        rw [List.set_set, List.set_comm _ _ (by omega), List.set_set, set_un hn, set_un hn2]
      rw [if_pos e2, e3, ih fun d hd => hm d (List.mem_cons_of_mem _ hd)]
      rfl
  unfold cmpK
  rw [if_pos hc, if_pos (show decide ((ps.map fun p => PyData.tuple [p.1, p.2]).length < sizeLine) = true from ltl_ok (by simpa using hl)), key ps fun _ h => h]
  show (if kndB n n = true then _ else _) = _
  rw [if_pos (knd_refl n)]
theorem zipD_eq {ds es : List PD} : zipD ds es = (ds.zip es).map fun p => .tuple [p.1, p.2] := by
  unfold zipD
  rw [← List.map_uncurry_zip_eq_zipWith]
  rfl
@[simp] def noO : List Ar → Bool
  | [] => true
  | .d _ :: r => noO r
  | .o _ :: _ => false
theorem look_d : ∀ {as : List Ar} {m : Nv} {i : Nat}, noO as = true → look as m i = none
  | [], m, i, _ => by cases m <;> rfl
  | .o _ :: r, m, i, h => by cases h
  | .d x :: r, [], i, _ => rfl
  | .d x :: r, s :: m, i, h => by
    show look r m i = none
    exact look_d h
def bkK (o : Option Ct) (s : Sl) : Sl := match s with
  | .ow pm ds => .ow pm (o.getD ds)
  | s => s
@[simp] theorem u_bkim {o : Option Ct} : bkK o (.im d) = .im d := (rfl)
@[simp] theorem u_bkun {o : Option Ct} : bkK o .un = .un := (rfl)
@[simp] theorem u_bkow {o : Option Ct} : bkK o (.ow pm ct) = .ow pm (o.getD ct) := (rfl)
theorem u_back {m : Nv} : back as m n = n.mapIdx fun i s => bkK (look as m i) s := (rfl)
theorem back_d {m : Nv} (h : noO as = true) : back as m n = n := by
  rw [u_back]
  apply List.ext_getElem?
  intro j
  rw [List.getElem?_mapIdx]
  cases n[j]? with
  | none => rfl
  | some s =>
    rw [Option.map_some, look_d h]
    cases s <;> rfl
section
variable {x1 x2 x3 x4 x5 x6 : PD} {m : Nv}
@[simp] theorem back_0 : back [] m n = n := back_d rfl
@[simp] theorem back_1 : back [.d x1] m n = n := back_d rfl
@[simp] theorem back_2 : back [.d x1, .d x2] m n = n := back_d rfl
@[simp] theorem back_3 : back [.d x1, .d x2, .d x3] m n = n := back_d rfl
@[simp] theorem back_4 : back [.d x1, .d x2, .d x3, .d x4] m n = n := back_d rfl
@[simp] theorem back_5 : back [.d x1, .d x2, .d x3, .d x4, .d x5] m n = n := back_d rfl
theorem back_o {r : List Ar} {m : Nv} {es : Ct} (h : noO r = true) : back (.o 0 :: r) (.ow p es :: m) (.ow pm ct :: n) = .ow pm es :: n := by
  rw [u_back, List.mapIdx_cons]
  have e : (List.mapIdx (fun i s => bkK (look (.o 0 :: r) (.ow p es :: m) (i + 1)) s) n) = n := by
    apply List.ext_getElem?
    intro j
    rw [List.getElem?_mapIdx]
    cases n[j]? with
    | none => rfl
    | some s =>
      have e2 : look (.o 0 :: r) (.ow p es :: m) (j + 1) = none := by
        show (if 0 = j + 1 then some es else look r m (j + 1)) = none
        rw [if_neg (by omega), look_d h]
      rw [Option.map_some, e2]
      cases s <;> rfl
  rw [e]
  rfl
@[simp] theorem back_o0 {es : Ct} : back [.o 0] (.ow p es :: m) (.ow pm ct :: n) = .ow pm es :: n := back_o rfl
@[simp] theorem back_o1 {es : Ct} : back [.o 0, .d x1] (.ow p es :: m) (.ow pm ct :: n) = .ow pm es :: n := back_o rfl
@[simp] theorem back_o2 {es : Ct} : back [.o 0, .d x1, .d x2] (.ow p es :: m) (.ow pm ct :: n) = .ow pm es :: n := back_o rfl
end
def enK (as : List Ar) (n1 : Nv) : Rs (List PD) := match as with
  | [.d (.tuple ds)] => Dl.ret (enumD ds) n1
  | _ => none
@[simp] theorem u_iEn : iEn fr (s :: n) = bnd (fr (s :: n)) enK := (rfl)
@[simp] theorem u_enK : enK [.d (.tuple ds)] n = Dl.ret (enumD ds) n := (rfl)
def zpK (as : List Ar) (n1 : Nv) : Rs (List PD) := match as with
  | [.d (.tuple ds), .d (.tuple es)] => Dl.ret (zipD ds es) n1
  | _ => none
@[simp] theorem u_iZp : iZp fr (s :: n) = bnd (fr (s :: n)) zpK := (rfl)
@[simp] theorem u_zpK : zpK [.d (.tuple ds), .d (.tuple es)] n = Dl.ret (zipD ds es) n := (rfl)
def rg2 (a b : Ar) (n2 : Nv) : Rs (List PD) := match a, b with
  | .d (.int i), .d (.int j) => if rgOk i j = true then Dl.ret (rngD i (j - i).toNat) n2 else none
  | _, _ => none
@[simp] theorem u_oRg2 : oRg2 fa fb (s :: n) = bnd (fa (s :: n)) fun a n1 => bnd (fb n1) fun b n2 => rg2 a b n2 := (rfl)
theorem rgOk_ok {i j : Int} (h1 : -1000 ≤ i) (h2 : i ≤ 1000) (h3 : -1000 ≤ j) (h4 : j ≤ 1000) : rgOk i j = true := by
  unfold rgOk
  simp only [Bool.and_eq_true, decide_eq_true_eq]
  refine ⟨⟨⟨⟨?_, ?_⟩, ?_⟩, ?_⟩, ?_⟩ <;> omega
theorem u_rg2 {i j : Int} (h1 : -1000 ≤ i) (h2 : i ≤ 1000) (h3 : -1000 ≤ j) (h4 : j ≤ 1000) : rg2 (.d (.int i)) (.d (.int j)) n = Dl.ret (rngD i (j - i).toNat) n := by
  show (if rgOk i j = true then _ else _) = _
  rw [if_pos (rgOk_ok h1 h2 h3 h4)]
theorem rngD_nat {a k : Nat} : rngD (a : Int) k = (List.range' a k).map fun i : Nat => .int (i : Int) := by
  unfold rngD
  rw [List.range'_eq_map_range, List.map_map]
  apply List.map_congr_left
  intro i _
  simp
@[simp] theorem u_gT {G : List PD → Nv → Option Nv} {k : Nat} : gT k G (.tuple ds) n = if ds.length = k then G ds n else none := (rfl)
def gsK (G : List PD → Nv → Option Nv) (r : List PD) (o : Option Nv) : Option Nv := match o with
  | some n1 => G r n1
  | none => none
@[simp] theorem u_gsC {F : PD → Nv → Option Nv} {G : List PD → Nv → Option Nv} {r : List PD} : gsC F G (d :: r) n = gsK G r (F d n) := by
  unfold gsK
  rw [gsC]
  first | done | (cases F d n <;> rfl)
@[simp] theorem u_gsK {G : List PD → Nv → Option Nv} {r : List PD} : gsK G r (some n) = G r n := (rfl)
@[simp] theorem u_gsN : gsN [] n = some n := (rfl)
@[simp] theorem g_tupL : gTupOf [.list ds] = some (.tuple ds) := (rfl)
@[simp] theorem g_tupT : gTupOf [.tuple ds] = some (.tuple ds) := (rfl)
@[simp] theorem g_lstL : gLstOf [.list ds] = some ds := (rfl)
@[simp] theorem g_lstT : gLstOf [.tuple ds] = some ds := (rfl)
@[simp] theorem g_max {i j : Int} : gMax2 [.int i, .int j] = some (.int (if j > i then j else i)) := (rfl)
@[simp] theorem g_min {i j : Int} : gMin2 [.int i, .int j] = some (.int (if j < i then j else i)) := (rfl)
@[simp] theorem bls_map {α : Type} {h : α → Bool} : ∀ l : List α, blsOf (l.map fun x => .bool (h x)) = some (l.map h)
  | [] => rfl
  | x :: r => by simp [blsOf, bls_map r]
@[simp] theorem ints_map {α : Type} {h : α → Int} : ∀ l : List α, intsOf (l.map fun x => .int (h x)) = some (l.map h)
  | [] => rfl
  | x :: r => by simp [intsOf, ints_map r]
theorem g_all {α : Type} {h : α → Bool} {l : List α} : gAll [.list (l.map fun x => .bool (h x))] = some (.bool (l.all h)) := by
  simp [gAll, bls_map, List.all_map]
theorem g_addT (h : ds.length + es.length ≤ 10000) : gAdd (.tuple ds) (.tuple es) = some (.tuple (ds ++ es)) := by
  show (if lineB (ds.length + es.length) = true then _ else _) = _
  rw [if_pos (line_ok h)]
theorem g_addL (h : ds.length + es.length ≤ 10000) : gAdd (.list ds) (.list es) = some (.list (ds ++ es)) := by
  show (if lineB (ds.length + es.length) = true then _ else _) = _
  rw [if_pos (line_ok h)]
theorem g_mulT {k : Int} (h1 : k ≤ 1000) (h2 : -1000 ≤ k) (h3 : ds.length ≤ 1000) : gMul (.tuple ds) (.int k) = some (.tuple (repD k.toNat ds)) := by
  show (if (decide (k ≤ 1000) && decide (-1000 ≤ k) && decide (ds.length ≤ 1000)) = true then _ else _) = _
  rw [if_pos (by simp [h1, h2, h3])]
theorem g_pow {i j : Int} (h1 : 0 ≤ j) (h2 : j ≤ 1000000) (h3 : i.natAbs < 2 ^ 64) : gPow (.int i) (.int j) = some (.int (i ^ j.toNat)) := by
  show (if pow2 i j = true then _ else _) = _
  rw [if_pos (by simp only [pow2, Bool.and_eq_true, decide_eq_true_eq]; exact ⟨⟨h1, h2⟩, h3⟩)]
theorem g_shl {i j : Int} (h1 : 0 ≤ j) (h2 : j ≤ 1000000) (h3 : i.natAbs < 2 ^ 64) : gShl (.int i) (.int j) = some (.int (i * 2 ^ j.toNat)) := by
  show (if pow2 i j = true then _ else _) = _
  rw [if_pos (by simp only [pow2, Bool.and_eq_true, decide_eq_true_eq]; exact ⟨⟨h1, h2⟩, h3⟩)]
@[simp] theorem u_pN : pN n = Dl.ret none n := (rfl)
def psK (a : Ar) (n1 : Nv) : Rs (Option Int) := match a with
  | .d (.int i) => Dl.ret (some i) n1
  | _ => none
@[simp] theorem u_pS : pS fa (s :: n) = bnd (fa (s :: n)) psK := (rfl)
@[simp] theorem u_psK {i : Int} : psK (.d (.int i)) n = Dl.ret (some i) n := (rfl)
@[simp] theorem u_sl {fl fh : Nv → Rs (Option Int)} : eSl fa fl fh (s :: n) = bnd (fa (s :: n)) fun a n1 => bnd (fl n1) fun lo n2 => bnd (fh n2) fun hi n3 => lft (ArD n3 a) fun x => lft (gSl lo hi x) fun d => Dl.ret (.d d) n3 := (rfl)
@[simp] theorem g_slL {lo hi : Option Int} : gSl lo hi (.list ds) = some (.list (cutD ds lo hi)) := (rfl)
@[simp] theorem g_slT {lo hi : Option Int} : gSl lo hi (.tuple ds) = some (.tuple (cutD ds lo hi)) := (rfl)
@[simp] theorem u_dnew : sDnew i (s :: n) = if free? (s :: n) i = true then some (.ok (.nx, (s :: n).set i (.ow false (.m [])))) else none := (rfl)
def dpK (i : Nat) (fk : Nv → Rs Ar) (a : Ar) (n1 : Nv) : RS := match a, n1[i]? with
  | .d x, some (.ow _ (.m _)) => sbn (fk n1) fun b n2 => eDput i x b n2
  | _, _ => none
@[simp] theorem u_dput : sDput i fa fb (s :: n) = sbn (fa (s :: n)) (dpK i fb) := (rfl)
theorem u_dpK (h : n[i]? = some (.ow pm (.m kds))) : dpK i fb (.d x) n = sbn (fb n) fun b n2 => eDput i x b n2 := by
  unfold dpK
  rw [h]
theorem u_dpK2 (h : n[i]? = some (.ow pm (.m kds))) (hk : keyD y = some k) (hl : kds.length ≤ 10000) : eDput i x (.d y) n = some (.ok (.nx, n.set i (.ow pm (.m (putD kds k x))))) := by
  unfold eDput
  rw [h]
  dsimp only
  rw [hk]
  dsimp only
  rw [if_pos (ltl_ok hl)]
  rfl
theorem u_dget (h : n[i]? = some (.ow pm (.m kds))) (hf : fa n = Dl.ret (Ar.d y) n) (hk : keyD y = some k) (hv : valD kds k = some d) : eDget i fa n = Dl.ret (Ar.d d) n := by
  unfold eDget
  rw [h]
  dsimp only
  rw [hf]
  show (match valO i (.d y) n with | some (some d) => Dl.ret (Ar.d d) n | _ => none) = _
  unfold valO
  rw [h]
  dsimp only
  rw [hk]
  dsimp only
  rw [hv]
theorem u_din {neg : Bool} (h : n[i]? = some (.ow pm (.m kds))) (hf : fa n = Dl.ret (Ar.d y) n) (hk : keyD y = some k) : eDin neg i fa n = Dl.ret (Ar.d (.bool (xor neg (valD kds k).isSome))) n := by
  unfold eDin
  rw [hf]
  show (match valO i (.d y) n with | some r => Dl.ret (Ar.d (.bool (xor neg r.isSome))) n | none => none) = _
  unfold valO
  rw [h]
  dsimp only
  rw [hk]
def dpK2 (i : Nat) (fk : Nv → Rs Ar) (x : PD) (n1 : Nv) (o : Option Sl) : RS := match o with
  | some (.ow _ (.m _)) => sbn (fk n1) fun b n2 => eDput i x b n2
  | _ => none
@[simp] theorem u_dpKd : dpK i fb (.d x) n = dpK2 i fb x n n[i]? := by
  unfold dpK dpK2
  cases n[i]? with
  | none => rfl
  | some s =>
    cases s with
    | ow pm c => cases c <;> rfl
    | _ => rfl
@[simp] theorem u_dpKm : dpK2 i fb x n (some (.ow pm (.m kds))) = sbn (fb n) fun b n2 => eDput i x b n2 := (rfl)
def edp2 (i : Nat) (x y : PD) (n : Nv) (o : Option Sl) : RS := match o with
  | some (.ow pm (.m kds)) => match keyD y with
    | some k => if ltLine kds.length = true then nxt (n.set i (.ow pm (.m (putD kds k x)))) else none
    | none => none
  | _ => none
@[simp] theorem u_edp : eDput i x (.d y) n = edp2 i x y n n[i]? := by
  unfold eDput edp2
  cases n[i]? with
  | none => rfl
  | some s =>
    cases s with
    | ow pm c => cases c <;> rfl
    | _ => rfl
@[simp] theorem u_edpm {z : Str} : edp2 i x (.str z) n (some (.ow pm (.m kds))) = if ltLine kds.length = true then some (.ok (.nx, n.set i (.ow pm (.m (putD kds (.inr z) x))))) else none := (rfl)
def vo (y : PD) (o : Option Sl) : Option (Option PD) := match o with
  | some (.ow _ (.m kds)) => match keyD y with
    | some k => some (valD kds k)
    | none => none
  | _ => none
@[simp] theorem u_valO : valO i (.d y) n = vo y n[i]? := by
  unfold valO vo
  cases n[i]? with
  | none => rfl
  | some s =>
    cases s with
    | ow pm c => cases c <;> rfl
    | _ => rfl
@[simp] theorem u_vom {z : Str} : vo (.str z) (some (.ow pm (.m kds))) = some (valD kds (.inr z)) := (rfl)
def edK (o : Option (Option PD)) (n1 : Nv) : Rs Ar := match o with
  | some (some d) => Dl.ret (.d d) n1
  | _ => none
@[simp] theorem u_edK : edK (some (some d)) n = Dl.ret (.d d) n := (rfl)
def edg (i : Nat) (fk : Nv → Rs Ar) (n : Nv) (o : Option Sl) : Rs Ar := match o with
  | some (.ow _ (.m _)) => bnd (fk n) fun b n1 => edK (valO i b n1) n1
  | _ => none
@[simp] theorem u_dgt : eDget i fa (s :: n) = edg i fa (s :: n) (s :: n)[i]? := by
  unfold eDget edg
  cases (s :: n)[i]? with
  | none => rfl
  | some s =>
    cases s with
    | ow pm c => cases c <;> rfl
    | _ => rfl
@[simp] theorem u_edgm : edg i fa n (some (.ow pm (.m kds))) = bnd (fa n) fun b n1 => edK (valO i b n1) n1 := (rfl)
def diK (neg : Bool) (o : Option (Option PD)) (n1 : Nv) : Rs Ar := match o with
  | some r => Dl.ret (.d (.bool (xor neg r.isSome))) n1
  | none => none
@[simp] theorem u_dinK {neg : Bool} : eDin neg i fa (s :: n) = bnd (fa (s :: n)) fun b n1 => diK neg (valO i b n1) n1 := (rfl)
@[simp] theorem u_diK {neg : Bool} {r : Option PD} : diK neg (some r) n = Dl.ret (.d (.bool (xor neg r.isSome))) n := (rfl)
theorem val_put {k k' : L2.Key} {x d : PD} : ∀ {kds : List (L2.Key × PD)}, valD (putD kds k x) k' = some d → (k' = k ∧ d = x) ∨ valD kds k' = some d := fun {kds} h => by
  unfold putD at h
  split at h
  · by_cases e : k' = k
    · subst e
      left
      refine ⟨rfl, ?_⟩
      unfold valD at h
      induction kds with
      | nil => simp at h
      | cons c r ih =>
        rw [List.map_cons, List.find?_cons] at h
        by_cases q : c.1 = k'
        · simp [q] at h
          exact h.symm
        · simp only [q, if_false, decide_false] at h
          rename_i q2
          exact ih (by simpa [q] using q2) h
    · right
      unfold valD at h ⊢
      rename_i q0
      clear q0
      induction kds with
      | nil => simp at h
      | cons c r ih =>
        rw [List.map_cons, List.find?_cons] at h
        rw [List.find?_cons]
        by_cases q : c.1 = k
        · have q2 : ¬ c.1 = k' := fun z => e (z ▸ q)
          have q3 : ¬ k = k' := fun z => e z.symm
          simp only [q, if_true, q3, decide_false] at h
          simp only [q2, decide_false]
          exact ih h
        · simp only [q, if_false] at h
          by_cases q2 : c.1 = k'
          · simp [q2] at h ⊢
            exact h
          · simp only [q2, decide_false] at h ⊢
            exact ih h
  · unfold valD at h ⊢
    rw [List.find?_append] at h
    cases e : List.find? (fun kv => decide (kv.1 = k')) kds with
    | some c =>
      rw [e] at h
      right
      simpa using h
    | none =>
      rw [e] at h
      simp at h
      left
      exact ⟨h.1.symm, h.2.symm⟩
theorem val_put_same {k : L2.Key} {x : PD} {kds : List (L2.Key × PD)} : valD (putD kds k x) k = some x := by
  unfold putD
  split
  · rename_i h
    unfold valD
    induction kds with
    | nil => simp at h
    | cons c r ih =>
      rw [List.map_cons, List.find?_cons]
      by_cases q : c.1 = k
      · simp [q]
      · simp only [q, if_false, decide_false]
        exact ih (by simpa [q] using h)
  · rename_i h
    unfold valD
    rw [List.find?_append]
    have : List.find? (fun kv : L2.Key × PD => decide (kv.1 = k)) kds = none := by
      rw [List.find?_eq_none]
      intro c hc z
      exact h (List.any_eq_true.mpr ⟨c, hc, z⟩)
    rw [this]
    simp
theorem put_len {k : L2.Key} {x : PD} {kds : List (L2.Key × PD)} : (putD kds k x).length ≤ kds.length + 1 := by
  unfold putD
  split <;> simp
def rsK (nm f g : Str) (as : List Ar) (n1 : Nv) : RS := match as with
  | [.d x, .d y] => some (.error (⟨nm, [(g, y), (f, x)]⟩, n1))
  | _ => none
@[simp] theorem u_raise {nm f g : Str} : sRaise nm f g fr (s :: n) = sbn (fr (s :: n)) (rsK nm f g) := (rfl)
@[simp] theorem u_rsK {nm f g : Str} : rsK nm f g [.d x, .d y] n = some (.error (⟨nm, [(g, y), (f, x)]⟩, n)) := (rfl)
end
end Dl
set_option Elab.async false
set_option linter.all false
set_option maxRecDepth 100000
namespace Dl
open PySem
section
variable {s : Sl} {n n1 n2 n' m : Nv} {i j : Nat} {d x y z : PD} {pm : Bool} {ct : Ct} {a b : Ar} {fa fb : Nv → Rs Ar} {fr : Nv → Rs (List Ar)} {as : List Ar} {ds es : List PD} {fo : Nv → Rs (List PD)} {f : Nv → RS}
def aug2 (g : Int → Int → Int) (i : Nat) (x : Int) (a : Ar) (n1 : Nv) : RS := match a with
  | .d (.int y) => if free? n1 i = true then some (.ok (.nx, n1.set i (.im (.int (g x y))))) else none
  | _ => none
def augK (g : Int → Int → Int) (i : Nat) (fe : Nv → Rs Ar) (n : Nv) (o : Option Sl) : RS := match o with
  | some (.im (.int x)) => sbn (fe n) (aug2 g i x)
  | _ => none
@[simp] theorem u_aug {g : Int → Int → Int} : sAug g i fa (s :: n) = augK g i fa (s :: n) (s :: n)[i]? := by
  unfold sAug augK
  rfl
@[simp] theorem u_augK {g : Int → Int → Int} {x : Int} : augK g i fa n (some (.im (.int x))) = sbn (fa n) (aug2 g i x) := (rfl)
@[simp] theorem u_aug2 {g : Int → Int → Int} {x y : Int} : aug2 g i x (.d (.int y)) n = if free? n i = true then some (.ok (.nx, n.set i (.im (.int (g x y))))) else none := (rfl)
def frzK (i : Nat) (n : Nv) (o : Option Sl) : Nv := match o with
  | some (.ow false (.l ds)) => n.set i (.im (.list ds))
  | _ => n
@[simp] theorem u_frz : sFrz i f (s :: n) = f (frzK i (s :: n) (s :: n)[i]?) := by unfold sFrz frz frzK; rfl
@[simp] theorem u_frzK : frzK i n (some (.ow false (.l ds))) = n.set i (.im (.list ds)) := (rfl)
def oadK (x y : PD) (n : Nv) : Rs (List PD) := match x, y with
  | .list ds, .list es => if lineB (ds.length + es.length) = true then Dl.ret (ds ++ es) n else none
  | _, _ => none
@[simp] theorem u_oadd : oAdd fa fb (s :: n) = bnd (fa (s :: n)) fun a n1 => bnd (fb n1) fun b n2 => lft (ArD n2 a) fun x => lft (ArD n2 b) fun y => oadK x y n2 := (rfl)
@[simp] theorem u_oadK : oadK (.list ds) (.list es) n = if lineB (ds.length + es.length) = true then Dl.ret (ds ++ es) n else none := (rfl)
@[simp] theorem g_rvL : gRvs (.list ds) = some (.list ds.reverse) := (rfl)
@[simp] theorem g_rvT : gRvs (.tuple ds) = some (.tuple ds.reverse) := (rfl)
def orpK (ds : List PD) (b : Ar) (n2 : Nv) : Rs (List PD) := match b with
  | .d (.int j) => if (decide (-(2 ^ 63) ≤ j) && decide (j < 2 ^ 63) && decide (ds.length * j.toNat ≤ 10000)) = true then Dl.ret (repD j.toNat ds) n2 else none
  | _ => none
@[simp] theorem u_orep : oRep fo fb (s :: n) = bnd (fo (s :: n)) fun ds n1 => bnd (fb n1) (orpK ds) := (rfl)
theorem u_orpK {j : Int} (h1 : 0 ≤ j) (h2 : j ≤ 1000) (h3 : ds.length ≤ 10) : orpK ds (.d (.int j)) n = Dl.ret (repD j.toNat ds) n := by
  show (if _ then _ else _) = _
  have h4 : ds.length * j.toNat ≤ 10 * 1000 := Nat.mul_le_mul h3 (by omega)
  refine if_pos ?_
  simp only [Bool.and_eq_true, decide_eq_true_eq]
  exact ⟨⟨Int.le_trans (by decide) h1, Int.lt_of_le_of_lt h2 (by decide)⟩, by omega⟩
def cstK (f : Nv → Rs Rv) (d : PD) (n1 : Nv) : Rs Ar := match d with
  | .list ds => stc f ds n1
  | .tuple ds => stc f ds n1
  | _ => none
@[simp] theorem u_cst {F : Nv → Rs Rv} : eCallSt F fa (s :: n) = bnd (fa (s :: n)) fun a n1 => lft (ArD n1 a) fun d => cstK F d n1 := (rfl)
@[simp] theorem u_cstL {F : Nv → Rs Rv} : cstK F (.list ds) n = if lineB ds.length = true then cal (F [.im (.tuple ds)]) n (eRv [.d (.tuple ds)] n) else none := (rfl)
@[simp] theorem u_cstT {F : Nv → Rs Rv} : cstK F (.tuple ds) n = if lineB ds.length = true then cal (F [.im (.tuple ds)]) n (eRv [.d (.tuple ds)] n) else none := (rfl)
@[simp] theorem u_callN {F : Nv → Rs Rv} {k : Nat} {pm : List Nat} : eCallN k pm F fr (s :: n) = bnd (fr (s :: n)) fun as n1 => if Dl.dist (gPn k pm [] as) = true then lft (slots n1 (gPn k pm [] as)) fun m => cal (F m) n1 (eRv (gPn k pm [] as) n1) else none := (rfl)
theorem try_ok {hs : List (Str × GI)} {fb : Nv → RS} {r : Oc × Nv} (h : fb n = some (.ok r)) : sTryM i hs fb n = some (.ok r) := by
  unfold sTryM
  rw [h]
theorem try_er {hs : List (Str × GI)} {fb : Nv → RS} {e : Er} {g : GI} (h : fb n = some (.error (e, n1))) (h2 : noOw n1 = true) (h3 : i < n1.length) (h4 : hs.lookup e.nm = some g) (h5 : g e.fs = some x) : sTryM i hs fb n = some (.ok (.rt (.d x), n1.set i .un)) := by
  unfold sTryM
  rw [h]
  dsimp only
  rw [if_pos (by simp [h2, h3])]
  rw [h4]
  dsimp only
  rw [h5]
end
end Dl
set_option Elab.async false
set_option linter.all false
set_option maxRecDepth 100000
namespace K2
open PySem Dl
abbrev okd (d : PD) (n : Nv) : Rs Rv := Dl.ret (Rv.d d) n
abbrev nm (i : Nat) : PD := .int (i : Int)
abbrev nmi (i : Nat) : Int := (i : Int)
theorem loop_idx {tg : PD → Nv → Option Nv} {b : Nv → RS} (ds : List PD) (I : Nat → Nv → Prop) (h : ∀ k d n, ds[k]? = some d → I k n → ∃ n1 n2, tg d n = some n1 ∧ b n1 = some (.ok (.nx, n2)) ∧ I (k + 1) n2) (n : Nv) (h0 : I 0 n) :
    ∃ n', loopF tg b ds n = some (.ok (.nx, n')) ∧ I ds.length n' := by
  have gen : ∀ (m k : Nat) (n : Nv), k + m = ds.length → I k n → ∃ n', loopF tg b (ds.drop k) n = some (.ok (.nx, n')) ∧ I ds.length n' := fun m => by
    induction m with
    | zero =>
      intro k n e i
      have : ds.drop k = [] := List.drop_eq_nil_of_le (by omega)
      rw [this]
      exact ⟨n, rfl, by rwa [show k = ds.length by omega] at i⟩
    | succ m ih =>
      intro k n e i
      have hk : k < ds.length := by omega
      obtain ⟨n1, n2, h1, h2, h3⟩ := h k ds[k] n (List.getElem?_eq_getElem hk) i
      rw [List.drop_eq_getElem_cons hk]
      obtain ⟨n', e1, e2⟩ := ih (k + 1) n2 (by omega) h3
      refine ⟨n', ?_, e2⟩
      unfold loopF
      rw [h1]
      dsimp only
      rw [h2]
      exact e1
  exact gen ds.length 0 n (by omega) h0
theorem loop_ret {tg : PD → Nv → Option Nv} {b : Nv → RS} (ds : List PD) (I : Nat → Nv → Prop) (R : Nat → Rv → Nv → Prop)
    (h : ∀ k d n, ds[k]? = some d → I k n → ∃ n1 n2, tg d n = some n1 ∧ ((b n1 = some (.ok (.nx, n2)) ∧ I (k + 1) n2) ∨ ∃ x, b n1 = some (.ok (.rt x, n2)) ∧ R k x n2)) (n : Nv) (h0 : I 0 n) :
    (∃ n', loopF tg b ds n = some (.ok (.nx, n')) ∧ I ds.length n') ∨ ∃ k x n', k < ds.length ∧ loopF tg b ds n = some (.ok (.rt x, n')) ∧ R k x n' := by
  have gen : ∀ (m k : Nat) (n : Nv), k + m = ds.length → I k n → (∃ n', loopF tg b (ds.drop k) n = some (.ok (.nx, n')) ∧ I ds.length n') ∨ ∃ j x n', j < ds.length ∧ loopF tg b (ds.drop k) n = some (.ok (.rt x, n')) ∧ R j x n' := fun m => by
    induction m with
    | zero =>
      intro k n e i
      have : ds.drop k = [] := List.drop_eq_nil_of_le (by omega)
      rw [this]
      exact .inl ⟨n, rfl, by rwa [show k = ds.length by omega] at i⟩
    | succ m ih =>
      intro k n e i
      have hk : k < ds.length := by omega
      obtain ⟨n1, n2, h1, h2⟩ := h k ds[k] n (List.getElem?_eq_getElem hk) i
      rw [List.drop_eq_getElem_cons hk]
      unfold loopF
      rw [h1]
      dsimp only
      rcases h2 with ⟨h2, h3⟩ | ⟨x, h2, h3⟩
      · rw [h2]
        exact ih (k + 1) n2 (by omega) h3
      · rw [h2]
        exact .inr ⟨k, x, n2, hk, rfl, h3⟩
  exact gen ds.length 0 n (by omega) h0
theorem rng_get {lo : Int} {m k : Nat} {d : PD} (h : (rngD lo m)[k]? = some d) : k < m ∧ d = .int (lo + k) := by
  unfold rngD at h
  rw [List.getElem?_map] at h
  obtain ⟨i, h1, rfl⟩ := Option.map_eq_some_iff.mp h
  obtain ⟨h2, rfl⟩ := List.getElem?_eq_some_iff.mp h1
  exact ⟨by simpa using h2, by simp⟩
theorem rng_len {lo : Int} {m : Nat} : (rngD lo m).length = m := by simp [rngD]
theorem g_pow18 : gPow (.int 10) (.int 18) = some (.int 1000000000000000000) := by
  show (if pow2 10 18 = true then some (PyData.int (10 ^ 18)) else none) = _
  rw [if_pos (by decide +kernel)]
  rfl
def Fr (s : Sl) : Prop := match s with
  | .ow _ _ => False
  | _ => True
theorem fr_un : Fr .un := trivial
theorem fr_im {d : PD} : Fr (.im d) := trivial
@[simp] theorem fr_k {s : Sl} (h : Fr s) : freK (some s) = true := by cases s <;> first | rfl | exact h.elim
@[simp] theorem fr_bk {s : Sl} {o : Option Ct} (h : Fr s) : bkK o s = s := by cases s <;> first | rfl | exact h.elim
theorem enum_get {ds : List PD} {k : Nat} {d : PD} (h : (enumD ds)[k]? = some d) : ∃ e, ds[k]? = some e ∧ d = .tuple [.int (k : Int), e] := by
  unfold enumD at h
  rw [List.getElem?_mapIdx] at h
  obtain ⟨e, h1, h2⟩ := Option.map_eq_some_iff.mp h
  exact ⟨e, h1, h2.symm⟩
theorem enum_len {ds : List PD} : (enumD ds).length = ds.length := by simp [enumD]
theorem at_pred {α : Type} {l : List α} {k : Nat} : L2.atI l (((k + 1 : Nat) : Int) - 1) = l[k]? := by
  rw [show (((k + 1 : Nat) : Int) - 1) = (k : Int) by omega]
  exact at_k
def isInt : PD → Bool | .int _ => true | _ => false
def isNum : PD → Bool | .int i => decide (0 ≤ i) | _ => false
def isPos : PD → Bool | .int i => decide (1 ≤ i) | _ => false
theorem v_is_integer (d : PD) : f_is_integer [.im d] = okd (.bool (isInt d)) [.im d] := by cases d <;> rfl
theorem v_law_int (d : PD) : f__law_int [.im d] = okd (.bool (isInt d)) [.im d] := by cases d <;> rfl
theorem v_is_number (d : PD) : f_is_number [.im d] = okd (.bool (isNum d)) [.im d] := by cases d <;> rfl
theorem v_is_positive (d : PD) : f_is_positive [.im d] = okd (.bool (isPos d)) [.im d] := by cases d <;> rfl
abbrev ils (l : List Int) : List PD := l.map .int
theorem lay_ils : ∀ us : List Int, PyData.canLayAll0 (ils us) = true
  | [] => by simp [PyData.canLayAll0]
  | x :: r => by
    have := lay_ils r
    simp only [ils, List.map_cons] at this ⊢
    simp [PyData.canLayAll0, PyData.canLay0, this]
theorem dep_ils : ∀ us : List Int, PyData.depthAll (ils us) = 0
  | [] => by simp [PyData.depthAll]
  | x :: r => by
    have := dep_ils r
    simp only [ils, List.map_cons] at this ⊢
    simp [PyData.depthAll, PyData.depth, this]
theorem sh_ilsL (us : List Int) : SeqAt.shaped (.list (ils us)) = true := by simp [SeqAt.shaped, PyData.canLay0, PyData.depth, lay_ils, dep_ils]
theorem sh_ilsT (us : List Int) : SeqAt.shaped (.tuple (ils us)) = true := by simp [SeqAt.shaped, PyData.canLay0, PyData.depth, lay_ils, dep_ils]
theorem sh_int (i : Int) : SeqAt.shaped (.int i) = true := by simp [SeqAt.shaped, PyData.canLay0, PyData.depth]
theorem sh_none : SeqAt.shaped .none = true := by simp [SeqAt.shaped, PyData.canLay0, PyData.depth]
theorem g_eq {neg : Bool} {d e : PD} (h : SeqAt.shaped d = true) (h2 : SeqAt.shaped e = true) : gEq neg d e = some (.bool (xor neg (PyData.eqv d e))) := by
  unfold gEq
  rw [h, h2]
  rfl
def pr (p : Nat × Nat) : PD := .tuple [.int (p.1 : Int), .int (p.2 : Int)]
theorem sh_pr (p : Nat × Nat) : SeqAt.shaped (pr p) = true := sh_ilsT [(p.1 : Int), (p.2 : Int)]
theorem sh_prs (ps : List (Nat × Nat)) : SeqAt.shaped (.list (ps.map pr)) = true := by
  have l : ∀ ps : List (Nat × Nat), PyData.canLayAll0 (ps.map pr) = true ∧ PyData.depthAll (ps.map pr) ≤ 1 := fun ps => by
    induction ps with
    | nil => simp [PyData.canLayAll0, PyData.depthAll]
    | cons p t ih => simp [pr, PyData.canLayAll0, PyData.canLay0, PyData.depthAll, PyData.depth, ih.1]; have := ih.2; omega
  have := (l ps).2
  simp [SeqAt.shaped, PyData.canLay0, PyData.depth, (l ps).1]
  omega
theorem eqv_prs : ∀ ps qs : List (Nat × Nat), PyData.eqvAll (ps.map pr) (qs.map pr) = decide (ps = qs)
  | [], [] => by simp [PyData.eqvAll]
  | [], _ :: _ => by simp [PyData.eqvAll]
  | _ :: _, [] => by simp [PyData.eqvAll]
  | p :: ps, q :: qs => by
    have ih := eqv_prs ps qs
    obtain ⟨a, b⟩ := p
    obtain ⟨c, d⟩ := q
    simp only [List.map_cons, PyData.eqvAll, ih]
    simp [pr, PyData.eqv, PyData.eqvAll]
    by_cases h1 : a = c <;> by_cases h2 : b = d <;> by_cases h3 : ps = qs <;> simp [h1, h2, h3] <;> omega
def isAtom : PD → Bool
  | .none => true
  | .bool _ => true
  | .int _ => true
  | .str z => SeqAt.shaped (.str z)
  | _ => false
theorem eqv_str (z : Str) : PyData.eqv (.str z) (.str z) = true := by simp [PyData.eqv]
theorem same_atom {f : Nv → Rs Rv} {d : PD} (h : isAtom d = true) : fr__law_same f [.im d, .im d] = okd (.bool true) [.im d, .im d] := by
  unfold fr__law_same m__law_same
  match d with
  | .none => simp [ArI, gIsN, mrg]
  | .bool true => 
    have e : gEq false (.bool true) (.bool true) = some (.bool true) := rfl
    simp [ArI, gIsN, isiD, tyD, mrg, e]
  | .bool false =>
    have e : gEq false (.bool false) (.bool false) = some (.bool true) := rfl
    simp [ArI, gIsN, isiD, tyD, mrg, e]
  | .int i => simp [ArI, gIsN, isiD, tyD, mrg]
  | .str z =>
    have e : gEq false (.str z) (.str z) = some (.bool true) := by rw [g_eq h h, eqv_str]; rfl
    simp [ArI, gIsN, isiD, tyD, mrg, e]
  | .list _ => cases h
  | .tuple _ => cases h
  | .dict _ => cases h
theorem comp_rng {fe : Nv → Rs Ar} {G : PD → PD} {i : Nat} {n : Nv} {k : Nat} (hn : n[i]? = some .un) (hl : k ≤ 10000) (h : ∀ j : Nat, j < k → fe (n.set i (.im (.int j))) = Dl.ret (.d (G (.int j))) (n.set i (.im (.int j)))) :
    cmpK [i] (gN i) fYes fe (rngD 0 k) n = Dl.ret ((rngD 0 k).map G) n := comp_im hn (by rw [rng_len]; exact hl) fun d hd => by
  obtain ⟨j, hj⟩ := List.getElem?_of_mem hd
  obtain ⟨h1, rfl⟩ := rng_get hj
  rw [Int.zero_add]
  exact h j h1
theorem same_tup {f : Nv → Rs Rv} {ds : List PD} (h : ∀ d ∈ ds, f [.im d, .im d] = okd (.bool true) [.im d, .im d]) (hl : ds.length ≤ 1000) : fr__law_same f [.im (.tuple ds), .im (.tuple ds)] = okd (.bool true) [.im (.tuple ds), .im (.tuple ds)] := by
  unfold fr__law_same m__law_same
  have g : gEq true (.int (ds.length : Int)) (.int (ds.length : Int)) = some (.bool false) := by
    rw [g_eq (sh_int _) (sh_int _)]
    simp [PyData.eqv]
  have key := comp_rng (fe := (eCall f (aCons (eBin gIx (eV 0) (eV 2)) (aCons (eBin gIx (eV 1) (eV 2)) aNil)))) (G := fun _ => .bool true) (i := 2) (n := [.im (.tuple ds), .im (.tuple ds), .un]) (k := ds.length) rfl (by omega) fun j hj => by
    have hd2 : ds[j]? = some ds[j] := List.getElem?_eq_getElem hj
    have e := h _ (List.mem_of_getElem? hd2)
    generalize ds[j] = d at hd2 e
    simp [hd2, e, Dl.dist, hasO]
  have ga : gAll [.list ((rngD 0 ds.length).map fun _ => PyData.bool true)] = some (.bool true) := by
    rw [g_all (h := fun _ => true)]
    simp
  simp [ArI, gIsN, isiD, tyD, g, u_rng1 (k := ds.length) (by omega), key, mrg, ga]
def Sm : Nat → PD → Prop
  | 0, d => isAtom d = true
  | k + 1, d => isAtom d = true ∨ ∃ ds, d = .tuple ds ∧ ds.length ≤ 1000 ∧ ∀ e ∈ ds, Sm k e
def fsm (f : Nv → Rs Rv) : Nat → Nv → Rs Rv
  | 0 => fr__law_same f
  | k + 1 => fr__law_same (fsm f k)
theorem sm_same {f : Nv → Rs Rv} : ∀ {k : Nat} {d : PD}, Sm k d → fsm f k [.im d, .im d] = okd (.bool true) [.im d, .im d]
  | 0, _, h => same_atom h
  | k + 1, _, .inl h => same_atom h
  | k + 1, _, .inr ⟨_, rfl, hl, h⟩ => same_tup (fun e he => sm_same (h e he)) hl
theorem law_same {d : PD} (h : Sm 4 d) : f__law_same [.im d, .im d] = okd (.bool true) [.im d, .im d] := sm_same (k := 4) h
theorem sm_up : ∀ {k : Nat} {d : PD}, Sm k d → Sm (k + 1) d
  | 0, _, h => .inl h
  | _ + 1, _, .inl h => .inl h
  | _ + 1, _, .inr ⟨ds, e, hl, h⟩ => .inr ⟨ds, e, hl, fun x hx => sm_up (h x hx)⟩
theorem sm_tup {k : Nat} {ds : List PD} (hl : ds.length ≤ 1000) (h : ∀ e ∈ ds, Sm k e) : Sm (k + 1) (.tuple ds) := .inr ⟨ds, rfl, hl, h⟩
end K2
set_option Elab.async false
set_option linter.all false
set_option maxRecDepth 100000
namespace K2
open PySem Dl
@[simp] theorem q_put_put : gEq false (.str "put") (.str "put") = some (.bool true) := by with_unfolding_all rfl
@[simp] theorem r_put_put : gEq true (.str "put") (.str "put") = some (.bool false) := by with_unfolding_all rfl
@[simp] theorem q_put_drop : gEq false (.str "put") (.str "drop") = some (.bool false) := by with_unfolding_all rfl
@[simp] theorem r_put_drop : gEq true (.str "put") (.str "drop") = some (.bool true) := by with_unfolding_all rfl
@[simp] theorem q_put_ask : gEq false (.str "put") (.str "ask") = some (.bool false) := by with_unfolding_all rfl
@[simp] theorem r_put_ask : gEq true (.str "put") (.str "ask") = some (.bool true) := by with_unfolding_all rfl
@[simp] theorem q_put_ok : gEq false (.str "put") (.str "ok") = some (.bool false) := by with_unfolding_all rfl
@[simp] theorem r_put_ok : gEq true (.str "put") (.str "ok") = some (.bool true) := by with_unfolding_all rfl
@[simp] theorem q_drop_put : gEq false (.str "drop") (.str "put") = some (.bool false) := by with_unfolding_all rfl
@[simp] theorem r_drop_put : gEq true (.str "drop") (.str "put") = some (.bool true) := by with_unfolding_all rfl
@[simp] theorem q_drop_drop : gEq false (.str "drop") (.str "drop") = some (.bool true) := by with_unfolding_all rfl
@[simp] theorem r_drop_drop : gEq true (.str "drop") (.str "drop") = some (.bool false) := by with_unfolding_all rfl
@[simp] theorem q_drop_ask : gEq false (.str "drop") (.str "ask") = some (.bool false) := by with_unfolding_all rfl
@[simp] theorem r_drop_ask : gEq true (.str "drop") (.str "ask") = some (.bool true) := by with_unfolding_all rfl
@[simp] theorem q_drop_ok : gEq false (.str "drop") (.str "ok") = some (.bool false) := by with_unfolding_all rfl
@[simp] theorem r_drop_ok : gEq true (.str "drop") (.str "ok") = some (.bool true) := by with_unfolding_all rfl
@[simp] theorem q_ask_put : gEq false (.str "ask") (.str "put") = some (.bool false) := by with_unfolding_all rfl
@[simp] theorem r_ask_put : gEq true (.str "ask") (.str "put") = some (.bool true) := by with_unfolding_all rfl
@[simp] theorem q_ask_drop : gEq false (.str "ask") (.str "drop") = some (.bool false) := by with_unfolding_all rfl
@[simp] theorem r_ask_drop : gEq true (.str "ask") (.str "drop") = some (.bool true) := by with_unfolding_all rfl
@[simp] theorem q_ask_ask : gEq false (.str "ask") (.str "ask") = some (.bool true) := by with_unfolding_all rfl
@[simp] theorem r_ask_ask : gEq true (.str "ask") (.str "ask") = some (.bool false) := by with_unfolding_all rfl
@[simp] theorem q_ask_ok : gEq false (.str "ask") (.str "ok") = some (.bool false) := by with_unfolding_all rfl
@[simp] theorem r_ask_ok : gEq true (.str "ask") (.str "ok") = some (.bool true) := by with_unfolding_all rfl
@[simp] theorem q_ok_put : gEq false (.str "ok") (.str "put") = some (.bool false) := by with_unfolding_all rfl
@[simp] theorem r_ok_put : gEq true (.str "ok") (.str "put") = some (.bool true) := by with_unfolding_all rfl
@[simp] theorem q_ok_drop : gEq false (.str "ok") (.str "drop") = some (.bool false) := by with_unfolding_all rfl
@[simp] theorem r_ok_drop : gEq true (.str "ok") (.str "drop") = some (.bool true) := by with_unfolding_all rfl
@[simp] theorem q_ok_ask : gEq false (.str "ok") (.str "ask") = some (.bool false) := by with_unfolding_all rfl
@[simp] theorem r_ok_ask : gEq true (.str "ok") (.str "ask") = some (.bool true) := by with_unfolding_all rfl
@[simp] theorem q_ok_ok : gEq false (.str "ok") (.str "ok") = some (.bool true) := by with_unfolding_all rfl
@[simp] theorem r_ok_ok : gEq true (.str "ok") (.str "ok") = some (.bool false) := by with_unfolding_all rfl
@[simp] theorem in_put : gIn false (.str "put") (.tuple [.str "put", .str "drop"]) = some (.bool true) := by with_unfolding_all rfl
@[simp] theorem in_drop : gIn false (.str "drop") (.tuple [.str "put", .str "drop"]) = some (.bool true) := by with_unfolding_all rfl
inductive Ev where
  | put (n : Nat)
  | drop (n : Nat)
  | ask
deriving DecidableEq
def evD : Ev → PD
  | .put n => .tuple [.str "put", nm n]
  | .drop n => .tuple [.str "drop", nm n]
  | .ask => .tuple [.str "ask"]
def Ev.ok : Ev → Prop
  | .put n => 1 ≤ n
  | .drop n => 1 ≤ n
  | .ask => True
def Cl (d : PD) : Option Ev → Prop
  | some e => d = evD e ∧ e.ok
  | none => f__is_queue_event [.im d] = okd (.bool false) [.im d] ∧ f__law_event [.im d] = okd (.bool false) [.im d]
theorem gLen2 {x y : PD} : gLen [.tuple [x, y]] = some (.int 2) := (rfl)
theorem gLen1 {x : PD} : gLen [.tuple [x]] = some (.int 1) := (rfl)
theorem v_qe {e : Ev} (h : e.ok) : f__is_queue_event [.im (evD e)] = okd (.bool true) [.im (evD e)] := by
  cases e with
  | put n =>
    have h : 1 ≤ n := h
    have h2 : isPos (nm n) = true := by simp [isPos]; omega
    simp [f__is_queue_event, m__is_queue_event, evD, isiD, tyD, mrg, Dl.dist, hasO, v_is_positive, h2, gLen2, line_ok, ArI]
  | drop n =>
    have h : 1 ≤ n := h
    have h2 : isPos (nm n) = true := by simp [isPos]; omega
    simp [f__is_queue_event, m__is_queue_event, evD, isiD, tyD, mrg, Dl.dist, hasO, v_is_positive, h2, gLen2, line_ok, ArI]
  | ask => simp [f__is_queue_event, m__is_queue_event, evD, isiD, tyD, mrg, gLen1]
theorem v_le {e : Ev} (h : e.ok) : f__law_event [.im (evD e)] = okd (.bool true) [.im (evD e)] := by
  cases e with
  | put n =>
    have h : 1 ≤ n := h
    have h2 : (1 : Int) ≤ (n : Int) := by omega
    simp [f__law_event, m__law_event, evD, isiD, tyD, mrg, Dl.dist, hasO, v_law_int, isInt, h2, gLen2]
  | drop n =>
    have h : 1 ≤ n := h
    have h2 : (1 : Int) ≤ (n : Int) := by omega
    simp [f__law_event, m__law_event, evD, isiD, tyD, mrg, Dl.dist, hasO, v_law_int, isInt, h2, gLen2]
  | ask => simp [f__law_event, m__law_event, evD, isiD, tyD, mrg, gLen1]
theorem cl_qe {d : PD} {o : Option Ev} (h : Cl d o) : f__is_queue_event [.im d] = okd (.bool o.isSome) [.im d] := by
  cases o with
  | none => exact h.1
  | some e =>
    obtain ⟨rfl, h⟩ := h
    exact v_qe h
theorem cl_le {d : PD} {o : Option Ev} (h : Cl d o) : f__law_event [.im d] = okd (.bool o.isSome) [.im d] := by
  cases o with
  | none => exact h.2
  | some e =>
    obtain ⟨rfl, h⟩ := h
    exact v_le h
def gro : Ev → Int
  | .put n => n
  | .drop n => -n
  | .ask => 0
theorem v_growth (e : Ev) : f__growth [.im (evD e)] = okd (.int (gro e)) [.im (evD e)] := by
  cases e <;> simp [f__growth, m__growth, evD, mrg, gro]
inductive Hr where
  | ok (n : Nat)
  | bad (w : Str) (k : Nat)
def hist : List (Option Ev) → Nat → Nat → Hr
  | [], _, i => .ok i
  | none :: _, k, _ => .bad "event" k
  | some (.put n) :: r, k, i => hist r (k + 1) (i + n)
  | some (.drop n) :: r, k, i => if i < n then .bad "drop" k else hist r (k + 1) (i - n)
  | some .ask :: r, k, i => hist r (k + 1) i
def ftD : Hr → PD
  | .ok _ => .none
  | .bad w k => .tuple [.str w, nm k]
def ckD : Hr → PD
  | .ok n => .tuple [.str "ok", nm n]
  | .bad w k => .tuple [.str "paper", .str w, nm k, .bool true]
def Cls (ds : List PD) (os : List (Option Ev)) : Prop := ds.length = os.length ∧ ∀ (k : Nat) d o, ds[k]? = some d → os[k]? = some o → Cl d o
theorem hist_step {os : List (Option Ev)} {k i : Nat} {o : Option Ev} (h : os[k]? = some o) : hist (os.drop k) k i = hist (o :: os.drop (k + 1)) k i := by
  obtain ⟨hk, e⟩ := List.getElem?_eq_some_iff.mp h
  rw [List.drop_eq_getElem_cons hk, e]
theorem v_fault {ds : List PD} {os : List (Option Ev)} (h : Cls ds os) : f__history_fault [.im (.tuple ds)] = okd (ftD (hist os 0 0)) [.im (.tuple ds)] := by
  unfold f__history_fault m__history_fault
  have key := loop_ret (tg := gT 2 (gsC (gN 2) (gsC (gN 3) gsN))) (b := lp__history_fault_0) (enumD ds)
    (fun k n => ∃ (i : Nat) (x y : Sl), Fr x ∧ Fr y ∧ n = [.im (.tuple ds), .im (nm i), x, y] ∧ hist (os.drop k) k i = hist os 0 0)
    (fun k x n => ∃ (i : Int) (a b : Sl), x = .d (ftD (hist os 0 0)) ∧ n = [.im (.tuple ds), .im (.int i), a, b])
    (fun k d n hd ⟨i, x, y, hx, hy, hn, g⟩ => by
      obtain ⟨e, he, rfl⟩ := enum_get hd
      subst hn
      have hk : k < os.length := by
        have := (List.getElem?_eq_some_iff.mp he).1
        have := h.1
        omega
      have ho : os[k]? = some os[k] := List.getElem?_eq_getElem hk
      generalize os[k] = o at ho
      have c := h.2 k e o he ho
      have cq := cl_qe c
      rw [hist_step ho] at g
      have t1 : gT 2 (gsC (gN 2) (gsC (gN 3) gsN)) (.tuple [.int (k : Int), e]) [.im (.tuple ds), .im (nm i), x, y] = some [.im (.tuple ds), .im (nm i), .im (.int k), .im e] := by simp [hx, hy]
      match o, c, cq, g with
      | none, _, cq, g =>
        refine ⟨_, [.im (.tuple ds), .im (nm i), .im (.int k), .im e], t1, .inr ⟨.d (ftD (hist os 0 0)), ?_, i, _, _, rfl, rfl⟩⟩
        rw [← g]
        simp [lp__history_fault_0, cq, Dl.dist, hasO, ftD, hist, line_ok, ArI]
      | some (.put m), ⟨e1, e2⟩, cq, g =>
        subst e1
        refine ⟨_, [.im (.tuple ds), .im (nm (i + m)), .im (.int k), .im (evD (.put m))], t1, .inl ⟨?_, i + m, _, _, fr_im, fr_im, rfl, g⟩⟩
        have q : ¬ ((i : Int) + (m : Int) < 0) := by omega
        simp [lp__history_fault_0, cq, Dl.dist, hasO, v_growth, gro, q]
      | some .ask, ⟨e1, e2⟩, cq, g =>
        subst e1
        refine ⟨_, [.im (.tuple ds), .im (nm i), .im (.int k), .im (evD .ask)], t1, .inl ⟨?_, i, _, _, fr_im, fr_im, rfl, g⟩⟩
        have q : ¬ ((i : Int) < 0) := by omega
        simp [lp__history_fault_0, cq, Dl.dist, hasO, v_growth, gro, q]
      | some (.drop m), ⟨e1, e2⟩, cq, g =>
        subst e1
        by_cases q : i < m
        · refine ⟨_, [.im (.tuple ds), .im (.int ((i : Int) + -(m : Int))), .im (.int k), .im (evD (.drop m))], t1, .inr ⟨.d (ftD (hist os 0 0)), ?_, _, _, _, rfl, rfl⟩⟩
          rw [← g]
          have q2 : (i : Int) + -(m : Int) < 0 := by omega
          simp [lp__history_fault_0, cq, Dl.dist, hasO, v_growth, gro, q2, ftD, hist, q, line_ok, ArI]
        · refine ⟨_, [.im (.tuple ds), .im (nm (i - m)), .im (.int k), .im (evD (.drop m))], t1, .inl ⟨?_, i - m, _, _, fr_im, fr_im, rfl, ?_⟩⟩
          · have q2 : ¬ ((i : Int) + -(m : Int) < 0) := by omega
            have q3 : (i : Int) + -(m : Int) = ((i - m : Nat) : Int) := by omega
            simp [lp__history_fault_0, cq, Dl.dist, hasO, v_growth, gro, q2]
            exact q3
          · simp only [hist, if_neg q] at g
            exact g) [.im (.tuple ds), .im (nm 0), .un, .un] ⟨0, _, _, fr_un, fr_un, rfl, by simp⟩
  rcases key with ⟨n', e, i, x, y, hx, hy, hn, g⟩ | ⟨k, x, n', _, e, i, a, b, rfl, hn⟩
  · subst hn
    rw [enum_len, h.1, List.drop_length] at g
    rw [show nm 0 = PyData.int 0 from rfl] at e
    simp [isiD, tyD, e, mrg, ← g, hist, ftD]
  · subst hn
    rw [show nm 0 = PyData.int 0 from rfl] at e
    simp [isiD, tyD, e, mrg]
end K2
set_option Elab.async false
set_option linter.all false
set_option maxRecDepth 100000
namespace K2
open PySem Dl
theorem g_neg {i : Int} : (fun | PyData.int i => some (PyData.int (-i)) | _ => none : PD → Option PD) (.int i) = some (.int (-i)) := (rfl)
theorem v_checked {ds : List PD} {os : List (Option Ev)} (h : Cls ds os) (hl : ds.length ≤ 1000) : f__law_checked [.im (.tuple ds)] = okd (ckD (hist os 0 0)) [.im (.tuple ds)] := by
  unfold f__law_checked m__law_checked
  have key := loop_ret (tg := gN 2) (b := lp__law_checked_0) (rngD 0 ds.length)
    (fun k n => ∃ (i : Nat) (x : Sl), Fr x ∧ n = [.im (.tuple ds), .im (nm i), x] ∧ hist (os.drop k) k i = hist os 0 0)
    (fun k x n => ∃ (i : Int) (a : Sl), x = .d (ckD (hist os 0 0)) ∧ n = [.im (.tuple ds), .im (.int i), a])
    (fun k d n hd ⟨i, x, hx, hn, g⟩ => by
      obtain ⟨hk0, rfl⟩ := rng_get hd
      rw [Int.zero_add]
      subst hn
      have hk : k < os.length := by have := h.1; omega
      have ho : os[k]? = some os[k] := List.getElem?_eq_getElem hk
      have he : ds[k]? = some ds[k] := List.getElem?_eq_getElem hk0
      generalize os[k] = o at ho
      generalize ds[k] = e at he
      have c := h.2 k e o he ho
      have cq := cl_le c
      rw [hist_step ho] at g
      have t1 : gN 2 (.int (k : Int)) [.im (.tuple ds), .im (nm i), x] = some [.im (.tuple ds), .im (nm i), .im (.int k)] := by simp [hx]
      match o, c, cq, g with
      | none, _, cq, g =>
        refine ⟨_, [.im (.tuple ds), .im (nm i), .im (.int k)], t1, .inr ⟨.d (ckD (hist os 0 0)), ?_, i, _, rfl, rfl⟩⟩
        rw [← g]
        simp [lp__law_checked_0, cq, he, Dl.dist, hasO, ckD, hist, line_ok, ArI]
      | some (.put m), ⟨e1, e2⟩, cq, g =>
        subst e1
        refine ⟨_, [.im (.tuple ds), .im (nm (i + m)), .im (.int k)], t1, .inl ⟨?_, i + m, _, fr_im, rfl, g⟩⟩
        have hh : evD (.put m) = .tuple [.str "put", nm m] := rfl
        rw [hh] at cq he
        simp [lp__law_checked_0, cq, he, Dl.dist, hasO]
      | some .ask, ⟨e1, e2⟩, cq, g =>
        subst e1
        refine ⟨_, [.im (.tuple ds), .im (nm i), .im (.int k)], t1, .inl ⟨?_, i, _, fr_im, rfl, g⟩⟩
        have hh : evD .ask = .tuple [.str "ask"] := rfl
        rw [hh] at cq he
        simp [lp__law_checked_0, cq, he, Dl.dist, hasO]
      | some (.drop m), ⟨e1, e2⟩, cq, g =>
        subst e1
        have hh : evD (.drop m) = .tuple [.str "drop", nm m] := rfl
        rw [hh] at cq he
        by_cases q : i < m
        · refine ⟨_, [.im (.tuple ds), .im (nm i), .im (.int k)], t1, .inr ⟨.d (ckD (hist os 0 0)), ?_, _, _, rfl, rfl⟩⟩
          rw [← g]
          have q2 : (i : Int) < (m : Int) := by omega
          simp [lp__law_checked_0, cq, he, Dl.dist, hasO, q2, ckD, hist, q, line_ok, ArI]
        · refine ⟨_, [.im (.tuple ds), .im (nm (i - m)), .im (.int k)], t1, .inl ⟨?_, i - m, _, fr_im, rfl, ?_⟩⟩
          · have q2 : ¬ ((i : Int) < (m : Int)) := by omega
            have q3 : (i : Int) - (m : Int) = ((i - m : Nat) : Int) := by omega
            simp [lp__law_checked_0, cq, he, Dl.dist, hasO, q2]
            exact q3
          · simp only [hist, if_neg q] at g
            exact g) [.im (.tuple ds), .im (nm 0), .un] ⟨0, _, fr_un, rfl, by simp⟩
  have hr := u_rng1 (k := ds.length) (n := [.im (.tuple ds), .im (.int 0), .un]) (by omega)
  rcases key with ⟨n', e, i, x, hx, hn, g⟩ | ⟨k, x, n', _, e, i, a, rfl, hn⟩
  · subst hn
    rw [rng_len, h.1, List.drop_length] at g
    rw [show nm 0 = PyData.int 0 from rfl] at e
    simp [isiD, tyD, hr, e, mrg, ← g, hist, ckD, line_ok, ArI]
  · subst hn
    rw [show nm 0 = PyData.int 0 from rfl] at e
    simp [isiD, tyD, hr, e, mrg]
theorem v_checked_n {d : PD} (h : isiD "tuple" d = false) : f__law_checked [.im d] = okd (.tuple [.str "paper", .str "shape", .int (-1), .bool true]) [.im d] := by
  simp [f__law_checked, m__law_checked, h, mrg, line_ok, ArI]
theorem v_fault_n {d : PD} (h : isiD "tuple" d = false) : f__history_fault [.im d] = okd (.tuple [.str "shape", .int (-1)]) [.im d] := by
  simp [f__history_fault, m__history_fault, h, mrg, line_ok, ArI]
theorem v_refuse_n : f_refuse [.im .none] = okd .none [.im .none] := by
  simp [f_refuse, m_refuse, mrg, ArI, gIsN]
def ipE (x y : PD) : Er := ⟨"InvalidPaper", [("at", y), ("word", x)]⟩
theorem v_refuse_t (x y : PD) : f_refuse [.im (.tuple [x, y])] = some (.error (ipE x y, [.im (.tuple [x, y]), .im x, .im y])) := by
  simp [f_refuse, m_refuse, ArI, gIsN, ipE]
theorem v_need_t (z : Str) : f_need [.im (.bool true), .im (.str z)] = okd .none [.im (.bool true), .im (.str z)] := by
  simp [f_need, m_need, mrg]
def nuE (z : Str) : Er := ⟨"NotUsable", [("at", .int (-1)), ("word", .str z)]⟩
theorem v_need_f (z : Str) : f_need [.im (.bool false), .im (.str z)] = some (.error (nuE z, [.im (.bool false), .im (.str z)])) := by
  simp [f_need, m_need, nuE]
theorem hist_ok : ∀ {os : List (Option Ev)} {k i j : Nat}, hist os k i = .ok j → ∃ es : List Ev, os = es.map some ∧ (i : Int) + (es.map gro).sum = j
  | [], k, i, j, h => by
    cases h
    exact ⟨[], rfl, by simp⟩
  | none :: r, k, i, j, h => by cases h
  | some (.put n) :: r, k, i, j, h => by
    obtain ⟨es, e1, e2⟩ := hist_ok (os := r) h
    refine ⟨.put n :: es, by simp [e1], ?_⟩
    simp only [List.map_cons, List.sum_cons, gro]
    omega
  | some .ask :: r, k, i, j, h => by
    obtain ⟨es, e1, e2⟩ := hist_ok (os := r) h
    refine ⟨.ask :: es, by simp [e1], ?_⟩
    simp only [List.map_cons, List.sum_cons, gro]
    omega
  | some (.drop n) :: r, k, i, j, h => by
    unfold hist at h
    split at h
    · cases h
    · obtain ⟨es, e1, e2⟩ := hist_ok (os := r) h
      refine ⟨.drop n :: es, by simp [e1], ?_⟩
      simp only [List.map_cons, List.sum_cons, gro]
      omega
theorem cls_ok {ds : List PD} {es : List Ev} (h : Cls ds (es.map some)) : ds = es.map evD ∧ ∀ e ∈ es, e.ok := by
  have hl : ds.length = es.length := by have := h.1; simpa using this
  constructor
  · apply List.ext_getElem?
    intro k
    by_cases hk : k < es.length
    · have hq : k < ds.length := by omega
      have h1 : ds[k]? = some ds[k] := List.getElem?_eq_getElem hq
      have h2 : (es.map some)[k]? = some (some es[k]) := by rw [List.getElem?_map, List.getElem?_eq_getElem hk]; rfl
      obtain ⟨e, _⟩ := h.2 k _ _ h1 h2
      rw [h1, e, List.getElem?_map, List.getElem?_eq_getElem hk]
      rfl
    · rw [List.getElem?_eq_none (by omega), List.getElem?_eq_none (by simp; omega)]
  · intro e he
    obtain ⟨k, hk⟩ := List.getElem?_of_mem he
    have hk2 := (List.getElem?_eq_some_iff.mp hk).1
    have hq : k < ds.length := by omega
    have h1 : ds[k]? = some ds[k] := List.getElem?_eq_getElem hq
    exact (h.2 k _ (some e) h1 (by rw [List.getElem?_map, hk]; rfl)).2
theorem cls_of {es : List Ev} (h : ∀ e ∈ es, e.ok) : Cls (es.map evD) (es.map some) := ⟨by simp, fun k d o h1 h2 => by
  rw [List.getElem?_map] at h1 h2
  obtain ⟨e, e1, rfl⟩ := Option.map_eq_some_iff.mp h1
  rw [e1] at h2
  cases h2
  exact ⟨rfl, h e (List.mem_of_getElem? e1)⟩⟩
theorem comp_map {α : Type} {fe : Nv → Rs Ar} {F : α → PD} {G : α → PD} {i : Nat} {n : Nv} {l : List α} (hn : n[i]? = some .un) (hl : l.length ≤ 10000) (h : ∀ x ∈ l, fe (n.set i (.im (F x))) = Dl.ret (.d (G x)) (n.set i (.im (F x)))) :
    cmpK [i] (gN i) fYes fe (l.map F) n = Dl.ret (l.map G) n := by
  have hc : clr n [i] = true := by simp [clr, hn]
  have key : ∀ m : List α, (∀ x ∈ m, x ∈ l) → compF [i] (gN i) fYes fe (m.map F) n = Dl.ret (m.map G) n := fun m => by
    induction m with
    | nil => intro _; rfl
    | cons x r ih =>
      intro hm
      rw [List.map_cons]
      unfold compF
      have e1 : gN i (F x) n = some (n.set i (.im (F x))) := by
        unfold gN
        rw [u_free, hn]
        rfl
      rw [e1]
      simp only [lft_some, fYes, noE_ret, bnd_ret, if_true]
      rw [h x (hm x (List.mem_cons_self ..))]
      simp only [noE_ret, bnd_ret]
      show (if [i].all (free? (n.set i (.im (F x)))) = true then bnd (compF [i] (gN i) fYes fe (r.map F) (wipeN (n.set i (.im (F x))) [i])) _ else none) = _
      have e2 : [i].all (free? (n.set i (.im (F x)))) = true := by
        simp only [List.all_cons, List.all_nil, Bool.and_true, u_free]
        exact free_set (by rw [hn]; rfl)
      have e3 : wipeN (n.set i (.im (F x))) [i] = n := by
        show (n.set i (.im (F x))).set i .un = n
        rw [List.set_set, set_un hn]
      rw [if_pos e2, e3, ih fun d hd => hm d (List.mem_cons_of_mem _ hd)]
      rfl
  unfold cmpK
  rw [if_pos hc, if_pos (show decide ((l.map F).length < sizeLine) = true from ltl_ok (by simpa using hl)), key l fun _ h => h]
  show (if kndB n n = true then _ else _) = _
  rw [if_pos (knd_refl n)]
theorem v_lets {ds : List PD} {os : List (Option Ev)} (h : Cls ds os) (hl : ds.length ≤ 1000) : f_lets_history [.im (.tuple ds)] = match hist os 0 0 with
    | .ok n => okd (nm n) [.im (.tuple ds)]
    | .bad w k => some (.error (ipE (.str w) (nm k), [.im (.tuple ds), .un])) := by
  unfold f_lets_history m_lets_history
  have hf := v_fault h
  match e : hist os 0 0 with
  | .bad w k =>
    rw [e] at hf
    have r := v_refuse_t (.str w) (nm k)
    simp [hf, Dl.dist, hasO, ftD, r]
  | .ok j =>
    rw [e] at hf
    obtain ⟨es, rfl, e2⟩ := hist_ok e
    obtain ⟨rfl, ho⟩ := cls_ok h
    have c := comp_map (fe := eCall f__growth (aCons (eV 1) aNil)) (F := evD) (G := fun e => .int (gro e)) (i := 1) (n := [.im (.tuple (es.map evD)), .un]) (l := es) rfl (by simp at hl; omega) fun x hx => by
      simp [v_growth, Dl.dist, hasO]
    have s : gSum [.list (es.map fun e => PyData.int (gro e))] = some (nm j) := by
      simp [gSum, ints_map]
      omega
    simp [hf, Dl.dist, hasO, ftD, v_refuse_n, c, s, mrg]
theorem v_lets_n {d : PD} (h : isiD "tuple" d = false) : f_lets_history [.im d] = some (.error (ipE (.str "shape") (.int (-1)), [.im d, .un])) := by
  unfold f_lets_history m_lets_history
  have r := v_refuse_t (.str "shape") (.int (-1))
  simp [v_fault_n h, Dl.dist, hasO, r]
def Hr.isOk : Hr → Bool
  | .ok _ => true
  | .bad _ _ => false
theorem v_is_history {ds : List PD} {os : List (Option Ev)} (h : Cls ds os) : f_is_history [.im (.tuple ds)] = okd (.bool (hist os 0 0).isOk) [.im (.tuple ds)] := by
  unfold f_is_history m_is_history
  cases e : hist os 0 0 <;> simp [v_fault h, e, Dl.dist, hasO, ArI, gIsN, ftD, Hr.isOk, mrg]
theorem v_is_history_n {d : PD} (h : isiD "tuple" d = false) : f_is_history [.im d] = okd (.bool false) [.im d] := by
  unfold f_is_history m_is_history
  simp [v_fault_n h, Dl.dist, hasO, ArI, gIsN, mrg]
end K2
set_option Elab.async false
set_option linter.all false
set_option maxRecDepth 100000
namespace K2
open PySem Dl
theorem cut_from {ds : List PD} {k : Nat} : cutD ds (some (k : Int)) none = ds.drop k := by
  unfold cutD
  rw [HT.sIx_none, HT.sIx_nat, List.take_of_length_le (by rw [List.length_drop]; omega)]
  rcases Nat.le_total k ds.length with h | h
  · rw [Nat.min_eq_left h]
  · rw [Nat.min_eq_right h, List.drop_eq_nil_of_le h, List.drop_eq_nil_of_le (Nat.le_refl _)]
theorem cut_to {ds : List PD} {k : Nat} : cutD ds none (some (k : Int)) = ds.take k := by
  unfold cutD
  rw [HT.sIx_none, HT.sIx_nat]
  simp
  first | done | (rcases Nat.le_total k ds.length with h | h
                  · rw [Nat.min_eq_left h]
                  · rw [Nat.min_eq_right h, List.take_of_length_le h, List.take_of_length_le (Nat.le_refl _)])
theorem rng_app {f : Int} {a b : Nat} : rngD f a ++ rngD (f + a) b = rngD f (a + b) := by
  unfold rngD
  rw [List.range_add, List.map_append, List.map_map]
  congr 1
  apply List.map_congr_left
  intro i _
  simp
  omega
theorem rng_drop {f : Int} {a m : Nat} : (rngD f a).drop m = rngD (f + m) (a - m) := by
  apply List.ext_getElem?
  intro i
  rw [List.getElem?_drop]
  unfold rngD
  rw [List.getElem?_map, List.getElem?_map]
  by_cases h : m + i < a
  · rw [List.getElem?_range h, List.getElem?_range (by omega)]
    simp
    omega
  · rw [List.getElem?_eq_none (by simpa using h), List.getElem?_eq_none (by simp; omega)]
    rfl
theorem rng_0 {f : Int} {a : Nat} (h : 0 < a) : (rngD f a)[0]? = some (.int f) := by
  unfold rngD
  rw [List.getElem?_map, List.getElem?_range h]
  simp
theorem at_m1 {α : Type} {l : List α} : L2.atI l (-1) = l.getLast? := by
  unfold L2.atI L2.ixN
  rw [if_neg (by decide)]
  rw [List.getLast?_eq_getElem?]
  by_cases h : 0 < l.length
  · rw [if_pos (by omega), Option.bind_some, show ((-1 : Int) + (l.length : Int)).toNat = l.length - 1 by omega]
  · rw [if_neg (by omega)]
    have : l = [] := List.eq_nil_of_length_eq_zero (by omega)
    subst this
    rfl
theorem rng_last {f : Int} {a : Nat} (h : 0 < a) : (rngD f a).getLast? = some (.int (f + a - 1)) := by
  rw [List.getLast?_eq_getElem?, rng_len]
  unfold rngD
  rw [List.getElem?_map, List.getElem?_range (by omega)]
  simp
  omega
def tolds : List Ev → Nat → Nat → List (Nat × Nat)
  | [], _, _ => []
  | .put n :: r, f, p => tolds r f (p + n)
  | .drop n :: r, f, p => tolds r (f + n) p
  | .ask :: r, f, p => if f < p then (f, p) :: tolds r f p else tolds r f p
def psum : List Ev → Nat
  | [] => 0
  | .put n :: r => n + psum r
  | _ :: r => psum r
theorem told_step {es : List Ev} {k f p : Nat} {e : Ev} (h : es[k]? = some e) : tolds (es.drop k) f p = tolds (e :: es.drop (k + 1)) f p ∧ psum (es.drop k) = psum (e :: es.drop (k + 1)) := by
  obtain ⟨hk, e⟩ := List.getElem?_eq_some_iff.mp h
  rw [List.drop_eq_getElem_cons hk, e]
  exact ⟨rfl, rfl⟩
theorem g_subs {i j : Nat} (h : j ≤ i) : ((i : Int) - (j : Int)) = ((i - j : Nat) : Int) := by omega
theorem v_play {es : List Ev} {j : Nat} (h : hist (es.map some) 0 0 = .ok j) (hp : psum es ≤ 1000) (hl : es.length ≤ 1000) :
    ∃ f : Nat, f__law_play [.im (.tuple (es.map evD))] = okd (.list [.list ((tolds es 0 0).map pr), .list (rngD f j)]) [.im (.tuple (es.map evD))] := by
  unfold f__law_play m__law_play
  have key := loop_idx (tg := gN 4) (b := lp__law_play_0) (es.map evD)
    (fun k n => ∃ (f p : Nat) (out : List (Nat × Nat)) (x : Sl), Fr x ∧ n = [.im (.tuple (es.map evD)), .im (.list (rngD f (p - f))), .im (nm p), .ow false (.l (out.map pr)), x] ∧ f ≤ p ∧ hist ((es.map some).drop k) k (p - f) = .ok j ∧ out ++ tolds (es.drop k) f p = tolds es 0 0 ∧ p + psum (es.drop k) = psum es ∧ out.length ≤ k)
    (fun k d n hd ⟨f, p, out, x, hx, hn, hfp, g1, g2, g3, g4⟩ => by
      subst hn
      rw [List.getElem?_map] at hd
      obtain ⟨e, he, rfl⟩ := Option.map_eq_some_iff.mp hd
      have hk := (List.getElem?_eq_some_iff.mp he).1
      rw [hist_step (o := some e) (by rw [List.getElem?_map, he]; rfl)] at g1
      rw [(told_step he).1] at g2
      rw [(told_step (f := 0) (p := 0) he).2] at g3
      have t1 : gN 4 (evD e) [.im (.tuple (es.map evD)), .im (.list (rngD f (p - f))), .im (nm p), .ow false (.l (out.map pr)), x] = some [.im (.tuple (es.map evD)), .im (.list (rngD f (p - f))), .im (nm p), .ow false (.l (out.map pr)), .im (evD e)] := by simp [hx]
      match e, t1, g1, g2, g3 with
      | .put m, t1, g1, g2, g3 =>
        have g3 : p + (m + psum (es.drop (k + 1))) = psum es := g3
        refine ⟨_, [.im (.tuple (es.map evD)), .im (.list (rngD f (p + m - f))), .im (nm (p + m)), .ow false (.l (out.map pr)), .im (evD (.put m))], t1, ?_, f, p + m, out, _, fr_im, rfl, by omega, ?_, g2, by omega, by omega⟩
        · have hr : ∀ n : Nv, rg2 (.d (.int (p : Int))) (.d (.int ((p : Int) + (m : Int)))) n = Dl.ret (rngD p m) n := fun n => by
            rw [u_rg2 (by omega) (by omega) (by omega) (by omega)]
            congr 2
            omega
          have ha : gAdd (.list (rngD f (p - f))) (.list (rngD p m)) = some (.list (rngD f (p + m - f))) := by
            rw [g_addL (by rw [rng_len, rng_len]; omega)]
            rw [show ((p : Nat) : Int) = (f : Int) + ((p - f : Nat) : Int) by omega, rng_app, show p - f + m = p + m - f by omega]
          have hh : evD (.put m) = .tuple [.str "put", nm m] := rfl
          rw [hh]
          simp [lp__law_play_0, hr, ha]
        · have : p + m - f = p - f + m := by omega
          rw [this]
          exact g1
      | .drop m, t1, g1, g2, g3 =>
        have g3 : p + psum (es.drop (k + 1)) = psum es := g3
        unfold hist at g1
        split at g1
        · cases g1
        · rename_i q
          refine ⟨_, [.im (.tuple (es.map evD)), .im (.list (rngD ((f + m : Nat) : Int) (p - (f + m)))), .im (nm p), .ow false (.l (out.map pr)), .im (evD (.drop m))], t1, ?_, f + m, p, out, _, fr_im, rfl, by omega, ?_, g2, by omega, by omega⟩
          · have ha : cutD (rngD f (p - f)) (some (m : Int)) none = rngD ((f + m : Nat) : Int) (p - (f + m)) := by
              rw [cut_from, rng_drop]
              congr 1 <;> omega
            have hh : evD (.drop m) = .tuple [.str "drop", nm m] := rfl
            rw [hh]
            simp [lp__law_play_0, ha]
          · rw [show p - (f + m) = p - f - m by omega]
            exact g1
      | .ask, t1, g1, g2, g3 =>
        have g3 : p + psum (es.drop (k + 1)) = psum es := g3
        have hh : evD .ask = .tuple [.str "ask"] := rfl
        by_cases q : f < p
        · refine ⟨_, [.im (.tuple (es.map evD)), .im (.list (rngD f (p - f))), .im (nm p), .ow false (.l ((out ++ [(f, p)]).map pr)), .im (evD .ask)], t1, ?_, f, p, out ++ [(f, p)], _, fr_im, rfl, hfp, g1, ?_, by omega, by simp; omega⟩
          · have h1 := rng_0 (f := (f : Int)) (a := p - f) (by omega)
            have h1b : ∀ h, (rngD (f : Int) (p - f))[0]'h = .int f := fun h => by
              have := List.getElem?_eq_getElem h
              rw [h1] at this
              exact (Option.some.inj this).symm
            have h2 := rng_last (f := (f : Int)) (a := p - f) (by omega)
            have h3 : (0 : Int) < ((p - f : Nat) : Int) := by omega
            have h4 : 0 < p - f := by omega
            have h5 : (f : Int) + ((p - f : Nat) : Int) = (p : Int) := by omega
            rw [hh]
            simp [lp__law_play_0, rng_len, h1, h1b, at_m1, h2, h3, h4, q, line_ok, ArI, ltl_ok (k := out.length) (by omega), pr, h5]
          · simp only [tolds, if_pos q] at g2
            rw [List.append_assoc]
            exact g2
        · refine ⟨_, [.im (.tuple (es.map evD)), .im (.list (rngD f (p - f))), .im (nm p), .ow false (.l (out.map pr)), .im (evD .ask)], t1, ?_, f, p, out, _, fr_im, rfl, hfp, g1, ?_, by omega, by omega⟩
          · have h3 : ¬ ((0 : Int) < ((p - f : Nat) : Int)) := by omega
            have h4 : ¬ (0 < p - f) := by omega
            rw [hh]
            simp [lp__law_play_0, rng_len, h3, h4, q]
          · simp only [tolds, if_neg q] at g2
            exact g2) [.im (.tuple (es.map evD)), .im (.list []), .im (.int 0), .ow false (.l []), .un] ⟨0, 0, [], _, fr_un, rfl, by omega, by simpa using h, by simp, by simp, by simp⟩
  obtain ⟨n', e, f, p, out, x, hx, hn, hfp, g1, g2, g3, g4⟩ := key
  subst hn
  have hl2 : es.drop (es.map evD).length = [] := by simp
  have hl3 : (es.map some).drop (es.map evD).length = [] := by simp
  rw [hl3] at g1
  rw [hl2] at g2
  have g1 : Hr.ok (p - f) = .ok j := g1
  cases g1
  have g2 : out = tolds es 0 0 := by simpa [tolds] using g2
  refine ⟨f, ?_⟩
  subst g2
  simp [line_ok, ArI, e, mrg]
end K2
set_option Elab.async false
set_option linter.all false
set_option maxRecDepth 100000
namespace K2
open PySem Dl
def plt (p q : Nat × Nat) : Bool := decide (p.1 < q.1) || (decide (p.1 = q.1) && decide (p.2 < q.2))
theorem plt_iff {p q : Nat × Nat} : plt p q = true ↔ p.1 < q.1 ∨ (p.1 = q.1 ∧ p.2 < q.2) := by simp [plt]
def insU (x : Nat × Nat) : List (Nat × Nat) → List (Nat × Nat)
  | [] => [x]
  | y :: r => if plt x y = true then x :: y :: r else if x = y then y :: r else y :: insU x r
def uq : List (Nat × Nat) → List (Nat × Nat)
  | [] => []
  | x :: r => insU x (uq r)
def insP (x : Nat × Nat) : List (Nat × Nat) → List (Nat × Nat)
  | [] => [x]
  | y :: r => if plt y x = true then y :: insP x r else x :: y :: r
def st : List (Nat × Nat) → List (Nat × Nat)
  | [] => []
  | x :: r => insP x (st r)
def Asc (r : List (Nat × Nat)) : Prop := r.Pairwise fun p q => plt p q = true
theorem plt_tr {p q r : Nat × Nat} (h : plt p q = true) (h2 : plt q r = true) : plt p r = true := by
  rw [plt_iff] at *
  omega
theorem plt_ir {p : Nat × Nat} : plt p p = false := by simp [plt]
theorem plt_tri {p q : Nat × Nat} (h : ¬ plt p q = true) (h2 : ¬ p = q) : plt q p = true := by
  rw [plt_iff] at *
  have : ¬ (p.1 = q.1 ∧ p.2 = q.2) := fun z => h2 (Prod.ext z.1 z.2)
  omega
theorem mem_insU {x k : Nat × Nat} : ∀ {l : List (Nat × Nat)}, k ∈ insU x l ↔ k = x ∨ k ∈ l
  | [] => by simp [insU]
  | y :: r => by
    unfold insU
    split
    · simp
    · split
      · rename_i e
        subst e
        simp
      · rw [List.mem_cons, mem_insU, List.mem_cons]
        constructor <;> rintro (h | h | h) <;> simp [h]
theorem mem_uq {k : Nat × Nat} : ∀ {l : List (Nat × Nat)}, k ∈ uq l ↔ k ∈ l
  | [] => by simp [uq]
  | x :: r => by
    unfold uq
    rw [mem_insU, mem_uq, List.mem_cons]
theorem asc_insU {x : Nat × Nat} : ∀ {l : List (Nat × Nat)}, Asc l → Asc (insU x l)
  | [], _ => by simp [insU, Asc]
  | y :: r, h => by
    unfold insU
    have h1 := List.pairwise_cons.mp h
    split
    · rename_i q
      exact List.pairwise_cons.mpr ⟨fun a ha => by
        rcases List.mem_cons.mp ha with rfl | ha
        · exact q
        · exact plt_tr q (h1.1 a ha), h⟩
    · split
      · exact h
      · rename_i q q2
        refine List.pairwise_cons.mpr ⟨fun a ha => ?_, asc_insU h1.2⟩
        rcases mem_insU.mp ha with rfl | ha
        · exact plt_tri q q2
        · exact h1.1 a ha
theorem asc_uq : ∀ {l : List (Nat × Nat)}, Asc (uq l)
  | [] => List.Pairwise.nil
  | x :: r => asc_insU asc_uq
theorem asc_eq : ∀ {a b : List (Nat × Nat)}, Asc a → Asc b → (∀ k, k ∈ a ↔ k ∈ b) → a = b
  | [], [], _, _, _ => rfl
  | [], y :: r, _, _, h => absurd ((h y).mpr (List.mem_cons_self ..)) (by simp)
  | x :: r, [], _, _, h => absurd ((h x).mp (List.mem_cons_self ..)) (by simp)
  | x :: r, y :: q, h1, h2, h => by
    have a1 := List.pairwise_cons.mp h1
    have a2 := List.pairwise_cons.mp h2
    have e : x = y := by
      rcases List.mem_cons.mp ((h x).mp (List.mem_cons_self ..)) with e | e
      · exact e
      · rcases List.mem_cons.mp ((h y).mpr (List.mem_cons_self ..)) with e2 | e2
        · exact e2.symm
        · have := plt_tr (a1.1 y e2) (a2.1 x e)
          rw [plt_ir] at this
          cases this
    subst e
    congr 1
    refine asc_eq a1.2 a2.2 fun k => ?_
    constructor
    · intro hk
      rcases List.mem_cons.mp ((h k).mp (List.mem_cons_of_mem _ hk)) with e | e
      · subst e
        have := a1.1 k hk
        rw [plt_ir] at this
        cases this
      · exact e
    · intro hk
      rcases List.mem_cons.mp ((h k).mpr (List.mem_cons_of_mem _ hk)) with e | e
      · subst e
        have := a2.1 k hk
        rw [plt_ir] at this
        cases this
      · exact e
theorem uq_id {r : List (Nat × Nat)} (h : Asc r) : uq r = r := asc_eq asc_uq h fun _ => mem_uq
theorem mem_insP {x k : Nat × Nat} : ∀ {l : List (Nat × Nat)}, k ∈ insP x l ↔ k = x ∨ k ∈ l
  | [] => by simp [insP]
  | y :: r => by
    unfold insP
    split
    · rw [List.mem_cons, mem_insP, List.mem_cons]
      constructor <;> rintro (h | h | h) <;> simp [h]
    · simp
theorem mem_st {k : Nat × Nat} : ∀ {l : List (Nat × Nat)}, k ∈ st l ↔ k ∈ l
  | [] => by simp [st]
  | x :: r => by
    unfold st
    rw [mem_insP, mem_st, List.mem_cons]
def Wk (r : List (Nat × Nat)) : Prop := r.Pairwise fun p q => plt q p = false
theorem ple_tr {p q r : Nat × Nat} (h : plt q p = false) (h2 : plt r q = false) : plt r p = false := by
  rw [← Bool.not_eq_true, plt_iff] at *
  omega
theorem wk_insP {x : Nat × Nat} : ∀ {l : List (Nat × Nat)}, Wk l → Wk (insP x l)
  | [], _ => by simp [insP, Wk]
  | y :: r, h => by
    unfold insP
    have h1 := List.pairwise_cons.mp h
    split
    · rename_i q
      refine List.pairwise_cons.mpr ⟨fun a ha => ?_, wk_insP h1.2⟩
      rcases mem_insP.mp ha with rfl | ha
      · rw [← Bool.not_eq_true]
        intro z
        have := plt_tr q z
        rw [plt_ir] at this
        cases this
      · exact h1.1 a ha
    · rename_i q
      have q : plt y x = false := by simpa using q
      exact List.pairwise_cons.mpr ⟨fun a ha => by
        rcases List.mem_cons.mp ha with rfl | ha
        · exact q
        · exact ple_tr q (h1.1 a ha), h⟩
theorem wk_st : ∀ {l : List (Nat × Nat)}, Wk (st l)
  | [] => List.Pairwise.nil
  | x :: r => wk_insP wk_st
def ddS (out : List (Nat × Nat)) (p : Nat × Nat) : List (Nat × Nat) := if out.getLast? = some p then out else out ++ [p]
theorem dd_asc : ∀ {l out : List (Nat × Nat)}, Wk l → Asc out → (∀ a ∈ out, ∀ b ∈ l, plt b a = false) → Asc (l.foldl ddS out) ∧ ∀ k, k ∈ l.foldl ddS out ↔ k ∈ out ∨ k ∈ l
  | [], out, _, h, _ => ⟨h, fun k => by simp⟩
  | p :: r, out, hw, h, hc => by
    have h1 := List.pairwise_cons.mp hw
    have key : Asc (ddS out p) ∧ (∀ a ∈ ddS out p, ∀ b ∈ r, plt b a = false) ∧ ∀ k, k ∈ ddS out p ↔ k ∈ out ∨ k = p := by
      unfold ddS
      split
      · rename_i e
        refine ⟨h, fun a ha b hb => hc a ha b (List.mem_cons_of_mem _ hb), fun k => ⟨.inl, fun z => ?_⟩⟩
        rcases z with z | rfl
        · exact z
        · exact List.mem_of_getLast? e
      · rename_i e
        refine ⟨?_, fun a ha b hb => ?_, fun k => by simp⟩
        · refine List.pairwise_append.mpr ⟨h, by simp, fun a ha b hb => ?_⟩
          have hb : b = p := by simpa using hb
          subst hb
          have c := hc a ha b (List.mem_cons_self ..)
          refine plt_tri (by rw [c]; simp) fun z => ?_
          subst z
          apply e
          obtain ⟨o, hl⟩ : ∃ o, out.getLast? = some o := by
            cases q : out.getLast? with
            | none =>
              rw [List.getLast?_eq_none_iff] at q
              subst q
              cases ha
            | some o => exact ⟨o, rfl⟩
          rw [hl]
          have ho := List.mem_of_getLast? hl
          have c2 := hc o ho b (List.mem_cons_self ..)
          by_cases e2 : b = o
          · rw [e2]
          · have c3 := plt_tri (p := b) (q := o) (by rw [c2]; simp) e2
            obtain ⟨ys, hy⟩ := List.getLast?_eq_some_iff.mp hl
            rw [hy] at h ha
            have pw := List.pairwise_append.mp h
            rcases List.mem_append.mp ha with ha | ha
            · have := plt_tr (pw.2.2 b ha o (by simp)) c3
              rw [plt_ir] at this
              cases this
            · exact absurd (by simpa using ha) e2
        · rcases List.mem_append.mp ha with ha | ha
          · exact hc a ha b (List.mem_cons_of_mem _ hb)
          · have ha : a = p := by simpa using ha
            subst ha
            exact h1.1 b hb
    obtain ⟨k1, k2, k3⟩ := key
    obtain ⟨i1, i2⟩ := dd_asc h1.2 k1 k2
    refine ⟨i1, fun k => ?_⟩
    rw [List.foldl_cons, i2 k, k3 k, List.mem_cons]
    constructor <;> rintro (h | h)
    · rcases h with h | h <;> simp [h]
    · simp [h]
    · simp [h]
    · rcases h with h | h <;> simp [h]
theorem dd_st {l : List (Nat × Nat)} : (st l).foldl ddS [] = uq l := by
  obtain ⟨h1, h2⟩ := dd_asc (l := st l) (out := []) wk_st List.Pairwise.nil (fun a ha => by cases ha)
  refine asc_eq h1 asc_uq fun k => ?_
  rw [h2 k, mem_st, mem_uq]
  simp
def cp (p : Nat × Nat) : List Int := [(p.1 : Int), (p.2 : Int)]
theorem tups_cp : ∀ l : List (Nat × Nat), tupsOf (l.map pr) = some (l.map cp)
  | [] => rfl
  | p :: r => by
    show (tupI (pr p)).bind _ = _
    have e : tupI (pr p) = some (cp p) := rfl
    rw [e, Option.bind_some, tups_cp r]
    rfl
def Bq (l : List (Nat × Nat)) : Prop := ∀ p ∈ l, p.1 < 1000000 ∧ p.2 < 1000000
theorem okQ_cp {l : List (Nat × Nat)} (h : Bq l) : okQ (l.map cp) = true := by
  unfold okQ
  rw [List.all_eq_true]
  intro ns hn
  obtain ⟨p, hp, rfl⟩ := List.mem_map.mp hn
  have b := h p hp
  have e : ((l.map cp).headD []).length = 2 := by
    cases l with
    | nil => cases hp
    | cons q r => rfl
  rw [e]
  have i1 : decide ((p.1 : Int) < BQ) = true := decide_eq_true (by unfold BQ; omega)
  have i2 : decide ((p.2 : Int) < BQ) = true := decide_eq_true (by unfold BQ; omega)
  simp [cp, inQ, i1, i2]
theorem cQ_cp (p : Nat × Nat) : cQ (cp p) = (p.1 : Int) * 1048576 + (p.2 : Int) := by
  simp [cQ, cp, TS.code, BQ]
theorem cQ_lt {p q : Nat × Nat} (hp : p.2 < 1000000) (hq : q.2 < 1000000) : cQ (cp p) < cQ (cp q) ↔ plt p q = true := by
  rw [cQ_cp, cQ_cp, plt_iff]
  omega
theorem cQ_eq {p q : Nat × Nat} (hp : p.2 < 1000000) (hq : q.2 < 1000000) : cQ (cp p) = cQ (cp q) ↔ p = q := by
  rw [cQ_cp, cQ_cp]
  constructor
  · intro h
    exact Prod.ext (by omega) (by omega)
  · rintro rfl
    rfl
theorem insQU_cp {x : Nat × Nat} : ∀ {l : List (Nat × Nat)}, x.2 < 1000000 → Bq l → insQU (cp x) (l.map cp) = (insU x l).map cp
  | [], _, _ => rfl
  | y :: r, hx, hb => by
    have hy := (hb y (List.mem_cons_self ..)).2
    have ih := insQU_cp (x := x) (l := r) hx fun p hp => hb p (List.mem_cons_of_mem _ hp)
    show (if cQ (cp x) < cQ (cp y) then _ else if cQ (cp x) = cQ (cp y) then _ else _) = _
    unfold insU
    by_cases q : plt x y = true
    · rw [if_pos ((cQ_lt hx hy).mpr q), if_pos q]
      rfl
    · rw [if_neg (fun z => q ((cQ_lt hx hy).mp z)), if_neg q]
      by_cases q2 : x = y
      · rw [if_pos ((cQ_eq hx hy).mpr q2), if_pos q2]
        rfl
      · rw [if_neg (fun z => q2 ((cQ_eq hx hy).mp z)), if_neg q2, ih]
        rfl
theorem uniqQ_cp : ∀ {l : List (Nat × Nat)}, Bq l → uniqQ (l.map cp) = (uq l).map cp
  | [], _ => rfl
  | x :: r, hb => by
    have ih := uniqQ_cp (l := r) fun p hp => hb p (List.mem_cons_of_mem _ hp)
    show insQU (cp x) (uniqQ (r.map cp)) = _
    rw [ih, insQU_cp (hb x (List.mem_cons_self ..)).2 fun p hp => hb p (List.mem_cons_of_mem _ (mem_uq.mp hp))]
    rfl
theorem insQ_cp {x : Nat × Nat} : ∀ {l : List (Nat × Nat)}, x.2 < 1000000 → Bq l → insQ (cp x) (l.map cp) = (insP x l).map cp
  | [], _, _ => rfl
  | y :: r, hx, hb => by
    have hy := (hb y (List.mem_cons_self ..)).2
    have ih := insQ_cp (x := x) (l := r) hx fun p hp => hb p (List.mem_cons_of_mem _ hp)
    show (if cQ (cp x) ≤ cQ (cp y) then _ else _) = _
    unfold insP
    by_cases q : plt y x = true
    · have := (cQ_lt hy hx).mpr q
      rw [if_neg (by omega), if_pos q, ih]
      rfl
    · have : ¬ cQ (cp y) < cQ (cp x) := fun z => q ((cQ_lt hy hx).mp z)
      rw [if_pos (by omega), if_neg q]
      rfl
theorem sortQ_cp : ∀ {l : List (Nat × Nat)}, Bq l → sortQ (l.map cp) = (st l).map cp
  | [], _ => rfl
  | x :: r, hb => by
    have ih := sortQ_cp (l := r) fun p hp => hb p (List.mem_cons_of_mem _ hp)
    show insQ (cp x) (sortQ (r.map cp)) = _
    rw [ih, insQ_cp (hb x (List.mem_cons_self ..)).2 fun p hp => hb p (List.mem_cons_of_mem _ (mem_st.mp hp))]
    rfl
theorem tD_cp {l : List (Nat × Nat)} : (l.map cp).map tD = l.map pr := by
  rw [List.map_map]
  rfl
theorem g_set {l : List (Nat × Nat)} (hl : l.length < 64) (hb : Bq l) : gSetQ [.tuple (l.map pr)] = some ((uq l).map pr) := by
  show gSetL (l.map pr) = _
  unfold gSetL
  rw [tups_cp]
  dsimp only
  rw [if_pos (by simp [hl, okQ_cp hb]), uniqQ_cp hb, tD_cp]
theorem g_srt {l : List (Nat × Nat)} (hl : l.length < 64) (hb : Bq l) : gSrtQ [.list (l.map pr)] = some ((st l).map pr) := by
  show gSrtL (l.map pr) = _
  unfold gSrtL
  rw [tups_cp]
  dsimp only
  rw [if_pos (by simp [hl, okQ_cp hb]), sortQ_cp hb, tD_cp]
theorem g_srtT {l : List (Nat × Nat)} (hl : l.length < 64) (hb : Bq l) : gSrtQ [.tuple (l.map pr)] = some ((st l).map pr) := g_srt hl hb
theorem st_len : ∀ l : List (Nat × Nat), (st l).length = l.length := fun l => by
  have p : ∀ (x : Nat × Nat) (m : List (Nat × Nat)), (insP x m).length = m.length + 1 := fun x m => by
    induction m with
    | nil => rfl
    | cons y r ih =>
      unfold insP
      split <;> simp [ih]
  induction l with
  | nil => rfl
  | cons x r ih =>
    unfold st
    rw [p, ih]
    rfl
theorem uq_len : ∀ l : List (Nat × Nat), (uq l).length ≤ l.length := fun l => by
  have p : ∀ (x : Nat × Nat) (m : List (Nat × Nat)), (insU x m).length ≤ m.length + 1 := fun x m => by
    induction m with
    | nil => simp [insU]
    | cons y r ih =>
      unfold insU
      split
      · simp
      · split
        · simp
        · simp; exact ih
  induction l with
  | nil => simp [uq]
  | cons x r ih =>
    unfold uq
    have := p x (uq r)
    simp
    omega
end K2
set_option Elab.async false
set_option linter.all false
set_option maxRecDepth 100000
namespace K2
open PySem Dl
def rowD (r : List (Nat × Nat)) : PD := .tuple (r.map pr)
def isGrp (k : Nat) : PD → Bool | .tuple ds => decide (ds.length = k) | _ => false
theorem v_is_group (d : PD) (k : Nat) : f_is_group [.im d, .im (.int (k : Int))] = okd (.bool (isGrp k d)) [.im d, .im (.int (k : Int))] := by
  cases d with
  | tuple ds =>
    have : decide ((ds.length : Int) = (k : Int)) = decide (ds.length = k) := by
      by_cases h : ds.length = k
      · subst h; simp
      · have : ¬ (ds.length : Int) = (k : Int) := by omega
        simp [h, this]
    simp [f_is_group, m_is_group, isGrp, isiD, tyD, mrg, this]
  | _ => rfl
def isStr : PD → Bool
  | .tuple [.int a, .int b] => decide (0 ≤ a) && decide (0 ≤ b) && decide (a < b)
  | _ => false
theorem v_group2 (d : PD) : f_is_group [.im d, .im (.int 2)] = okd (.bool (isGrp 2 d)) [.im d, .im (.int 2)] := v_is_group d 2
theorem v_group3 (d : PD) : f_is_group [.im d, .im (.int 3)] = okd (.bool (isGrp 3 d)) [.im d, .im (.int 3)] := v_is_group d 3
theorem v_is_stretch (d : PD) : f_is_stretch [.im d] = okd (.bool (isStr d)) [.im d] := by
  unfold f_is_stretch m_is_stretch
  match d with
  | .tuple [x, y] =>
    cases x with
    | int a =>
      cases y with
      | int b => by_cases h : 0 ≤ a <;> by_cases h2 : 0 ≤ b <;> simp [v_group2, isGrp, Dl.dist, hasO, mrg, v_is_number, isNum, isStr, h, h2]
      | _ => by_cases h : 0 ≤ a <;> simp [v_group2, isGrp, Dl.dist, hasO, mrg, v_is_number, isNum, isStr, h]
    | _ => simp [v_group2, isGrp, Dl.dist, hasO, mrg, v_is_number, isNum, isStr]
  | .tuple [] => simp [v_group2, isGrp, Dl.dist, hasO, mrg, isStr]
  | .tuple [x] => simp [v_group2, isGrp, Dl.dist, hasO, mrg, isStr]
  | .tuple (x :: y :: z :: r) => simp [v_group2, isGrp, Dl.dist, hasO, mrg, isStr]
  | .none => simp [v_group2, isGrp, Dl.dist, hasO, mrg, isStr]
  | .bool _ => simp [v_group2, isGrp, Dl.dist, hasO, mrg, isStr]
  | .int _ => simp [v_group2, isGrp, Dl.dist, hasO, mrg, isStr]
  | .str _ => simp [v_group2, isGrp, Dl.dist, hasO, mrg, isStr]
  | .list _ => simp [v_group2, isGrp, Dl.dist, hasO, mrg, isStr]
  | .dict _ => simp [v_group2, isGrp, Dl.dist, hasO, mrg, isStr]
def ltD : PD → PD → Bool
  | .tuple a, .tuple b => match intsOf a, intsOf b with
    | some ns, some ms => HT.lexLt ns ms
    | _, _ => false
  | _, _ => false
def RowOk (ds : List PD) : Prop := (∀ (k : Nat) d, ds[k]? = some d → isStr d = true) ∧ ∀ (k : Nat) d e, ds[k]? = some d → ds[k + 1]? = some e → ltD d e = true
theorem str_form {d : PD} (h : isStr d = true) : ∃ a b : Int, d = .tuple [.int a, .int b] := by
  unfold isStr at h
  split at h
  · exact ⟨_, _, rfl⟩
  · cases h
theorem lt_str {d e : PD} (h : isStr d = true) (h2 : isStr e = true) : gLtT d e = some (.bool (ltD d e)) := by
  obtain ⟨a, b, rfl⟩ := str_form h
  obtain ⟨a, b, rfl⟩ := str_form h2
  rfl
theorem v_asks_fault (ds : List PD) : (f_asks_fault [.im (.tuple ds)] = okd .none [.im (.tuple ds)] ∧ RowOk ds) ∨ ∃ x, f_asks_fault [.im (.tuple ds)] = okd (.tuple x) [.im (.tuple ds)] ∧ ¬ RowOk ds := by
  unfold f_asks_fault m_asks_fault
  simp [isiD, tyD]
  have key := loop_ret (tg := gT 2 (gsC (gN 1) (gsC (gN 2) gsN))) (b := lp_asks_fault_0) (enumD ds)
    (fun k n => ∃ x y : Sl, Fr x ∧ Fr y ∧ n = [.im (.tuple ds), x, y] ∧ (∀ (j : Nat) d, j < k → ds[j]? = some d → isStr d = true) ∧ ∀ (j : Nat) d e, j + 1 < k → ds[j]? = some d → ds[j + 1]? = some e → ltD d e = true)
    (fun k x n => ∃ (l : List PD) (a b : Sl), x = .d (.tuple l) ∧ n = [.im (.tuple ds), a, b] ∧ ¬ RowOk ds)
    (fun k d n hd ⟨x, y, hx, hy, hn, g1, g2⟩ => by
      obtain ⟨e, he, rfl⟩ := enum_get hd
      subst hn
      refine ⟨[.im (.tuple ds), .im (.int k), .im e], [.im (.tuple ds), .im (.int k), .im e], ?_, ?_⟩
      · simp [hx, hy]
      · by_cases h : isStr e = true
        · cases k with
          | zero =>
            refine .inl ⟨by simp [lp_asks_fault_0, v_is_stretch, h, Dl.dist, hasO], .im (.int 0), .im e, fr_im, fr_im, rfl, fun j d hj hd => ?_, fun j d e hj => by omega⟩
            have : j = 0 := by omega
            subst this
            rw [he] at hd
            cases hd
            exact h
          | succ k =>
            have hk : k < ds.length := by
              have := (List.getElem?_eq_some_iff.mp he).1
              omega
            have hp : ds[k]? = some ds[k] := List.getElem?_eq_getElem hk
            have hs := g1 k ds[k] (by omega) hp
            have l1 := lt_str hs h
            by_cases h2 : ltD ds[k] e = true
            · refine .inl ⟨?_, .im (.int ((k + 1 : Nat) : Int)), .im e, fr_im, fr_im, rfl, fun j d hj hd => ?_, fun j d e' hj hd1 he' => ?_⟩
              · have z : (0 : Int) < ((k + 1 : Nat) : Int) := by omega
                simp only [lp_asks_fault_0, u_seq, u_sif, u_tnot, u_val, u_call, u_cons, u_v, u_nil]
                simp [v_is_stretch, h, Dl.dist, hasO, at_pred, hp, l1, h2, -Int.natCast_add]
              · by_cases q : j = k + 1
                · subst q; rw [he] at hd; cases hd; exact h
                · exact g1 j d (by omega) hd
              · by_cases q : j = k
                · subst q; rw [hp] at hd1; cases hd1; rw [he] at he'; cases he'; exact h2
                · exact g2 j d e' (by omega) hd1 he'
            · refine .inr ⟨.d (.tuple [.str "order", .int ((k + 1 : Nat) : Int)]), ?_, _, _, _, rfl, rfl, fun z => h2 (z.2 k _ _ hp he)⟩
              have h2' : ltD ds[k] e = false := by simpa using h2
              simp only [lp_asks_fault_0, u_seq, u_sif, u_tnot, u_val, u_call, u_cons, u_v, u_nil]
              simp [v_is_stretch, h, Dl.dist, hasO, at_pred, hp, l1, h2', line_ok, ArI, -Int.natCast_add]
        · refine .inr ⟨.d (.tuple [.str "ask", .int (k : Int)]), ?_, _, _, _, rfl, rfl, fun z => h (z.1 k _ he)⟩
          simp [lp_asks_fault_0, v_is_stretch, h, Dl.dist, hasO, line_ok, ArI]) _ ⟨.un, .un, fr_un, fr_un, rfl, fun j d hj => by omega, fun j d e hj => by omega⟩
  rcases key with ⟨n', e, x, y, hx, hy, hn, g1, g2⟩ | ⟨k, x, n', hk, e, l, a, b, hx, hn, g⟩
  · subst hn
    refine .inl ⟨?_, fun k d hd => ?_, fun k d e hd he => ?_⟩
    · rw [e]
      simp [mrg]
    · exact g1 k d (by rw [enum_len]; exact (List.getElem?_eq_some_iff.mp hd).1) hd
    · exact g2 k d e (by rw [enum_len]; exact (List.getElem?_eq_some_iff.mp he).1) hd he
  · subst hn hx
    refine .inr ⟨⟨l, ?_⟩, g⟩
    rw [e]
    simp [mrg]
theorem v_is_asks_t {ds : List PD} (h : RowOk ds) : f_is_asks [.im (.tuple ds)] = okd (.bool true) [.im (.tuple ds)] := by
  rcases v_asks_fault ds with ⟨e, _⟩ | ⟨x, e, g⟩
  · simp [f_is_asks, m_is_asks, e, Dl.dist, hasO, mrg, ArI, gIsN]
  · exact absurd h g
theorem v_is_asks_f {ds : List PD} (h : ¬ RowOk ds) : f_is_asks [.im (.tuple ds)] = okd (.bool false) [.im (.tuple ds)] := by
  rcases v_asks_fault ds with ⟨e, g⟩ | ⟨x, e, g⟩
  · exact absurd g h
  · simp [f_is_asks, m_is_asks, e, Dl.dist, hasO, mrg, ArI, gIsN]
def isTup : PD → Bool | .tuple _ => true | _ => false
theorem v_is_asks_n {d : PD} (h : isTup d = false) : f_is_asks [.im d] = okd (.bool false) [.im d] := by
  have e : f_asks_fault [.im d] = okd (.tuple [.str "shape", .int (-1)]) [.im d] := by
    cases d <;> first | (simp [isTup] at h; done) | simp [f_asks_fault, m_asks_fault, isiD, tyD, ArI, line_ok, mrg]
  simp [f_is_asks, m_is_asks, e, Dl.dist, hasO, mrg, ArI, gIsN]
theorem g_neI {i j : Int} : gEq true (.int i) (.int j) = some (.bool (!decide (i = j))) := by
  rw [g_eq (sh_int _) (sh_int _)]
  simp [PyData.eqv]
  rfl
theorem lex2 {a b c d : Int} : HT.lexLt [a, b] [c, d] = true ↔ a < c ∨ (a = c ∧ b < d) := by
  simp [HT.lexLt]
  by_cases h : a = c
  · simp [h]
    omega
  · simp [h]
theorem leT_2 {a b c d : Int} : leT [a, b] [c, d] = !(HT.lexLt [c, d] [a, b]) := by
  have e1 : leT [a, b] [c, d] = if decide (a = c) = true then (if decide (b = d) = true then true else decide (b ≤ d)) else decide (a ≤ c) := rfl
  have e2 : HT.lexLt [c, d] [a, b] = true ↔ c < a ∨ (c = a ∧ d < b) := lex2
  rw [e1]
  by_cases h : HT.lexLt [c, d] [a, b] = true
  · rw [h]
    have := e2.mp h
    by_cases q : a = c
    · have q2 : ¬ b = d := by omega
      have q3 : ¬ b ≤ d := by omega
      simp [q, q2, q3]
    · have q3 : ¬ a ≤ c := by omega
      simp [q, q3]
  · have z : ¬ (c < a ∨ (c = a ∧ d < b)) := fun w => h (e2.mpr w)
    have h : HT.lexLt [c, d] [a, b] = false := by simpa using h
    rw [h]
    by_cases q : a = c
    · by_cases q2 : b = d
      · simp [q, q2]
      · have q3 : b ≤ d := by omega
        simp [q, q2, q3]
    · have q3 : a ≤ c := by omega
      simp [q, q3]
theorem law_elt_f {x d : PD} {a b : Int} (h : isStr d = false) : lp__law_asks_0 [.im x, .im (.tuple [.int a, .int b]), .im d] = some (.ok (.rt (.d (.bool false)), [.im x, .im (.tuple [.int a, .int b]), .im d])) := by
  unfold lp__law_asks_0
  match d with
  | .tuple [x, y] =>
    cases x with
    | int a =>
      cases y with
      | int b =>
        have q : a < 0 ∨ b ≤ a := by
          simp [isStr] at h
          omega
        by_cases h1 : a < 0
        · simp [Dl.dist, hasO, v_law_int, isInt, isiD, tyD, gLen2, g_neI, h1]
        · have h2 : b ≤ a := by omega
          simp [Dl.dist, hasO, v_law_int, isInt, isiD, tyD, gLen2, g_neI, h1, h2]
      | _ => simp [Dl.dist, hasO, v_law_int, isInt, isiD, tyD, gLen2, g_neI]
    | _ => simp [Dl.dist, hasO, v_law_int, isInt, isiD, tyD, gLen2, g_neI]
  | .tuple [] => simp [Dl.dist, hasO, isiD, tyD, g_neI]
  | .tuple [x] => simp [Dl.dist, hasO, isiD, tyD, gLen1, g_neI]
  | .tuple (x :: y :: z :: r) =>
    have q : ¬ ((r.length : Int) + 1 + 1 + 1 = 2) := by omega
    simp [Dl.dist, hasO, isiD, tyD, g_neI, q]
  | .none => simp [Dl.dist, hasO, isiD, tyD]
  | .bool _ => simp [Dl.dist, hasO, isiD, tyD]
  | .int _ => simp [Dl.dist, hasO, isiD, tyD]
  | .str _ => simp [Dl.dist, hasO, isiD, tyD]
  | .list _ => simp [Dl.dist, hasO, isiD, tyD]
  | .dict _ => simp [Dl.dist, hasO, isiD, tyD]
theorem law_elt_t {x : PD} {a b c d : Int} (h : isStr (.tuple [.int c, .int d]) = true) : lp__law_asks_0 [.im x, .im (.tuple [.int a, .int b]), .im (.tuple [.int c, .int d])] =
    if HT.lexLt [a, b] [c, d] = true then some (.ok (.nx, [.im x, .im (.tuple [.int c, .int d]), .im (.tuple [.int c, .int d])])) else some (.ok (.rt (.d (.bool false)), [.im x, .im (.tuple [.int a, .int b]), .im (.tuple [.int c, .int d])])) := by
  unfold lp__law_asks_0
  have q : 0 ≤ c ∧ c < d := by
    simp [isStr] at h
    omega
  have h1 : ¬ c < 0 := by omega
  have h2 : ¬ d ≤ c := by omega
  have h3 : gLeT (.tuple [.int c, .int d]) (.tuple [.int a, .int b]) = some (.bool (!(HT.lexLt [a, b] [c, d]))) := by
    rw [← leT_2]
    rfl
  cases e : HT.lexLt [a, b] [c, d] <;> rw [e] at h3 <;> simp [Dl.dist, hasO, v_law_int, isInt, isiD, tyD, gLen2, g_neI, h1, h2, h3]
theorem v_law_asks (ds : List PD) : (f__law_asks [.im (.tuple ds)] = okd (.bool true) [.im (.tuple ds)] ∧ RowOk ds) ∨ (f__law_asks [.im (.tuple ds)] = okd (.bool false) [.im (.tuple ds)] ∧ ¬ RowOk ds) := by
  unfold f__law_asks m__law_asks
  have key := loop_ret (tg := gN 2) (b := lp__law_asks_0) ds
    (fun k n => ∃ (a b : Int) (x : Sl), Fr x ∧ n = [.im (.tuple ds), .im (.tuple [.int a, .int b]), x] ∧ (∀ (j : Nat) d, j < k → ds[j]? = some d → isStr d = true) ∧ (∀ (j : Nat) d e, j + 1 < k → ds[j]? = some d → ds[j + 1]? = some e → ltD d e = true) ∧ ((k = 0 ∧ a = -1 ∧ b = -1) ∨ ∃ m, k = m + 1 ∧ ds[m]? = some (.tuple [.int a, .int b])))
    (fun k x n => ∃ (a b : PD), x = .d (.bool false) ∧ n = [.im (.tuple ds), .im a, .im b] ∧ ¬ RowOk ds)
    (fun k d n hd ⟨a, b, x, hx, hn, g1, g2, g3⟩ => by
      subst hn
      have t1 : gN 2 d [.im (.tuple ds), .im (.tuple [.int a, .int b]), x] = some [.im (.tuple ds), .im (.tuple [.int a, .int b]), .im d] := by simp [hx]
      by_cases h : isStr d = true
      · obtain ⟨c, d, rfl⟩ := str_form h
        have e := law_elt_t (x := .tuple ds) (a := a) (b := b) h
        by_cases q : HT.lexLt [a, b] [c, d] = true
        · rw [if_pos q] at e
          refine ⟨_, _, t1, .inl ⟨e, c, d, _, fr_im, rfl, fun j d' hj hd' => ?_, fun j d' e' hj hd' he' => ?_, .inr ⟨k, rfl, hd⟩⟩⟩
          · by_cases z : j = k
            · subst z; rw [hd] at hd'; cases hd'; exact h
            · exact g1 j d' (by omega) hd'
          · by_cases z : j + 1 = k
            · subst z
              rw [hd] at he'
              cases he'
              rcases g3 with ⟨z, _⟩ | ⟨m, hm, z⟩
              · omega
              · have : m = j := by omega
                subst this
                rw [z] at hd'
                cases hd'
                exact q
            · exact g2 j d' e' (by omega) hd' he'
        · rw [if_neg q] at e
          refine ⟨_, _, t1, .inr ⟨_, e, _, _, rfl, rfl, fun z => q ?_⟩⟩
          rcases g3 with ⟨_, rfl, rfl⟩ | ⟨m, rfl, hm⟩
          · simp [isStr] at h
            rw [lex2]
            omega
          · exact z.2 m _ _ hm hd
      · have h2 : isStr d = false := by simpa using h
        exact ⟨_, _, t1, .inr ⟨_, law_elt_f h2, _, _, rfl, rfl, fun z => h (z.1 k d hd)⟩⟩) [.im (.tuple ds), .im (.tuple [.int (-1), .int (-1)]), .un] ⟨-1, -1, _, fr_un, rfl, fun j d hj => by omega, fun j d e hj => by omega, .inl ⟨rfl, rfl, rfl⟩⟩
  rcases key with ⟨n', e, a, b, x, hx, hn, g1, g2, _⟩ | ⟨k, x, n', hk, e, a, b, hx, hn, g⟩
  · subst hn
    refine .inl ⟨?_, fun k d hd => ?_, fun k d e hd he => ?_⟩
    · simp [isiD, tyD, ArI, line_ok, e, mrg]
    · exact g1 k d (List.getElem?_eq_some_iff.mp hd).1 hd
    · exact g2 k d e (List.getElem?_eq_some_iff.mp he).1 hd he
  · subst hn hx
    refine .inr ⟨?_, g⟩
    simp [isiD, tyD, ArI, line_ok, e, mrg]
theorem v_law_asks_n {d : PD} (h : isTup d = false) : f__law_asks [.im d] = okd (.bool false) [.im d] := by
  cases d <;> first | (simp [isTup] at h; done) | simp [f__law_asks, m__law_asks, isiD, tyD, mrg]
theorem str_pr {d : PD} (h : isStr d = true) : ∃ p : Nat × Nat, d = pr p ∧ p.1 < p.2 := by
  obtain ⟨a, b, rfl⟩ := str_form h
  simp [isStr] at h
  exact ⟨(a.toNat, b.toNat), by simp [pr]; omega, by simp; omega⟩
theorem lt_pr {p q : Nat × Nat} : ltD (pr p) (pr q) = plt p q := by
  have e : ltD (pr p) (pr q) = HT.lexLt [(p.1 : Int), (p.2 : Int)] [(q.1 : Int), (q.2 : Int)] := rfl
  rw [e]
  have e2 : HT.lexLt [(p.1 : Int), (p.2 : Int)] [(q.1 : Int), (q.2 : Int)] = true ↔ plt p q = true := by
    rw [plt_iff, lex2]
    omega
  cases h : plt p q
  · rw [h] at e2
    simpa using e2
  · exact e2.mpr h
structure Row (r : List (Nat × Nat)) : Prop where
  w : ∀ p ∈ r, p.1 < p.2
  a : Asc r
theorem asc_of : ∀ {r : List (Nat × Nat)}, (∀ k p q, r[k]? = some p → r[k + 1]? = some q → plt p q = true) → Asc r
  | [], _ => List.Pairwise.nil
  | [p], _ => by simp [Asc]
  | p :: q :: r, h => by
    have ih := asc_of (r := q :: r) fun k a b h1 h2 => h (k + 1) a b h1 h2
    have h0 := h 0 p q rfl rfl
    refine List.pairwise_cons.mpr ⟨fun a ha => ?_, ih⟩
    rcases List.mem_cons.mp ha with rfl | ha
    · exact h0
    · exact plt_tr h0 ((List.pairwise_cons.mp ih).1 a ha)
theorem asc_next {r : List (Nat × Nat)} (h : Asc r) {k l : Nat} (hl : k < l) {p q : Nat × Nat} (h1 : r[k]? = some p) (h2 : r[l]? = some q) : plt p q = true := by
  obtain ⟨k1, rfl⟩ := List.getElem?_eq_some_iff.mp h1
  obtain ⟨k2, rfl⟩ := List.getElem?_eq_some_iff.mp h2
  exact List.pairwise_iff_getElem.mp h k l k1 k2 hl
theorem row_of {ds : List PD} (h : RowOk ds) : ∃ r, ds = r.map pr ∧ Row r := by
  have g : ∀ l : List PD, (∀ d ∈ l, isStr d = true) → ∃ r : List (Nat × Nat), l = r.map pr ∧ ∀ p ∈ r, p.1 < p.2 := fun l => by
    induction l with
    | nil => exact fun _ => ⟨[], rfl, fun p hp => by cases hp⟩
    | cons d t ih =>
      intro h
      obtain ⟨p, rfl, hp⟩ := str_pr (h d (List.mem_cons_self ..))
      obtain ⟨r, rfl, hr⟩ := ih fun d hd => h d (List.mem_cons_of_mem _ hd)
      exact ⟨p :: r, rfl, fun q hq => by
        rcases List.mem_cons.mp hq with rfl | hq
        · exact hp
        · exact hr q hq⟩
  obtain ⟨r, rfl, hr⟩ := g ds fun d hd => by
    obtain ⟨k, hk⟩ := List.getElem?_of_mem hd
    exact h.1 k d hk
  refine ⟨r, rfl, hr, asc_of fun k p q h1 h2 => ?_⟩
  rw [← lt_pr]
  exact h.2 k _ _ (by rw [List.getElem?_map, h1]; rfl) (by rw [List.getElem?_map, h2]; rfl)
theorem rowOk {r : List (Nat × Nat)} (h : Row r) : RowOk (r.map pr) := by
  refine ⟨fun k d hd => ?_, fun k d e h1 h2 => ?_⟩
  · rw [List.getElem?_map] at hd
    obtain ⟨p, hp, rfl⟩ := Option.map_eq_some_iff.mp hd
    have := h.w p (List.mem_of_getElem? hp)
    simp [isStr, pr]
    omega
  · rw [List.getElem?_map] at h1 h2
    obtain ⟨p, hp, rfl⟩ := Option.map_eq_some_iff.mp h1
    obtain ⟨q, hq, rfl⟩ := Option.map_eq_some_iff.mp h2
    rw [lt_pr]
    exact asc_next h.a (by omega) hp hq
theorem str_of {p : Nat × Nat} (h : p.1 < p.2) : isStr (pr p) = true := by
  simp [isStr, pr]
  omega
end K2
set_option Elab.async false
set_option linter.all false
set_option maxRecDepth 100000
namespace K2
open PySem Dl
theorem pr_inj {p q : Nat × Nat} : pr p = pr q ↔ p = q := by
  constructor
  · intro h
    simp [pr] at h
    exact Prod.ext (by omega) (by omega)
  · rintro rfl; rfl
theorem eqv_pr {p q : Nat × Nat} : PyData.eqv (pr p) (pr q) = decide (p = q) := by
  simp [pr, PyData.eqv, PyData.eqvAll]
  obtain ⟨a, b⟩ := p
  obtain ⟨c, d⟩ := q
  by_cases h1 : a = c <;> by_cases h2 : b = d <;> simp [h1, h2] <;> omega
theorem g_nePr {p q : Nat × Nat} : gEq true (pr p) (pr q) = some (.bool (!decide (p = q))) := by
  rw [g_eq (sh_pr _) (sh_pr _), eqv_pr]
  simp
theorem dd_len : ∀ (l out : List (Nat × Nat)), (l.foldl ddS out).length ≤ out.length + l.length
  | [], out => by simp
  | p :: r, out => by
    have h := dd_len r (ddS out p)
    have : (ddS out p).length ≤ out.length + 1 := by
      unfold ddS
      split <;> simp
    simp only [List.foldl_cons, List.length_cons]
    omega
theorem v_line {d : PD} {l : List (Nat × Nat)} (h : gSrtQ [d] = some ((st l).map pr)) (hl : l.length ≤ 1000) : f__law_line [.im d] = okd (rowD (uq l)) [.im d] := by
  unfold f__law_line m__law_line
  have key := loop_idx (tg := gN 2) (b := lp__law_line_0) ((st l).map pr)
    (fun k n => ∃ (out : List (Nat × Nat)) (x : Sl), Fr x ∧ n = [.im d, .ow false (.l (out.map pr)), x] ∧ ((st l).drop k).foldl ddS out = (st l).foldl ddS [] ∧ out.length ≤ k)
    (fun k e n he ⟨out, x, hx, hn, g, gl⟩ => by
      subst hn
      rw [List.getElem?_map] at he
      obtain ⟨p, hp, rfl⟩ := Option.map_eq_some_iff.mp he
      obtain ⟨hk, hp2⟩ := List.getElem?_eq_some_iff.mp hp
      have hk2 : k < l.length := by rw [← st_len l]; exact hk
      rw [List.drop_eq_getElem_cons hk, hp2, List.foldl_cons] at g
      refine ⟨[.im d, .ow false (.l (out.map pr)), .im (pr p)], [.im d, .ow false (.l ((ddS out p).map pr)), .im (pr p)], by simp [hx], ?_, ddS out p, _, fr_im, rfl, g, ?_⟩
      · cases hq : out.getLast? with
        | none =>
          rw [List.getLast?_eq_none_iff] at hq
          subst hq
          simp [lp__law_line_0, ddS, ltl_ok]
        | some o =>
          have h0 : ¬ ((out.length : Int) = 0) := by
            intro z
            have : out = [] := List.eq_nil_of_length_eq_zero (by omega)
            subst this
            cases hq
          have h1 : (out.map pr).getLast? = some (pr o) := by rw [List.getLast?_map, hq]; rfl
          have h00 : ¬ out = [] := fun z => by subst z; cases hq
          by_cases q : o = p
          · subst q
            simp [lp__law_line_0, ddS, hq, h0, h00, at_m1, h1, g_nePr]
          · have q2 : ¬ (out.getLast? = some p) := by rw [hq]; simpa using q
            simp [lp__law_line_0, ddS, hq, h0, h00, at_m1, h1, g_nePr, q, ltl_ok (k := out.length) (by omega)]
      · unfold ddS
        split
        · omega
        · simp
          omega) [.im d, .ow false (.l []), .un] ⟨[], _, fr_un, rfl, by simp, by simp⟩
  obtain ⟨n', e, out, x, hx, hn, g, _⟩ := key
  subst hn
  have hd : (st l).drop ((st l).map pr).length = [] := by simp
  rw [hd, dd_st] at g
  have g : out = uq l := g
  subst g
  simp [h, e, mrg, rowD, line_ok]
theorem enum_pr {l : List PD} : True := trivial
theorem v_asks_of {l : List (Nat × Nat)} (hw : ∀ p ∈ l, p.1 < p.2) (hl : l.length < 64) (hb : Bq l) : f_asks_of [.im (.tuple (l.map pr))] = okd (rowD (uq l)) [.im (.tuple (l.map pr))] := by
  unfold f_asks_of m_asks_of
  have key := loop_idx (tg := gT 2 (gsC (gN 1) (gsC (gN 2) gsN))) (b := lp_asks_of_0) (enumD (l.map pr))
    (fun k n => ∃ (x y : Sl), Fr x ∧ Fr y ∧ n = [.im (.tuple (l.map pr)), x, y])
    (fun k d n hd ⟨x, y, hx, hy, hn⟩ => by
      obtain ⟨e, he, rfl⟩ := enum_get hd
      subst hn
      rw [List.getElem?_map] at he
      obtain ⟨p, hp, rfl⟩ := Option.map_eq_some_iff.mp he
      have hs := str_of (hw p (List.mem_of_getElem? hp))
      refine ⟨[.im (.tuple (l.map pr)), .im (.int k), .im (pr p)], [.im (.tuple (l.map pr)), .im (.int k), .im (pr p)], by simp [hx, hy], ?_, _, _, fr_im, fr_im, rfl⟩
      simp [lp_asks_of_0, v_is_stretch, hs, Dl.dist, hasO]) [.im (.tuple (l.map pr)), .un, .un] ⟨_, _, fr_un, fr_un, rfl⟩
  obtain ⟨n', e, x, y, hx, hy, hn⟩ := key
  subst hn
  simp [e, g_set hl hb, mrg, rowD]
theorem told_w : ∀ {es : List Ev} {f p : Nat}, ∀ q ∈ tolds es f p, q.1 < q.2
  | [], _, _, q, h => by cases h
  | .put n :: r, f, p, q, h => told_w (es := r) q h
  | .drop n :: r, f, p, q, h => told_w (es := r) q h
  | .ask :: r, f, p, q, h => by
    unfold tolds at h
    split at h
    · rcases List.mem_cons.mp h with rfl | h
      · assumption
      · exact told_w (es := r) q h
    · exact told_w (es := r) q h
theorem told_b : ∀ {es : List Ev} {f p : Nat}, ∀ q ∈ tolds es f p, q.2 ≤ p + psum es
  | [], _, _, q, h => by cases h
  | .put n :: r, f, p, q, h => by
    have := told_b (es := r) q h
    simp only [psum]
    omega
  | .drop n :: r, f, p, q, h => told_b (es := r) q h
  | .ask :: r, f, p, q, h => by
    unfold tolds at h
    split at h
    · rcases List.mem_cons.mp h with rfl | h
      · simp only [psum]
        omega
      · exact told_b (es := r) q h
    · exact told_b (es := r) q h
theorem told_len : ∀ (es : List Ev) (f p : Nat), (tolds es f p).length ≤ es.length
  | [], _, _ => by simp [tolds]
  | .put n :: r, f, p => by have := told_len r f (p + n); simp only [tolds, List.length_cons]; omega
  | .drop n :: r, f, p => by have := told_len r (f + n) p; simp only [tolds, List.length_cons]; omega
  | .ask :: r, f, p => by
    have := told_len r f p
    unfold tolds
    split <;> simp only [List.length_cons] <;> omega
def Mono (l : List (Nat × Nat)) : Prop := l.Pairwise fun p q => p.1 ≤ q.1 ∧ p.2 ≤ q.2
theorem told_mono : ∀ {es : List Ev} {f p : Nat}, Mono (tolds es f p) ∧ ∀ q ∈ tolds es f p, f ≤ q.1 ∧ p ≤ q.2
  | [], _, _ => ⟨List.Pairwise.nil, fun q h => by cases h⟩
  | .put n :: r, f, p => by
    obtain ⟨h1, h2⟩ := told_mono (es := r) (f := f) (p := p + n)
    exact ⟨h1, fun q hq => by have := h2 q hq; omega⟩
  | .drop n :: r, f, p => by
    obtain ⟨h1, h2⟩ := told_mono (es := r) (f := f + n) (p := p)
    exact ⟨h1, fun q hq => by have := h2 q hq; omega⟩
  | .ask :: r, f, p => by
    obtain ⟨h1, h2⟩ := told_mono (es := r) (f := f) (p := p)
    unfold tolds
    split
    · refine ⟨List.pairwise_cons.mpr ⟨fun q hq => h2 q hq, h1⟩, fun q hq => ?_⟩
      rcases List.mem_cons.mp hq with rfl | hq
      · exact ⟨Nat.le_refl _, Nat.le_refl _⟩
      · exact h2 q hq
    · exact ⟨h1, h2⟩
theorem told_bq {es : List Ev} (hp : psum es ≤ 1000) : Bq (tolds es 0 0) := fun q hq => by
  have := told_b q hq
  have := told_w q hq
  omega
theorem asks_loop {ds : List PD} {es : List Ev} (hp : psum es ≤ 1000) (hl : es.length ≤ 1000) :
    ∃ (a b : PD) (x : Sl), Fr x ∧ loopF (gN 4) lp_asks_by_0 (es.map evD) [.im (.tuple ds), .im (.int 0), .im (.int 0), .ow false (.l []), .un] = some (.ok (.nx, [.im (.tuple ds), .im a, .im b, .ow false (.l ((tolds es 0 0).map pr)), x])) := by
  have key := loop_idx (tg := gN 4) (b := lp_asks_by_0) (es.map evD)
    (fun k n => ∃ (f p : Nat) (out : List (Nat × Nat)) (x : Sl), Fr x ∧ n = [.im (.tuple ds), .im (nm f), .im (nm p), .ow false (.l (out.map pr)), x] ∧ out ++ tolds (es.drop k) f p = tolds es 0 0 ∧ out.length ≤ k)
    (fun k d n hd ⟨f, p, out, x, hx, hn, g2, g4⟩ => by
      subst hn
      rw [List.getElem?_map] at hd
      obtain ⟨e, he, rfl⟩ := Option.map_eq_some_iff.mp hd
      have hk := (List.getElem?_eq_some_iff.mp he).1
      rw [(told_step he).1] at g2
      have t1 : gN 4 (evD e) [.im (.tuple ds), .im (nm f), .im (nm p), .ow false (.l (out.map pr)), x] = some [.im (.tuple ds), .im (nm f), .im (nm p), .ow false (.l (out.map pr)), .im (evD e)] := by simp [hx]
      match e, t1, g2 with
      | .put m, t1, g2 =>
        refine ⟨_, [.im (.tuple ds), .im (nm f), .im (nm (p + m)), .ow false (.l (out.map pr)), .im (evD (.put m))], t1, ?_, f, p + m, out, _, fr_im, rfl, g2, by omega⟩
        have hh : evD (.put m) = .tuple [.str "put", nm m] := rfl
        rw [hh]
        simp [lp_asks_by_0]
      | .drop m, t1, g2 =>
        refine ⟨_, [.im (.tuple ds), .im (nm (f + m)), .im (nm p), .ow false (.l (out.map pr)), .im (evD (.drop m))], t1, ?_, f + m, p, out, _, fr_im, rfl, g2, by omega⟩
        have hh : evD (.drop m) = .tuple [.str "drop", nm m] := rfl
        rw [hh]
        simp [lp_asks_by_0]
      | .ask, t1, g2 =>
        have hh : evD .ask = .tuple [.str "ask"] := rfl
        by_cases q : f < p
        · refine ⟨_, [.im (.tuple ds), .im (nm f), .im (nm p), .ow false (.l ((out ++ [(f, p)]).map pr)), .im (evD .ask)], t1, ?_, f, p, out ++ [(f, p)], _, fr_im, rfl, ?_, by simp; omega⟩
          · rw [hh]
            simp [lp_asks_by_0, q, line_ok, ArI, ltl_ok (k := out.length) (by omega), pr]
          · simp only [tolds, if_pos q] at g2
            rw [List.append_assoc]
            exact g2
        · refine ⟨_, [.im (.tuple ds), .im (nm f), .im (nm p), .ow false (.l (out.map pr)), .im (evD .ask)], t1, ?_, f, p, out, _, fr_im, rfl, ?_, by omega⟩
          · rw [hh]
            simp [lp_asks_by_0, q]
          · simp only [tolds, if_neg q] at g2
            exact g2) [.im (.tuple ds), .im (.int 0), .im (.int 0), .ow false (.l []), .un] ⟨0, 0, [], _, fr_un, rfl, by simp, by simp⟩
  obtain ⟨n', e, f, p, out, x, hx, hn, g2, g4⟩ := key
  subst hn
  have hl2 : es.drop (es.map evD).length = [] := by simp
  rw [hl2] at g2
  have g2 : out = tolds es 0 0 := by simpa [tolds] using g2
  subst g2
  exact ⟨_, _, x, hx, e⟩
theorem v_asks_by {es : List Ev} {j : Nat} (ho : ∀ e ∈ es, e.ok) (h : hist (es.map some) 0 0 = .ok j) (hp : psum es ≤ 1000) (hl : es.length ≤ 1000) (hl2 : (tolds es 0 0).length < 64) :
    f_asks_by [.im (.tuple (es.map evD))] = okd (rowD (uq (tolds es 0 0))) [.im (.tuple (es.map evD))] := by
  unfold f_asks_by m_asks_by
  have hh := v_is_history (cls_of ho)
  rw [h] at hh
  obtain ⟨a, b, x, hx, e⟩ := asks_loop (ds := es.map evD) hp hl
  have hn := v_need_t "history"
  have ha := v_asks_of (l := tolds es 0 0) (fun q hq => told_w q hq) hl2 (told_bq hp)
  have hl3 : lineB (tolds es 0 0).length = true := line_ok (by omega)
  simp [hh, Hr.isOk, Dl.dist, hasO, hn, e, ha, hl3, mrg, line_ok]
theorem v_asks_by_f {ds : List PD} {os : List (Option Ev)} {w : Str} {k : Nat} (h : Cls ds os) (e : hist os 0 0 = .bad w k) : f_asks_by [.im (.tuple ds)] = some (.error (nuE "history", [.im (.tuple ds), .un, .un, .un, .un])) := by
  unfold f_asks_by m_asks_by
  have hh := v_is_history h
  rw [e] at hh
  have hn := v_need_f "history"
  simp [hh, Hr.isOk, Dl.dist, hasO, hn]
theorem v_asks_by_n {d : PD} (h : isiD "tuple" d = false) : f_asks_by [.im d] = some (.error (nuE "history", [.im d, .un, .un, .un, .un])) := by
  unfold f_asks_by m_asks_by
  have hn := v_need_f "history"
  simp [v_is_history_n h, Dl.dist, hasO, hn]
end K2
set_option Elab.async false
set_option linter.all false
set_option maxRecDepth 100000
namespace K2
open PySem Dl
def Qu (r : List (Nat × Nat)) : Bool := (r.zip r.tail).all fun z => decide (z.1.2 ≤ z.2.2)
def crs : List (Nat × Nat) → Option ((Nat × Nat) × (Nat × Nat))
  | [] => none
  | p :: r => match r.find? (fun q => decide (q.2 < p.2)) with
    | some q => some (p, q)
    | none => crs r
theorem qu_crs : ∀ {r : List (Nat × Nat)}, Qu r = (crs r).isNone ∧ (Qu r = true → ∀ p ∈ r.head?, ∀ q ∈ r, p.2 ≤ q.2)
  | [] => ⟨rfl, fun _ p hp => by cases hp⟩
  | [p] => ⟨rfl, fun _ q hq a ha => by
      have hq : q = p := by simpa using hq.symm
      have ha : a = p := by simpa using ha
      rw [hq, ha]
      exact Nat.le_refl _⟩
  | p :: q :: r => by
    obtain ⟨ih, ih2⟩ := qu_crs (r := q :: r)
    have e : Qu (p :: q :: r) = (decide (p.2 ≤ q.2) && Qu (q :: r)) := by simp [Qu]
    by_cases h : p.2 ≤ q.2
    · by_cases h2 : Qu (q :: r) = true
      · have all : ∀ a ∈ q :: r, p.2 ≤ a.2 := fun a ha => Nat.le_trans h (ih2 h2 q rfl a ha)
        have f : (q :: r).find? (fun q => decide (q.2 < p.2)) = none := by
          rw [List.find?_eq_none]
          intro a ha
          have := all a ha
          simp
          omega
        refine ⟨?_, fun _ a ha b hb => ?_⟩
        · rw [e]
          unfold crs
          rw [f]
          dsimp only
          rw [← ih, h2]
          simp [h]
        · have ha : a = p := by simpa using ha.symm
          subst ha
          rcases List.mem_cons.mp hb with rfl | hb
          · exact Nat.le_refl _
          · exact all b hb
      · have h2 : Qu (q :: r) = false := by simpa using h2
        refine ⟨?_, fun z => by rw [e, h2] at z; simp at z⟩
        rw [e, h2]
        unfold crs
        split
        · simp
        · rw [← ih, h2]
          simp
    · refine ⟨?_, fun z => by rw [e] at z; simp [h] at z⟩
      rw [e]
      unfold crs
      have f : ∃ a, (q :: r).find? (fun q => decide (q.2 < p.2)) = some a := ⟨q, by rw [List.find?_cons_of_pos (by simp; omega)]⟩
      obtain ⟨a, f⟩ := f
      rw [f]
      simp [h]
theorem zip_pr {r : List (Nat × Nat)} : zipD (r.map pr) (r.map pr).tail = ((r.zip r.tail).map fun z => (pr z.1, pr z.2)).map fun p => .tuple [p.1, p.2] := by
  rw [zipD_eq, ← List.map_tail, List.zip_map]
  rfl
theorem crs_cons {p : Nat × Nat} {r : List (Nat × Nat)} : crs (p :: r) = match r.find? (fun q => decide (q.2 < p.2)) with
    | some q => some (p, q)
    | none => crs r := (rfl)
theorem v_is_queue {r : List (Nat × Nat)} (h : Row r) (hl : r.length ≤ 1000) : f_is_queue [.im (rowD r)] = okd (.bool (Qu r)) [.im (rowD r)] := by
  unfold f_is_queue m_is_queue rowD
  have hc : cutD (r.map pr) (some (1 : Int)) none = (r.map pr).tail := by
    rw [← List.drop_one]
    exact cut_from (k := 1)
  have c := comp_zip (fe := (eBin gLe (eBin gIx (eV 1) (eC (.int 1))) (eBin gIx (eV 2) (eC (.int 1))))) (G := fun a b => match a, b with | .tuple [_, .int x], .tuple [_, .int y] => .bool (decide (x ≤ y)) | _, _ => .none) (i := 1) (j := 2)
    (n := [.im (.tuple (r.map pr)), .un, .un]) (ps := (r.zip r.tail).map fun z => (pr z.1, pr z.2)) (by decide) rfl rfl (by simp; omega) (fun d e hde => by
      obtain ⟨z, hz, e⟩ := List.mem_map.mp hde
      cases e
      simp [pr])
  have a := g_all (h := fun z : (Nat × Nat) × (Nat × Nat) => decide (z.1.2 ≤ z.2.2)) (l := r.zip r.tail)
  have e : (List.map (fun p : PD × PD => (match p.1, p.2 with | .tuple [_, .int x], .tuple [_, .int y] => PyData.bool (decide (x ≤ y)) | _, _ => PyData.none)) ((r.zip r.tail).map fun z => (pr z.1, pr z.2))) = (r.zip r.tail).map fun z => PyData.bool (decide (z.1.2 ≤ z.2.2)) := by
    rw [List.map_map]
    apply List.map_congr_left
    intro z _
    simp [pr]
  rw [← zip_pr] at c
  rw [e] at c
  simp [v_is_asks_t (rowOk h), Dl.dist, hasO, hc, c, a, mrg, Qu]
theorem v_is_queue_f {ds : List PD} (h : ¬ RowOk ds) : f_is_queue [.im (.tuple ds)] = okd (.bool false) [.im (.tuple ds)] := by
  unfold f_is_queue m_is_queue
  simp [v_is_asks_f h, Dl.dist, hasO, mrg]
theorem v_is_queue_n {d : PD} (h : isTup d = false) : f_is_queue [.im d] = okd (.bool false) [.im d] := by
  unfold f_is_queue m_is_queue
  simp [v_is_asks_n h, Dl.dist, hasO, mrg]
def crD : Option ((Nat × Nat) × (Nat × Nat)) → PD
  | none => .none
  | some (p, q) => .tuple [pr p, pr q]
theorem inner_c {d a : PD} {p : Nat × Nat} : ∀ (l : List (Nat × Nat)) (x : Sl), Fr x → ∃ y, Fr y ∧ loopF (gN 3) lp_crossed_asks_0 (l.map pr) [.im d, .im a, .im (pr p), x] = match l.find? (fun q => decide (q.2 < p.2)) with
    | some q => some (.ok (.rt (.d (.tuple [pr p, pr q])), [.im d, .im a, .im (pr p), y]))
    | none => some (.ok (.nx, [.im d, .im a, .im (pr p), y]))
  | [], x, hx => ⟨x, hx, rfl⟩
  | q :: r, x, hx => by
    have t1 : gN 3 (pr q) [.im d, .im a, .im (pr p), x] = some [.im d, .im a, .im (pr p), .im (pr q)] := by simp [hx]
    rw [List.map_cons]
    unfold loopF
    rw [t1]
    dsimp only
    by_cases h : q.2 < p.2
    · have e : lp_crossed_asks_0 [.im d, .im a, .im (pr p), .im (pr q)] = some (.ok (.rt (.d (.tuple [pr p, pr q])), [.im d, .im a, .im (pr p), .im (pr q)])) := by
        have h2 : (q.2 : Int) < (p.2 : Int) := by omega
        simp [lp_crossed_asks_0, pr, h2, h, line_ok, ArI]
      rw [e, List.find?_cons_of_pos (by simpa using h)]
      exact ⟨_, fr_im, rfl⟩
    · have e : lp_crossed_asks_0 [.im d, .im a, .im (pr p), .im (pr q)] = some (.ok (.nx, [.im d, .im a, .im (pr p), .im (pr q)])) := by
        have h2 : ¬ (q.2 : Int) < (p.2 : Int) := by omega
        simp [lp_crossed_asks_0, pr, h2, h]
      rw [e, List.find?_cons_of_neg (by simpa using h)]
      exact inner_c r _ fr_im
theorem crs_step {r : List (Nat × Nat)} {k : Nat} {p : Nat × Nat} (h : r[k]? = some p) : crs (r.drop k) = crs (p :: r.drop (k + 1)) := by
  obtain ⟨hk, e⟩ := List.getElem?_eq_some_iff.mp h
  rw [List.drop_eq_getElem_cons hk, e]
theorem cut_next {ds : List PD} {k : Nat} : cutD ds (some ((k : Int) + 1)) none = ds.drop (k + 1) := cut_from (k := k + 1)
theorem v_crossed (r : List (Nat × Nat)) : f_crossed_asks [.im (rowD r)] = okd (crD (crs r)) [.im (rowD r)] := by
  unfold f_crossed_asks m_crossed_asks rowD
  have key := loop_ret (tg := gT 2 (gsC (gN 1) (gsC (gN 2) gsN))) (b := lp_crossed_asks_1) (enumD (r.map pr))
    (fun k n => ∃ (x y z : Sl), Fr x ∧ Fr y ∧ Fr z ∧ n = [.im (.tuple (r.map pr)), x, y, z] ∧ crs (r.drop k) = crs r)
    (fun k x n => ∃ (a b c : Sl), x = .d (crD (crs r)) ∧ n = [.im (.tuple (r.map pr)), a, b, c])
    (fun k d n hd ⟨x, y, z, hx, hy, hz, hn, g⟩ => by
      obtain ⟨e, he, rfl⟩ := enum_get hd
      subst hn
      rw [List.getElem?_map] at he
      obtain ⟨p, hp, rfl⟩ := Option.map_eq_some_iff.mp he
      rw [crs_step hp] at g
      obtain ⟨w, hw, e⟩ := inner_c (d := .tuple (r.map pr)) (a := .int (k : Int)) (p := p) (r.drop (k + 1)) z hz
      refine ⟨[.im (.tuple (r.map pr)), .im (.int k), .im (pr p), z], [.im (.tuple (r.map pr)), .im (.int k), .im (pr p), w], by simp [hx, hy], ?_⟩
      have e0 : lp_crossed_asks_1 [.im (.tuple (r.map pr)), .im (.int k), .im (pr p), z] = loopF (gN 3) lp_crossed_asks_0 ((r.drop (k + 1)).map pr) [.im (.tuple (r.map pr)), .im (.int k), .im (pr p), z] := by
        simp [lp_crossed_asks_1, cut_next, List.map_drop]
      rw [e0, e]
      rw [crs_cons] at g
      cases f : (r.drop (k + 1)).find? (fun q => decide (q.2 < p.2)) with
      | none =>
        rw [f] at g
        exact .inl ⟨rfl, _, _, _, fr_im, fr_im, hw, rfl, g⟩
      | some q =>
        rw [f] at g
        exact .inr ⟨_, rfl, _, _, _, by rw [← g]; rfl, rfl⟩) [.im (.tuple (r.map pr)), .un, .un, .un] ⟨_, _, _, fr_un, fr_un, fr_un, rfl, by simp⟩
  rcases key with ⟨n', e, x, y, z, _, _, _, hn, g⟩ | ⟨k, x, n', _, e, a, b, c, rfl, hn⟩
  · subst hn
    have hd : r.drop (enumD (r.map pr)).length = [] := by rw [enum_len]; simp
    rw [hd] at g
    simp [e, mrg, ← g, crs, crD]
  · subst hn
    simp [e, mrg]
theorem inner_f {r : List (Nat × Nat)} {k : Nat} {p : Nat × Nat} (hp : r[k]? = some p) : ∀ (l : List (Nat × Nat)) (x : Sl), (∀ q ∈ l, plt p q = true) → Fr x → ∃ y, Fr y ∧ loopF (gN 2) lp__law_fault_0 (l.map pr) [.im (.tuple (r.map pr)), .im (nm k), x] = match l.find? (fun q => decide (q.2 < p.2)) with
    | some q => some (.ok (.rt (.d (.tuple [pr p, pr q])), [.im (.tuple (r.map pr)), .im (nm k), y]))
    | none => some (.ok (.nx, [.im (.tuple (r.map pr)), .im (nm k), y]))
  | [], x, _, hx => ⟨x, hx, rfl⟩
  | q :: l, x, ha, hx => by
    have t1 : gN 2 (pr q) [.im (.tuple (r.map pr)), .im (nm k), x] = some [.im (.tuple (r.map pr)), .im (nm k), .im (pr q)] := by simp [hx]
    have hp1 : (r.map pr)[k]? = some (.tuple [.int (p.1 : Int), .int (p.2 : Int)]) := by rw [List.getElem?_map, hp]; rfl
    have hpq := plt_iff.mp (ha q (List.mem_cons_self ..))
    rw [List.map_cons]
    unfold loopF
    rw [t1]
    dsimp only
    by_cases h : q.2 < p.2
    · have e : lp__law_fault_0 [.im (.tuple (r.map pr)), .im (nm k), .im (pr q)] = some (.ok (.rt (.d (.tuple [pr p, pr q])), [.im (.tuple (r.map pr)), .im (nm k), .im (pr q)])) := by
        have h1 : p.1 < q.1 := by omega
        simp [lp__law_fault_0, at_k, hp1, hp, pr, h1, h, line_ok, ArI]
      rw [e, List.find?_cons_of_pos (by simpa using h)]
      exact ⟨_, fr_im, rfl⟩
    · have e : lp__law_fault_0 [.im (.tuple (r.map pr)), .im (nm k), .im (pr q)] = some (.ok (.nx, [.im (.tuple (r.map pr)), .im (nm k), .im (pr q)])) := by
        by_cases h1 : p.1 < q.1 <;> simp [lp__law_fault_0, at_k, hp1, hp, pr, h1, h]
      rw [e, List.find?_cons_of_neg (by simpa using h)]
      exact inner_f hp l _ (fun a hb => ha a (List.mem_cons_of_mem _ hb)) fr_im
theorem v_law_fault {r : List (Nat × Nat)} (h : Row r) (hl : r.length ≤ 1000) : f__law_fault [.im (rowD r)] = okd (crD (crs r)) [.im (rowD r)] := by
  unfold f__law_fault m__law_fault rowD
  have key := loop_ret (tg := gN 1) (b := lp__law_fault_1) (rngD 0 r.length)
    (fun k n => ∃ (x z : Sl), Fr x ∧ Fr z ∧ n = [.im (.tuple (r.map pr)), x, z] ∧ crs (r.drop k) = crs r)
    (fun k x n => ∃ (a b : Sl), x = .d (crD (crs r)) ∧ n = [.im (.tuple (r.map pr)), a, b])
    (fun k d n hd ⟨x, z, hx, hz, hn, g⟩ => by
      obtain ⟨hk, rfl⟩ := rng_get hd
      rw [Int.zero_add]
      subst hn
      have hp : r[k]? = some r[k] := List.getElem?_eq_getElem hk
      generalize r[k] = p at hp
      rw [crs_step hp] at g
      obtain ⟨w, hw, e⟩ := inner_f hp (r.drop (k + 1)) z (fun q hq => by
        obtain ⟨i, hi⟩ := List.getElem?_of_mem hq
        rw [List.getElem?_drop] at hi
        exact asc_next h.a (by omega) hp hi) hz
      refine ⟨[.im (.tuple (r.map pr)), .im (.int k), z], [.im (.tuple (r.map pr)), .im (.int k), w], by simp [hx], ?_⟩
      have e0 : lp__law_fault_1 [.im (.tuple (r.map pr)), .im (.int k), z] = loopF (gN 2) lp__law_fault_0 ((r.drop (k + 1)).map pr) [.im (.tuple (r.map pr)), .im (.int k), z] := by
        simp [lp__law_fault_1, cut_next, List.map_drop]
      rw [e0, e]
      rw [crs_cons] at g
      cases f : (r.drop (k + 1)).find? (fun q => decide (q.2 < p.2)) with
      | none =>
        rw [f] at g
        exact .inl ⟨rfl, _, _, fr_im, hw, rfl, g⟩
      | some q =>
        rw [f] at g
        exact .inr ⟨_, rfl, _, _, by rw [← g]; rfl, rfl⟩) [.im (.tuple (r.map pr)), .un, .un] ⟨_, _, fr_un, fr_un, rfl, by simp⟩
  have hr := u_rng1 (k := r.length) (n := [.im (.tuple (r.map pr)), .un, .un]) (by omega)
  rcases key with ⟨n', e, x, z, _, _, hn, g⟩ | ⟨k, x, n', _, e, a, b, rfl, hn⟩
  · subst hn
    have hd : r.drop (rngD 0 r.length).length = [] := by rw [rng_len]; simp
    rw [hd] at g
    simp [hr, e, mrg, ← g, crs, crD]
  · subst hn
    simp [hr, e, mrg]
end K2
set_option Elab.async false
set_option linter.all false
set_option maxRecDepth 100000
namespace K2
open PySem Dl
@[simp] theorem w_lets_history_lets_history : gEq false (.str "lets_history") (.str "lets_history") = some (.bool true) := by with_unfolding_all rfl
@[simp] theorem w_lets_history_asks_by : gEq false (.str "lets_history") (.str "asks_by") = some (.bool false) := by with_unfolding_all rfl
@[simp] theorem w_lets_history_history_by : gEq false (.str "lets_history") (.str "history_by") = some (.bool false) := by with_unfolding_all rfl
@[simp] theorem w_lets_history_steady_asks : gEq false (.str "lets_history") (.str "steady_asks") = some (.bool false) := by with_unfolding_all rfl
@[simp] theorem w_lets_history_calendar_asks : gEq false (.str "lets_history") (.str "calendar_asks") = some (.bool false) := by with_unfolding_all rfl
@[simp] theorem w_asks_by_lets_history : gEq false (.str "asks_by") (.str "lets_history") = some (.bool false) := by with_unfolding_all rfl
@[simp] theorem w_asks_by_asks_by : gEq false (.str "asks_by") (.str "asks_by") = some (.bool true) := by with_unfolding_all rfl
@[simp] theorem w_asks_by_history_by : gEq false (.str "asks_by") (.str "history_by") = some (.bool false) := by with_unfolding_all rfl
@[simp] theorem w_asks_by_steady_asks : gEq false (.str "asks_by") (.str "steady_asks") = some (.bool false) := by with_unfolding_all rfl
@[simp] theorem w_asks_by_calendar_asks : gEq false (.str "asks_by") (.str "calendar_asks") = some (.bool false) := by with_unfolding_all rfl
@[simp] theorem w_history_by_lets_history : gEq false (.str "history_by") (.str "lets_history") = some (.bool false) := by with_unfolding_all rfl
@[simp] theorem w_history_by_asks_by : gEq false (.str "history_by") (.str "asks_by") = some (.bool false) := by with_unfolding_all rfl
@[simp] theorem w_history_by_history_by : gEq false (.str "history_by") (.str "history_by") = some (.bool true) := by with_unfolding_all rfl
@[simp] theorem w_history_by_steady_asks : gEq false (.str "history_by") (.str "steady_asks") = some (.bool false) := by with_unfolding_all rfl
@[simp] theorem w_history_by_calendar_asks : gEq false (.str "history_by") (.str "calendar_asks") = some (.bool false) := by with_unfolding_all rfl
@[simp] theorem w_steady_asks_lets_history : gEq false (.str "steady_asks") (.str "lets_history") = some (.bool false) := by with_unfolding_all rfl
@[simp] theorem w_steady_asks_asks_by : gEq false (.str "steady_asks") (.str "asks_by") = some (.bool false) := by with_unfolding_all rfl
@[simp] theorem w_steady_asks_history_by : gEq false (.str "steady_asks") (.str "history_by") = some (.bool false) := by with_unfolding_all rfl
@[simp] theorem w_steady_asks_steady_asks : gEq false (.str "steady_asks") (.str "steady_asks") = some (.bool true) := by with_unfolding_all rfl
@[simp] theorem w_steady_asks_calendar_asks : gEq false (.str "steady_asks") (.str "calendar_asks") = some (.bool false) := by with_unfolding_all rfl
@[simp] theorem w_calendar_asks_lets_history : gEq false (.str "calendar_asks") (.str "lets_history") = some (.bool false) := by with_unfolding_all rfl
@[simp] theorem w_calendar_asks_asks_by : gEq false (.str "calendar_asks") (.str "asks_by") = some (.bool false) := by with_unfolding_all rfl
@[simp] theorem w_calendar_asks_history_by : gEq false (.str "calendar_asks") (.str "history_by") = some (.bool false) := by with_unfolding_all rfl
@[simp] theorem w_calendar_asks_steady_asks : gEq false (.str "calendar_asks") (.str "steady_asks") = some (.bool false) := by with_unfolding_all rfl
@[simp] theorem w_calendar_asks_calendar_asks : gEq false (.str "calendar_asks") (.str "calendar_asks") = some (.bool true) := by with_unfolding_all rfl
@[simp] theorem w_timed_asks_lets_history : gEq false (.str "timed_asks") (.str "lets_history") = some (.bool false) := by with_unfolding_all rfl
@[simp] theorem w_timed_asks_asks_by : gEq false (.str "timed_asks") (.str "asks_by") = some (.bool false) := by with_unfolding_all rfl
@[simp] theorem w_timed_asks_history_by : gEq false (.str "timed_asks") (.str "history_by") = some (.bool false) := by with_unfolding_all rfl
@[simp] theorem w_timed_asks_steady_asks : gEq false (.str "timed_asks") (.str "steady_asks") = some (.bool false) := by with_unfolding_all rfl
@[simp] theorem w_timed_asks_calendar_asks : gEq false (.str "timed_asks") (.str "calendar_asks") = some (.bool false) := by with_unfolding_all rfl
def tryX (i : Nat) (n1 : Nv) (o : Option PD) : RS := match o with
  | some x => some (.ok (.rt (.d x), n1.set i .un))
  | none => none
def tryL (i : Nat) (n1 : Nv) (o : Option (List (Str × PD) → Option PD)) (fs : List (Str × PD)) : RS := match o with
  | some g => tryX i n1 (g fs)
  | none => none
def tryK (i : Nat) (hs : List (Str × (List (Str × PD) → Option PD))) (r : RS) : RS := match r with
  | some (.error (e, n1)) => if (noOw n1 && decide (i < n1.length)) = true then tryL i n1 (hs.lookup e.nm) e.fs else none
  | r => r
@[simp] theorem u_try {i : Nat} {hs : List (Str × (List (Str × PD) → Option PD))} {fb : Nv → RS} {s : Sl} {n : Nv} : sTryM i hs fb (s :: n) = tryK i hs (fb (s :: n)) := by
  unfold sTryM tryK
  cases fb (s :: n) with
  | none => rfl
  | some r =>
    cases r with
    | ok r => rfl
    | error e =>
      obtain ⟨e, n1⟩ := e
      dsimp only
      split
      · unfold tryL
        cases hs.lookup e.nm with
        | none => rfl
        | some g =>
          dsimp only
          unfold tryX
          cases g e.fs <;> rfl
      · rfl
@[simp] theorem u_tryK {i : Nat} {hs : List (Str × (List (Str × PD) → Option PD))} {r : Oc × Nv} : tryK i hs (some (.ok r)) = some (.ok r) := (rfl)
@[simp] theorem u_tryE {i : Nat} {hs : List (Str × (List (Str × PD) → Option PD))} {e : Er} {n1 : Nv} : tryK i hs (some (.error (e, n1))) = if (noOw n1 && decide (i < n1.length)) = true then tryL i n1 (hs.lookup e.nm) e.fs else none := (rfl)
@[simp] theorem u_tryL {i : Nat} {n1 : Nv} {g : List (Str × PD) → Option PD} {fs : List (Str × PD)} : tryL i n1 (some g) fs = tryX i n1 (g fs) := (rfl)
@[simp] theorem u_tryX {i : Nat} {n1 : Nv} {x : PD} : tryX i n1 (some x) = some (.ok (.rt (.d x), n1.set i .un)) := (rfl)
section
variable {α : Type} {g : α} {r : List (Str × α)}
theorem lk_ne {a b : Str} (h : (a == b) = false) : List.lookup a ((b, g) :: r) = List.lookup a r := by
  rw [List.lookup_cons, h]
@[simp] theorem lk1 : List.lookup ("OutOfOrder" : Str) (("NotUsable", g) :: r) = List.lookup ("OutOfOrder" : Str) r := lk_ne (by decide +kernel)
@[simp] theorem lk2 : List.lookup ("InvalidPaper" : Str) (("NotUsable", g) :: r) = List.lookup ("InvalidPaper" : Str) r := lk_ne (by decide +kernel)
@[simp] theorem lk3 : List.lookup ("InvalidPaper" : Str) (("OutOfOrder", g) :: r) = List.lookup ("InvalidPaper" : Str) r := lk_ne (by decide +kernel)
@[simp] theorem lk4 : List.lookup ("word" : Str) (("at", g) :: r) = List.lookup ("word" : Str) r := lk_ne (by decide +kernel)
@[simp] theorem lk5 : List.lookup ("one" : Str) (("other", g) :: r) = List.lookup ("one" : Str) r := lk_ne (by decide +kernel)
end
def ooE (x y : PD) : Er := ⟨"OutOfOrder", [("other", y), ("one", x)]⟩
def noD (z : Str) : PD := .tuple [.str "no", .str z, .int (-1), .bool true]
section
variable {a b c r : PD} {n : Nv}
theorem call_lets (h : f_lets_history [.im a] = okd r [.im a]) : f__law_call [.im (.str "lets_history"), .im a, .im b, .im c] = okd (.tuple [.str "ok", r]) [.im (.str "lets_history"), .im a, .im b, .im c] := by
  unfold f__law_call m__law_call
  simp [h, Dl.dist, hasO, line_ok, ArI, mrg]
theorem call_lets_e {w k : PD} (h : f_lets_history [.im a] = some (.error (ipE w k, n))) : f__law_call [.im (.str "lets_history"), .im a, .im b, .im c] = okd (.tuple [.str "paper", w, k, .bool true]) [.im (.str "lets_history"), .im a, .im b, .im c] := by
  unfold f__law_call m__law_call
  simp [h, Dl.dist, hasO, line_ok, ArI, mrg, ipE, noOw, gUT, gUC]
theorem call_asks (h : f_asks_by [.im a] = okd r [.im a]) : f__law_call [.im (.str "asks_by"), .im a, .im b, .im c] = okd (.tuple [.str "ok", r]) [.im (.str "asks_by"), .im a, .im b, .im c] := by
  unfold f__law_call m__law_call
  simp [h, Dl.dist, hasO, line_ok, ArI, mrg]
theorem call_asks_e {z : Str} (h : f_asks_by [.im a] = some (.error (nuE z, n))) : f__law_call [.im (.str "asks_by"), .im a, .im b, .im c] = okd (noD z) [.im (.str "asks_by"), .im a, .im b, .im c] := by
  unfold f__law_call m__law_call
  simp [h, Dl.dist, hasO, line_ok, ArI, mrg, nuE, noOw, gUT, gUC, noD]
theorem call_hist (h : f_history_by [.im a] = okd r [.im a]) : f__law_call [.im (.str "history_by"), .im a, .im b, .im c] = okd (.tuple [.str "ok", r]) [.im (.str "history_by"), .im a, .im b, .im c] := by
  unfold f__law_call m__law_call
  simp [h, Dl.dist, hasO, line_ok, ArI, mrg]
theorem call_hist_e {z : Str} (h : f_history_by [.im a] = some (.error (nuE z, n))) : f__law_call [.im (.str "history_by"), .im a, .im b, .im c] = okd (noD z) [.im (.str "history_by"), .im a, .im b, .im c] := by
  unfold f__law_call m__law_call
  simp [h, Dl.dist, hasO, line_ok, ArI, mrg, nuE, noOw, gUT, gUC, noD]
theorem call_hist_o {x y : PD} (h : f_history_by [.im a] = some (.error (ooE x y, n))) : f__law_call [.im (.str "history_by"), .im a, .im b, .im c] = okd (.tuple [.str "order", x, y, .bool true]) [.im (.str "history_by"), .im a, .im b, .im c] := by
  unfold f__law_call m__law_call
  simp [h, Dl.dist, hasO, line_ok, ArI, mrg, ooE, noOw, gUT, gUC]
theorem call_steady_e {z : Str} (h : f_steady_asks [.im a, .im b, .im c] = some (.error (nuE z, n))) : f__law_call [.im (.str "steady_asks"), .im a, .im b, .im c] = okd (noD z) [.im (.str "steady_asks"), .im a, .im b, .im c] := by
  unfold f__law_call m__law_call
  simp [h, Dl.dist, hasO, line_ok, ArI, mrg, nuE, noOw, gUT, gUC, noD]
theorem call_cal_e {z : Str} (h : f_calendar_asks [.im a] = some (.error (nuE z, n))) : f__law_call [.im (.str "calendar_asks"), .im a, .im b, .im c] = okd (noD z) [.im (.str "calendar_asks"), .im a, .im b, .im c] := by
  unfold f__law_call m__law_call
  simp [h, Dl.dist, hasO, line_ok, ArI, mrg, nuE, noOw, gUT, gUC, noD]
theorem call_timed_e {z : Str} (h : f_timed_asks [.im a, .im b, .im c] = some (.error (nuE z, n))) : f__law_call [.im (.str "timed_asks"), .im a, .im b, .im c] = okd (noD z) [.im (.str "timed_asks"), .im a, .im b, .im c] := by
  unfold f__law_call m__law_call
  simp [h, Dl.dist, hasO, line_ok, ArI, mrg, nuE, noOw, gUT, gUC, noD]
end
end K2
set_option Elab.async false
set_option linter.all false
set_option maxRecDepth 100000
namespace K2
open PySem Dl
theorem crs_none : ∀ {r : List (Nat × Nat)}, crs r = none → r.Pairwise fun p q => p.2 ≤ q.2
  | [], _ => List.Pairwise.nil
  | p :: r, h => by
    rw [crs_cons] at h
    split at h
    · cases h
    · rename_i f
      rw [List.find?_eq_none] at f
      refine List.pairwise_cons.mpr ⟨fun q hq => ?_, crs_none h⟩
      have := f q hq
      simp at this
      omega
theorem mono_of {r : List (Nat × Nat)} (h : Row r) (q : Qu r = true) : Mono r := by
  have c : crs r = none := by
    have := (qu_crs (r := r)).1
    rw [q] at this
    simpa using this.symm
  exact (List.Pairwise.and h.a (crs_none c)).imp fun {a b} z => by
    have := plt_iff.mp z.1
    omega
def Cmp (l : List (Nat × Nat)) : Prop := ∀ p ∈ l, ∀ q ∈ l, p.1 < q.1 → p.2 ≤ q.2
theorem mono_cmp : ∀ {l : List (Nat × Nat)}, Mono l → Cmp l
  | [], _, p, hp, _, _, _ => by cases hp
  | a :: r, h, p, hp, q, hq, hlt => by
    have h1 := List.pairwise_cons.mp h
    rcases List.mem_cons.mp hp with e | hp2
    · rcases List.mem_cons.mp hq with e2 | hq2
      · rw [e, e2]
        exact Nat.le_refl _
      · rw [e]
        exact (h1.1 q hq2).2
    · rcases List.mem_cons.mp hq with e2 | hq2
      · have := (h1.1 p hp2).1
        rw [e2] at hlt
        omega
      · exact mono_cmp h1.2 p hp2 q hq2 hlt
theorem crs_cmp : ∀ {r : List (Nat × Nat)}, Asc r → Cmp r → crs r = none
  | [], _, _ => rfl
  | p :: r, h, c => by
    have h1 := List.pairwise_cons.mp h
    rw [crs_cons]
    have f : r.find? (fun q => decide (q.2 < p.2)) = none := by
      rw [List.find?_eq_none]
      intro q hq
      have a := plt_iff.mp (h1.1 q hq)
      have b := c p (List.mem_cons_self ..) q (List.mem_cons_of_mem _ hq)
      simp
      omega
    rw [f]
    exact crs_cmp h1.2 fun a ha b hb => c a (List.mem_cons_of_mem _ ha) b (List.mem_cons_of_mem _ hb)
theorem row_uq {l : List (Nat × Nat)} (h : ∀ p ∈ l, p.1 < p.2) : Row (uq l) := ⟨fun p hp => h p (mem_uq.mp hp), asc_uq⟩
theorem qu_uq {l : List (Nat × Nat)} (h : Cmp l) : Qu (uq l) = true := by
  rw [qu_crs.1, crs_cmp asc_uq fun p hp q hq => h p (mem_uq.mp hp) q (mem_uq.mp hq)]
  rfl
def hb1 (a b f p : Nat) : List Ev := (if p < b then [.put (b - p)] else []) ++ (if f < a then [.drop (a - f)] else [])
def hb : List (Nat × Nat) → Nat → Nat → List Ev
  | [], _, _ => []
  | (a, b) :: r, f, p => hb1 a b f p ++ .ask :: hb r a b
def Nx (f p : Nat) (r : List (Nat × Nat)) : Prop := ∀ q ∈ r, f ≤ q.1 ∧ p ≤ q.2
theorem nx_next {a b : Nat} {r : List (Nat × Nat)} (h : Mono ((a, b) :: r)) : Nx a b r ∧ Mono r := by
  have h1 := List.pairwise_cons.mp h
  exact ⟨fun q hq => h1.1 q hq, h1.2⟩
theorem hb_facts : ∀ {r : List (Nat × Nat)} {f p k : Nat}, Mono r → (∀ q ∈ r, q.1 < q.2) → Nx f p r → f ≤ p →
    (∃ j, hist ((hb r f p).map some) k (p - f) = .ok j) ∧ tolds (hb r f p) f p = r ∧ (∀ e ∈ hb r f p, e.ok) ∧ (hb r f p).length ≤ 3 * r.length ∧ ∀ B, p ≤ B → (∀ q ∈ r, q.2 ≤ B) → p + psum (hb r f p) ≤ B
  | [], f, p, k, _, _, _, _ => ⟨⟨_, rfl⟩, rfl, (fun e he => nomatch he), by simp [hb], fun B hB _ => by simpa [hb, psum] using hB⟩
  | (a, b) :: r, f, p, k, hm, hw, hx, hfp => by
    obtain ⟨n1, n2⟩ := nx_next hm
    have x := hx (a, b) (List.mem_cons_self ..)
    have w : a < b := hw (a, b) (List.mem_cons_self ..)
    have ih := fun k => hb_facts (r := r) (f := a) (p := b) (k := k) n2 (fun q hq => hw q (List.mem_cons_of_mem _ hq)) n1 (by omega)
    by_cases c1 : p < b
    · by_cases c2 : f < a
      · have e : hb ((a, b) :: r) f p = .put (b - p) :: .drop (a - f) :: .ask :: hb r a b := by simp [hb, hb1, c1, c2]
        rw [e]
        obtain ⟨⟨j, i1⟩, i2, i3, i4, i5⟩ := ih (k + 3)
        refine ⟨⟨j, ?_⟩, ?_, fun e he => ?_, by simp; omega, fun B hB hq => ?_⟩
        · have q1 : ¬ (p - f + (b - p) < a - f) := by omega
          have q2 : p - f + (b - p) - (a - f) = b - a := by omega
          simp only [List.map_cons, hist, if_neg q1, q2]
          exact i1
        · have q1 : f + (a - f) = a := by omega
          have q2 : p + (b - p) = b := by omega
          simp only [tolds, q1, q2, if_pos w, i2]
        · simp only [List.mem_cons] at he
          rcases he with rfl | rfl | rfl | he
          · show 1 ≤ b - p
            omega
          · show 1 ≤ a - f
            omega
          · trivial
          · exact i3 e he
        · have := i5 B (hq (a, b) (List.mem_cons_self ..)) fun q h => hq q (List.mem_cons_of_mem _ h)
          simp only [psum]
          omega
      · have e : hb ((a, b) :: r) f p = .put (b - p) :: .ask :: hb r a b := by simp [hb, hb1, c1, c2]
        rw [e]
        have ef : f = a := by have := x.1; simp at this; omega
        subst ef
        obtain ⟨⟨j, i1⟩, i2, i3, i4, i5⟩ := ih (k + 2)
        refine ⟨⟨j, ?_⟩, ?_, fun e he => ?_, by simp; omega, fun B hB hq => ?_⟩
        · have q2 : p - f + (b - p) = b - f := by omega
          simp only [List.map_cons, hist, q2]
          exact i1
        · have q2 : p + (b - p) = b := by omega
          simp only [tolds, q2, if_pos w, i2]
        · simp only [List.mem_cons] at he
          rcases he with rfl | rfl | he
          · show 1 ≤ b - p
            omega
          · trivial
          · exact i3 e he
        · have := i5 B (hq (f, b) (List.mem_cons_self ..)) fun q h => hq q (List.mem_cons_of_mem _ h)
          simp only [psum]
          omega
    · have ep : p = b := by have := x.2; simp at this; omega
      subst ep
      by_cases c2 : f < a
      · have e : hb ((a, p) :: r) f p = .drop (a - f) :: .ask :: hb r a p := by simp [hb, hb1, c2]
        rw [e]
        obtain ⟨⟨j, i1⟩, i2, i3, i4, i5⟩ := ih (k + 2)
        refine ⟨⟨j, ?_⟩, ?_, fun e he => ?_, by simp; omega, fun B hB hq => ?_⟩
        · have q1 : ¬ (p - f < a - f) := by omega
          have q2 : p - f - (a - f) = p - a := by omega
          simp only [List.map_cons, hist, if_neg q1, q2]
          exact i1
        · have q1 : f + (a - f) = a := by omega
          simp only [tolds, q1, if_pos w, i2]
        · simp only [List.mem_cons] at he
          rcases he with rfl | rfl | he
          · show 1 ≤ a - f
            omega
          · trivial
          · exact i3 e he
        · have := i5 B hB fun q h => hq q (List.mem_cons_of_mem _ h)
          simp only [psum]
          omega
      · have e : hb ((a, p) :: r) f p = .ask :: hb r a p := by simp [hb, hb1, c2]
        rw [e]
        have ef : f = a := by have := x.1; simp at this; omega
        subst ef
        obtain ⟨⟨j, i1⟩, i2, i3, i4, i5⟩ := ih (k + 1)
        refine ⟨⟨j, ?_⟩, ?_, fun e he => ?_, by simp; omega, fun B hB hq => ?_⟩
        · simp only [List.map_cons, hist]
          exact i1
        · simp only [tolds, if_pos w, i2]
        · simp only [List.mem_cons] at he
          rcases he with rfl | he
          · trivial
          · exact i3 e he
        · have := i5 B hB fun q h => hq q (List.mem_cons_of_mem _ h)
          simp only [psum]
          omega
def stg : List Ev → Nat → Option Nat
  | [], s => some s
  | .ask :: r, _ => stg r 0
  | .put _ :: r, s => if 1 ≤ s then none else stg r 1
  | .drop _ :: r, s => if 2 ≤ s then none else stg r 2
def asks : List Ev → Nat
  | [] => 0
  | .ask :: r => asks r + 1
  | _ :: r => asks r
theorem hb_stg : ∀ {r : List (Nat × Nat)} {f p : Nat}, stg (hb r f p) 0 = some 0 ∧ asks (hb r f p) = r.length
  | [], _, _ => ⟨rfl, rfl⟩
  | (a, b) :: r, f, p => by
    obtain ⟨i1, i2⟩ := hb_stg (r := r) (f := a) (p := b)
    by_cases c1 : p < b <;> by_cases c2 : f < a <;> simp [hb, hb1, c1, c2, stg, asks, i1, i2]
theorem hb_step {r : List (Nat × Nat)} {k a b f p : Nat} (h : r[k]? = some (a, b)) : hb (r.drop k) f p = hb1 a b f p ++ .ask :: hb (r.drop (k + 1)) a b := by
  obtain ⟨hk, e⟩ := List.getElem?_eq_some_iff.mp h
  rw [List.drop_eq_getElem_cons hk, e]
  rfl
theorem v_need_order_t {r : List (Nat × Nat)} (h : Row r) (hl : r.length ≤ 1000) (q : Qu r = true) : f_need_order [.im (rowD r)] = okd .none [.im (rowD r)] := by
  unfold f_need_order m_need_order
  simp [v_is_queue h hl, q, Dl.dist, hasO, mrg]
theorem v_need_order_f {r : List (Nat × Nat)} (h : Row r) (hl : r.length ≤ 1000) {p q : Nat × Nat} (c : crs r = some (p, q)) : f_need_order [.im (rowD r)] = some (.error (ooE (pr p) (pr q), [.im (rowD r), .im (pr p), .im (pr q)])) := by
  have z : Qu r = false := by rw [qu_crs.1, c]; rfl
  unfold f_need_order m_need_order
  simp [v_is_queue h hl, z, Dl.dist, hasO, v_crossed, c, crD, ooE]
theorem v_need_queue_t {r : List (Nat × Nat)} (h : Row r) (hl : r.length ≤ 1000) (q : Qu r = true) : f_need_queue [.im (rowD r)] = okd .none [.im (rowD r)] := by
  unfold f_need_queue m_need_queue
  have hn := v_need_t "queue"
  have ha : f_is_asks [.im (rowD r)] = _ := v_is_asks_t (rowOk h)
  have ha : f_is_asks [.im (rowD r)] = okd (.bool true) [.im (rowD r)] := ha
  simp [ha, hn, Dl.dist, hasO, v_need_order_t h hl q, mrg]
theorem v_need_queue_o {r : List (Nat × Nat)} (h : Row r) (hl : r.length ≤ 1000) {p q : Nat × Nat} (c : crs r = some (p, q)) : f_need_queue [.im (rowD r)] = some (.error (ooE (pr p) (pr q), [.im (rowD r)])) := by
  unfold f_need_queue m_need_queue
  have hn := v_need_t "queue"
  have ha : f_is_asks [.im (rowD r)] = okd (.bool true) [.im (rowD r)] := v_is_asks_t (rowOk h)
  simp [ha, hn, Dl.dist, hasO, v_need_order_f h hl c]
theorem v_need_queue_f {d : PD} (h : f_is_asks [.im d] = okd (.bool false) [.im d]) : f_need_queue [.im d] = some (.error (nuE "queue", [.im d])) := by
  unfold f_need_queue m_need_queue
  have hn := v_need_f "queue"
  simp [h, hn, Dl.dist, hasO]
theorem v_history_by {r : List (Nat × Nat)} (h : Row r) (hl : r.length ≤ 1000) (q : Qu r = true) : f_history_by [.im (rowD r)] = okd (.tuple ((hb r 0 0).map evD)) [.im (rowD r)] := by
  unfold f_history_by m_history_by
  have key := loop_idx (tg := gT 2 (gsC (gN 4) (gsC (gN 5) gsN))) (b := lp_history_by_0) (r.map pr)
    (fun k n => ∃ (f p : Nat) (out : List Ev) (x y : Sl), Fr x ∧ Fr y ∧ n = [.im (rowD r), .im (nm f), .im (nm p), .ow false (.l (out.map evD)), x, y] ∧ out ++ hb (r.drop k) f p = hb r 0 0 ∧ out.length ≤ 3 * k)
    (fun k d n hd ⟨f, p, out, x, y, hx, hy, hn, g, gl⟩ => by
      subst hn
      rw [List.getElem?_map] at hd
      obtain ⟨⟨a, b⟩, he, rfl⟩ := Option.map_eq_some_iff.mp hd
      have hk := (List.getElem?_eq_some_iff.mp he).1
      rw [hb_step he] at g
      refine ⟨[.im (rowD r), .im (nm f), .im (nm p), .ow false (.l (out.map evD)), .im (nm a), .im (nm b)], [.im (rowD r), .im (nm a), .im (nm b), .ow false (.l ((out ++ (hb1 a b f p ++ [Ev.ask])).map evD)), .im (nm a), .im (nm b)], ?_, ?_, a, b, out ++ (hb1 a b f p ++ [Ev.ask]), _, _, fr_im, fr_im, rfl, ?_, ?_⟩
      · simp [pr, hx, hy]
      · have l0 := ltl_ok (k := out.length) (by omega)
        have l1 := ltl_ok (k := out.length + 1) (by omega)
        have l2 := ltl_ok (k := out.length + 2) (by omega)
        by_cases c1 : p < b
        · have s1 : (b : Int) - (p : Int) = ((b - p : Nat) : Int) := by omega
          by_cases c2 : f < a
          · have s2 : (a : Int) - (f : Int) = ((a - f : Nat) : Int) := by omega
            simp [lp_history_by_0, c1, c2, hb1, l0, l1, l2, line_ok, ArI, evD, s1, s2]
          · simp [lp_history_by_0, c1, c2, hb1, l0, l1, l2, line_ok, ArI, evD, s1]
        · by_cases c2 : f < a
          · have s2 : (a : Int) - (f : Int) = ((a - f : Nat) : Int) := by omega
            simp [lp_history_by_0, c1, c2, hb1, l0, l1, l2, line_ok, ArI, evD, s2]
          · simp [lp_history_by_0, c1, c2, hb1, l0, l1, l2, line_ok, ArI, evD]
      · rw [← g]
        simp
      · by_cases c1 : p < b <;> by_cases c2 : f < a <;> simp [hb1, c1, c2] <;> omega) [.im (rowD r), .im (.int 0), .im (.int 0), .ow false (.l []), .un, .un] ⟨0, 0, [], _, _, fr_un, fr_un, rfl, by simp, by simp⟩
  obtain ⟨n', e, f, p, out, x, y, hx, hy, hn, g, _⟩ := key
  subst hn
  have hd : r.drop (r.map pr).length = [] := by simp
  rw [hd] at g
  have g : out = hb r 0 0 := by simpa [hb] using g
  subst g
  have hr : rowD r = .tuple (r.map pr) := rfl
  rw [hr] at e
  have hq := v_need_queue_t h hl q
  rw [hr] at hq ⊢
  simp [hq, Dl.dist, hasO, e, mrg, line_ok]
theorem v_history_by_o {r : List (Nat × Nat)} (h : Row r) (hl : r.length ≤ 1000) {p q : Nat × Nat} (c : crs r = some (p, q)) : f_history_by [.im (rowD r)] = some (.error (ooE (pr p) (pr q), [.im (rowD r), .un, .un, .un, .un, .un])) := by
  unfold f_history_by m_history_by
  simp [v_need_queue_o h hl c, Dl.dist, hasO]
theorem v_history_by_f {d : PD} (h : f_is_asks [.im d] = okd (.bool false) [.im d]) : f_history_by [.im d] = some (.error (nuE "queue", [.im d, .un, .un, .un, .un, .un])) := by
  unfold f_history_by m_history_by
  simp [v_need_queue_f h, Dl.dist, hasO]
end K2
set_option Elab.async false
set_option linter.all false
set_option maxRecDepth 100000
namespace K2
open PySem Dl
@[simp] theorem g_intB {b : Bool} : gInt [.bool b] = some (.int (if b = true then 1 else 0)) := (rfl)
theorem g_nePrs {r : List (Nat × Nat)} : gEq true (.list (r.map pr)) (.list (r.map pr)) = some (.bool false) := by
  rw [g_eq (sh_prs _) (sh_prs _)]
  simp [PyData.eqv, eqv_prs]
theorem sm_pr (p : Nat × Nat) : Sm 1 (pr p) := .inr ⟨_, rfl, by simp, fun e he => by
  simp at he
  rcases he with rfl | rfl <;> exact rfl⟩
theorem sm_row {r : List (Nat × Nat)} (hl : r.length ≤ 1000) : Sm 2 (rowD r) := sm_tup (k := 1) (by simpa using hl) fun e he => by
  obtain ⟨p, _, rfl⟩ := List.mem_map.mp he
  exact sm_pr p
theorem sm_row4 {r : List (Nat × Nat)} (hl : r.length ≤ 1000) : Sm 4 (rowD r) := sm_up (sm_up (sm_row hl))
theorem same_nm (i : Int) : f__law_same [.im (.int i), .im (.int i)] = okd (.bool true) [.im (.int i), .im (.int i)] := law_same (.inl rfl)
theorem stg_step {es : List Ev} {k : Nat} {e : Ev} (h : es[k]? = some e) (s : Nat) : stg (es.drop k) s = stg (e :: es.drop (k + 1)) s ∧ asks (es.drop k) = asks (e :: es.drop (k + 1)) := by
  obtain ⟨hk, e⟩ := List.getElem?_eq_some_iff.mp h
  rw [List.drop_eq_getElem_cons hk, e]
  exact ⟨rfl, rfl⟩
theorem v_steps {es : List Ev} {r : List (Nat × Nat)} {j : Nat} (ho : ∀ e ∈ es, e.ok) (h : hist (es.map some) 0 0 = .ok j) (hp : psum es ≤ 1000) (hl : es.length ≤ 1000) (ht : tolds es 0 0 = r) (hs : stg es 0 = some 0) (ha : asks es = r.length) :
    f__law_steps [.im (.tuple (es.map evD)), .im (rowD r)] = okd (.bool true) [.im (.tuple (es.map evD)), .im (rowD r)] := by
  unfold f__law_steps m__law_steps
  have hc := v_checked (cls_of ho) (by simpa using hl)
  rw [h] at hc
  obtain ⟨f, hy⟩ := v_play h hp hl
  rw [ht] at hy
  have key := loop_idx (tg := gN 4) (b := lp__law_steps_0) (es.map evD)
    (fun k n => ∃ (s c : Nat) (x : Sl), Fr x ∧ n = [.im (.tuple (es.map evD)), .im (.tuple (r.map pr)), .im (nm s), .im (nm c), x] ∧ stg (es.drop k) s = some 0 ∧ c + asks (es.drop k) = asks es)
    (fun k d n hd ⟨s, c, x, hx, hn, g1, g2⟩ => by
      subst hn
      rw [List.getElem?_map] at hd
      obtain ⟨e, he, rfl⟩ := Option.map_eq_some_iff.mp hd
      rw [(stg_step he s).1] at g1
      rw [(stg_step he s).2] at g2
      have t1 : gN 4 (evD e) [.im (.tuple (es.map evD)), .im (.tuple (r.map pr)), .im (nm s), .im (nm c), x] = some [.im (.tuple (es.map evD)), .im (.tuple (r.map pr)), .im (nm s), .im (nm c), .im (evD e)] := by simp [hx]
      match e, t1, g1, g2 with
      | .ask, t1, g1, g2 =>
        refine ⟨_, [.im (.tuple (es.map evD)), .im (.tuple (r.map pr)), .im (nm 0), .im (nm (c + 1)), .im (evD .ask)], t1, ?_, 0, c + 1, _, fr_im, rfl, g1, ?_⟩
        · have hh : evD .ask = .tuple [.str "ask"] := rfl
          rw [hh]
          simp [lp__law_steps_0]
        · simp only [asks] at g2
          omega
      | .put m, t1, g1, g2 =>
        simp only [stg] at g1
        split at g1
        · cases g1
        · rename_i q
          refine ⟨_, [.im (.tuple (es.map evD)), .im (.tuple (r.map pr)), .im (nm 1), .im (nm c), .im (evD (.put m))], t1, ?_, 1, c, _, fr_im, rfl, g1, g2⟩
          have hh : evD (.put m) = .tuple [.str "put", nm m] := rfl
          have q2 : ¬ ((1 : Int) ≤ (s : Int)) := by omega
          rw [hh]
          simp [lp__law_steps_0, q2]
      | .drop m, t1, g1, g2 =>
        simp only [stg] at g1
        split at g1
        · cases g1
        · rename_i q
          refine ⟨_, [.im (.tuple (es.map evD)), .im (.tuple (r.map pr)), .im (nm 2), .im (nm c), .im (evD (.drop m))], t1, ?_, 2, c, _, fr_im, rfl, g1, g2⟩
          have hh : evD (.drop m) = .tuple [.str "drop", nm m] := rfl
          have q2 : ¬ ((2 : Int) ≤ (s : Int)) := by omega
          rw [hh]
          simp [lp__law_steps_0, q2]) [.im (.tuple (es.map evD)), .im (.tuple (r.map pr)), .im (.int 0), .im (.int 0), .un] ⟨0, 0, _, fr_un, rfl, by simpa using hs, by simp⟩
  obtain ⟨n', e, s, c, x, hx, hn, g1, g2⟩ := key
  subst hn
  have hd : es.drop (es.map evD).length = [] := by simp
  rw [hd] at g1 g2
  have g1 : s = 0 := by simpa [stg] using g1
  have g2 : c = r.length := by rw [← ha, ← g2]; rfl
  subst g1 g2
  have hr : rowD r = .tuple (r.map pr) := rfl
  rw [hr]
  simp [hc, hy, ckD, Dl.dist, hasO, g_nePrs, e, mrg]
theorem v_hist_row {R : List (Nat × Nat)} (hw : Row R) (hq : Qu R = true) (hl : R.length < 64) (hb0 : ∀ q ∈ R, q.2 ≤ 1000) :
    f_history_by [.im (rowD R)] = okd (.tuple ((hb R 0 0).map evD)) [.im (rowD R)] ∧ f__law_steps [.im (.tuple ((hb R 0 0).map evD)), .im (rowD R)] = okd (.bool true) [.im (.tuple ((hb R 0 0).map evD)), .im (rowD R)] ∧
    f_asks_by [.im (.tuple ((hb R 0 0).map evD))] = okd (rowD R) [.im (.tuple ((hb R 0 0).map evD))] := by
  obtain ⟨⟨j, h1⟩, h2, h3, h4, h5⟩ := hb_facts (f := 0) (p := 0) (k := 0) (mono_of hw hq) hw.w (fun q _ => ⟨Nat.zero_le _, Nat.zero_le _⟩) (Nat.le_refl _)
  have h5 : psum (hb R 0 0) ≤ 1000 := by have := h5 1000 (by omega) hb0; omega
  have hs := hb_stg (r := R) (f := 0) (p := 0)
  refine ⟨v_history_by hw (by omega) hq, v_steps h3 h1 h5 (by omega) h2 hs.1 hs.2, ?_⟩
  have := v_asks_by h3 h1 h5 (by omega) (by rw [h2]; exact hl)
  rw [h2, uq_id hw.a] at this
  exact this
theorem v_law_history {es : List Ev} {j : Nat} (ho : ∀ e ∈ es, e.ok) (h : hist (es.map some) 0 0 = .ok j) (hp : psum es ≤ 1000) (hl : es.length < 64) :
    f__law_history [.im (.tuple (es.map evD))] = okd (.bool true) [.im (.tuple (es.map evD))] := by
  unfold f__law_history m__law_history
  have htl := told_len es 0 0
  obtain ⟨f, hy⟩ := v_play h hp (by omega)
  have hli := v_line (d := .list ((tolds es 0 0).map pr)) (g_srt (by omega) (told_bq hp)) (by omega)
  have hle := v_lets (cls_of ho) (by simp; omega)
  rw [h] at hle
  have hle : f_lets_history [.im (.tuple (es.map evD))] = okd (nm j) [.im (.tuple (es.map evD))] := hle
  have his := v_is_history (cls_of ho)
  rw [h] at his
  have hab := v_asks_by ho h hp (by omega) (by omega)
  have hR : Row (uq (tolds es 0 0)) := row_uq told_w
  have hQ : Qu (uq (tolds es 0 0)) = true := qu_uq (mono_cmp told_mono.1)
  have hul := uq_len (tolds es 0 0)
  have hbb : ∀ q ∈ uq (tolds es 0 0), q.2 ≤ 1000 := fun q hq => by
    have := told_b q (mem_uq.mp hq)
    omega
  obtain ⟨a1, a2, a3⟩ := v_hist_row hR hQ (by omega) hbb
  have hqu := v_is_queue hR (by omega)
  rw [hQ] at hqu
  have sr := law_same (sm_row4 (r := uq (tolds es 0 0)) (by omega))
  generalize uq (tolds es 0 0) = R at *
  have gb : gIsB true (.bool true) (.bool true) = some (.bool false) := rfl
  simp [hy, hli, hle, his, Hr.isOk, hab, hqu, a1, a2, a3, sr, same_nm, rng_len, Dl.dist, hasO, gb, mrg]
end K2
set_option Elab.async false
set_option linter.all false
set_option maxRecDepth 100000
namespace K2
open PySem Dl
@[simp] theorem q_paper_ok : gEq false (.str "paper") (.str "ok") = some (.bool false) := by with_unfolding_all rfl
theorem at_event : isAtom (.str "event") = true := by with_unfolding_all rfl
theorem at_drop : isAtom (.str "drop") = true := by with_unfolding_all rfl
theorem at_shape : isAtom (.str "shape") = true := by with_unfolding_all rfl
theorem at_paper : isAtom (.str "paper") = true := by with_unfolding_all rfl
theorem at_ok : isAtom (.str "ok") = true := by with_unfolding_all rfl
theorem at_no : isAtom (.str "no") = true := by with_unfolding_all rfl
theorem at_order : isAtom (.str "order") = true := by with_unfolding_all rfl
theorem at_history : isAtom (.str "history") = true := by with_unfolding_all rfl
theorem at_queue : isAtom (.str "queue") = true := by with_unfolding_all rfl
theorem sm1 {d : PD} (h : isAtom d = true) : ∀ {k : Nat}, Sm k d
  | 0 => h
  | k + 1 => .inl h
theorem sm_ge {d : PD} {k : Nat} (h : Sm k d) : ∀ j, Sm (k + j) d
  | 0 => h
  | j + 1 => sm_up (sm_ge h j)
theorem sm_no {z : Str} (h : isAtom (.str z) = true) : Sm 4 (noD z) := sm_ge (k := 1) (sm_tup (k := 0) (by simp) fun e he => by
  simp at he
  rcases he with rfl | rfl | rfl | rfl
  · exact at_no
  · exact h
  · exact rfl
  · exact rfl) 3
theorem sm_paper {z : Str} {i : Int} (h : isAtom (.str z) = true) : Sm 4 (.tuple [.str "paper", .str z, .int i, .bool true]) := sm_ge (k := 1) (sm_tup (k := 0) (by simp) fun e he => by
  simp at he
  rcases he with rfl | rfl | rfl | rfl
  · exact at_paper
  · exact h
  · exact rfl
  · exact rfl) 3
theorem sm_okn {i : Int} : Sm 4 (.tuple [.str "ok", .int i]) := sm_ge (k := 1) (sm_tup (k := 0) (by simp) fun e he => by
  simp at he
  rcases he with rfl | rfl
  · exact at_ok
  · exact rfl) 3
theorem sm_okr {r : List (Nat × Nat)} (hl : r.length ≤ 1000) : Sm 4 (.tuple [.str "ok", rowD r]) := sm_ge (k := 3) (sm_tup (k := 2) (by simp) fun e he => by
  simp at he
  rcases he with rfl | rfl
  · exact sm1 at_ok
  · exact sm_row hl) 1
theorem hist_w : ∀ {os : List (Option Ev)} {k i : Nat} {w : Str} {m : Nat}, hist os k i = .bad w m → isAtom (.str w) = true
  | [], _, _, _, _, h => by cases h
  | none :: r, k, i, w, m, h => by
    cases h
    exact at_event
  | some (.put n) :: r, k, i, w, m, h => hist_w (os := r) h
  | some .ask :: r, k, i, w, m, h => hist_w (os := r) h
  | some (.drop n) :: r, k, i, w, m, h => by
    unfold hist at h
    split at h
    · cases h
      exact at_drop
    · exact hist_w (os := r) h
def osum : List (Option Ev) → Nat
  | [] => 0
  | some (.put n) :: r => n + osum r
  | _ :: r => osum r
theorem osum_some : ∀ es : List Ev, osum (es.map some) = psum es
  | [] => rfl
  | .put n :: r => by simp [osum, psum, osum_some r]
  | .drop n :: r => by simp [osum, psum, osum_some r]
  | .ask :: r => by simp [osum, psum, osum_some r]
theorem osum_app : ∀ a b : List (Option Ev), osum (a ++ b) = osum a + osum b
  | [], b => by simp [osum]
  | none :: r, b => by simp [osum, osum_app r b]
  | some (.put n) :: r, b => by simp [osum, osum_app r b]; omega
  | some (.drop n) :: r, b => by simp [osum, osum_app r b]
  | some .ask :: r, b => by simp [osum, osum_app r b]
theorem osum_rev : ∀ a : List (Option Ev), osum a.reverse = osum a
  | [] => rfl
  | x :: r => by
    rw [List.reverse_cons, osum_app, osum_rev r]
    have : osum (x :: r) = osum [x] + osum r := osum_app [x] r
    omega
theorem cls_nil : Cls [] [] := ⟨rfl, fun k d o h => by simp at h⟩
theorem cls_app {a b : List PD} {x y : List (Option Ev)} (h : Cls a x) (h2 : Cls b y) : Cls (a ++ b) (x ++ y) := by
  refine ⟨by rw [List.length_append, List.length_append, h.1, h2.1], fun k d o e1 e2 => ?_⟩
  by_cases q : k < a.length
  · rw [List.getElem?_append_left q] at e1
    rw [List.getElem?_append_left (by rw [← h.1]; exact q)] at e2
    exact h.2 k d o e1 e2
  · rw [List.getElem?_append_right (by omega)] at e1
    rw [List.getElem?_append_right (by rw [← h.1]; omega), ← h.1] at e2
    exact h2.2 _ d o e1 e2
theorem cls_one {d : PD} {o : Option Ev} (h : Cl d o) : Cls [d] [o] := ⟨rfl, fun k e p e1 e2 => by
  cases k with
  | zero =>
    cases e1
    cases e2
    exact h
  | succ k => simp at e1⟩
def Thing (d : PD) : Prop := (∃ ds os, d = .tuple ds ∧ Cls ds os ∧ ds.length < 64 ∧ osum os ≤ 1000) ∨ isiD "tuple" d = false
theorem body_thing {d a b : PD} {x y : Sl} (h : Thing d) (hx : Fr x) (hy : Fr y) : ∃ x' y', Fr x' ∧ Fr y' ∧ lp__law_spoilt_histories_0 [.im a, .im b, .im d, x, y] = some (.ok (.nx, [.im a, .im b, .im d, x', y'])) := by
  rcases h with ⟨ds, os, rfl, hc, hl, hs⟩ | hn
  · have c1 := v_checked hc (by omega)
    have c2 := v_is_history hc
    have c3 := v_lets hc (by omega)
    cases e : hist os 0 0 with
    | ok j =>
      rw [e] at c1 c2 c3
      have c3 : f_lets_history [.im (.tuple ds)] = okd (nm j) [.im (.tuple ds)] := c3
      obtain ⟨es, rfl, _⟩ := hist_ok e
      obtain ⟨rfl, ho⟩ := cls_ok hc
      have hl2 : es.length < 64 := by simpa using hl
      rw [osum_some] at hs
      have htl := told_len es 0 0
      have c4 := v_asks_by ho e hs (by omega) (by omega)
      obtain ⟨f, c5⟩ := v_play e hs (by omega)
      have c6 := v_line (d := .list ((tolds es 0 0).map pr)) (g_srt (by omega) (told_bq hs)) (by omega)
      have hul := uq_len (tolds es 0 0)
      have s1 := law_same (sm_okn (i := (j : Int)))
      have s2 := law_same (sm_okr (r := uq (tolds es 0 0)) (by omega))
      have s3 := law_same (d := .bool true) (sm1 rfl)
      have k1 := call_lets (b := .none) (c := .none) c3
      have k2 := call_asks (b := .none) (c := .none) c4
      generalize uq (tolds es 0 0) = R at *
      refine ⟨.im (.tuple [.str "ok", nm j]), .im (.tuple [.str "ok", rowD R]), fr_im, fr_im, ?_⟩
      simp [lp__law_spoilt_histories_0, c1, ckD, k1, s1, c2, Hr.isOk, s3, c5, c6, k2, s2, Dl.dist, hasO, hx, hy, line_ok, ArI, noD]
    | bad w k =>
      rw [e] at c1 c2 c3
      have c3 : f_lets_history [.im (.tuple ds)] = some (.error (ipE (.str w) (nm k), [.im (.tuple ds), .un])) := c3
      have c4 := v_asks_by_f hc e
      have s1 := law_same (sm_paper (i := (k : Int)) (hist_w e))
      have s2 := law_same (sm_no at_history)
      have s3 := law_same (d := .bool false) (sm1 rfl)
      have k1 := call_lets_e (b := .none) (c := .none) c3
      have k2 := call_asks_e (b := .none) (c := .none) c4
      have hno : noD "history" = .tuple [.str "no", .str "history", .int (-1), .bool true] := rfl
      rw [hno] at s2 k2
      refine ⟨.im (.tuple [.str "paper", .str w, nm k, .bool true]), .im (noD "history"), fr_im, fr_im, ?_⟩
      simp [lp__law_spoilt_histories_0, c1, ckD, k1, s1, c2, Hr.isOk, s3, k2, s2, Dl.dist, hasO, hx, hy, line_ok, ArI, noD]
  · have c1 := v_checked_n hn
    have c2 := v_is_history_n hn
    have c3 := v_lets_n hn
    have c4 := v_asks_by_n hn
    have s1 := law_same (sm_paper (i := -1) at_shape)
    have s2 := law_same (sm_no at_history)
    have s3 := law_same (d := .bool false) (sm1 rfl)
    have k1 := call_lets_e (b := .none) (c := .none) c3
    have k2 := call_asks_e (b := .none) (c := .none) c4
    have hno : noD "history" = .tuple [.str "no", .str "history", .int (-1), .bool true] := rfl
    rw [hno] at s2 k2
    refine ⟨.im (.tuple [.str "paper", .str "shape", .int (-1), .bool true]), .im (noD "history"), fr_im, fr_im, ?_⟩
    simp [lp__law_spoilt_histories_0, c1, ckD, k1, s1, c2, Hr.isOk, s3, k2, s2, Dl.dist, hasO, hx, hy, line_ok, ArI, noD]
end K2
set_option Elab.async false
set_option linter.all false
set_option maxRecDepth 100000
namespace K2
open PySem Dl
theorem hist_pre : ∀ {a b : List (Option Ev)} {k i j : Nat}, hist (a ++ b) k i = .ok j → ∃ m, hist a k i = .ok m
  | [], _, _, i, _, _ => ⟨i, rfl⟩
  | none :: r, _, _, _, _, h => by cases h
  | some (.put n) :: r, b, _, _, _, h => hist_pre (a := r) (b := b) h
  | some .ask :: r, b, _, _, _, h => hist_pre (a := r) (b := b) h
  | some (.drop n) :: r, b, k, i, j, h => by
    show ∃ m, (if i < n then Hr.bad "drop" k else hist r (k + 1) (i - n)) = .ok m
    have h : (if i < n then Hr.bad "drop" k else hist (r ++ b) (k + 1) (i - n)) = .ok j := h
    split at h
    · cases h
    · rename_i q
      rw [if_neg q]
      exact hist_pre (a := r) (b := b) h
def bads (i : Nat) : List PD := [.tuple [.str "put", .int 0], .tuple [.str "put", .bool true], .tuple [.str "put"], .tuple [.str "ask", .int 1], .list [.str "ask"], .tuple [.str "drop", .int (-1)], .tuple [.str "Put", .int 1], .none, .int 3,
  .tuple [.str "put", .int 1, .int 1], .tuple [.str "drop"], .tuple [.str "put", .str "1"], .str "ask", .tuple [], .tuple [.str "drop", .int (if (i : Int) + 1 < 40 then (i : Int) + 1 else 40)], .tuple [.str "drop", .int (if 1 < (if (i : Int) < 40 then (i : Int) else 40) then (if (i : Int) < 40 then (i : Int) else 40) else 1)]]
theorem bads_cl (i k : Nat) (hk : k < 16) : ∃ d o, (bads i)[k]? = some d ∧ Cl d o ∧ osum [o] = 0 := by
  match k, hk with
  | 0, _ => exact ⟨_, none, rfl, ⟨by with_unfolding_all rfl, by with_unfolding_all rfl⟩, rfl⟩
  | 1, _ => exact ⟨_, none, rfl, ⟨by with_unfolding_all rfl, by with_unfolding_all rfl⟩, rfl⟩
  | 2, _ => exact ⟨_, none, rfl, ⟨by with_unfolding_all rfl, by with_unfolding_all rfl⟩, rfl⟩
  | 3, _ => exact ⟨_, none, rfl, ⟨by with_unfolding_all rfl, by with_unfolding_all rfl⟩, rfl⟩
  | 4, _ => exact ⟨_, none, rfl, ⟨by with_unfolding_all rfl, by with_unfolding_all rfl⟩, rfl⟩
  | 5, _ => exact ⟨_, none, rfl, ⟨by with_unfolding_all rfl, by with_unfolding_all rfl⟩, rfl⟩
  | 6, _ => exact ⟨_, none, rfl, ⟨by with_unfolding_all rfl, by with_unfolding_all rfl⟩, rfl⟩
  | 7, _ => exact ⟨_, none, rfl, ⟨by with_unfolding_all rfl, by with_unfolding_all rfl⟩, rfl⟩
  | 8, _ => exact ⟨_, none, rfl, ⟨by with_unfolding_all rfl, by with_unfolding_all rfl⟩, rfl⟩
  | 9, _ => exact ⟨_, none, rfl, ⟨by with_unfolding_all rfl, by with_unfolding_all rfl⟩, rfl⟩
  | 10, _ => exact ⟨_, none, rfl, ⟨by with_unfolding_all rfl, by with_unfolding_all rfl⟩, rfl⟩
  | 11, _ => exact ⟨_, none, rfl, ⟨by with_unfolding_all rfl, by with_unfolding_all rfl⟩, rfl⟩
  | 12, _ => exact ⟨_, none, rfl, ⟨by with_unfolding_all rfl, by with_unfolding_all rfl⟩, rfl⟩
  | 13, _ => exact ⟨_, none, rfl, ⟨by with_unfolding_all rfl, by with_unfolding_all rfl⟩, rfl⟩
  | 14, _ =>
    refine ⟨_, some (.drop (min 40 (i + 1))), rfl, ⟨?_, ?_⟩, rfl⟩
    · show _ = PyData.tuple [.str "drop", .int ((min 40 (i + 1) : Nat) : Int)]
      congr 4
      split <;> omega
    · show 1 ≤ min 40 (i + 1)
      omega
  | 15, _ =>
    refine ⟨_, some (.drop (max 1 (min 40 i))), rfl, ⟨?_, ?_⟩, rfl⟩
    · show _ = PyData.tuple [.str "drop", .int ((max 1 (min 40 i) : Nat) : Int)]
      congr 4
      split <;> split <;> omega
    · show 1 ≤ max 1 (min 40 i)
      omega
  | k + 16, h => exact absurd h (by omega)
theorem cl_tup {es : List Ev} : Cl (.tuple (es.map evD)) none := by
  cases es with
  | nil => exact ⟨by with_unfolding_all rfl, by with_unfolding_all rfl⟩
  | cons e r =>
    have he : ∃ x l, evD e = .tuple (x :: l) ∧ (x = .str "put" ∨ x = .str "drop" ∨ x = .str "ask") := by
      cases e
      · exact ⟨_, _, rfl, .inl rfl⟩
      · exact ⟨_, _, rfl, .inr (.inl rfl)⟩
      · exact ⟨_, _, rfl, .inr (.inr rfl)⟩
    have sh : SeqAt.shaped (evD e) = true := by
      have h1 : PyData.strOk "put" = true := by with_unfolding_all rfl
      have h2 : PyData.strOk "drop" = true := by with_unfolding_all rfl
      have h3 : PyData.strOk "ask" = true := by with_unfolding_all rfl
      cases e <;> simp [evD, SeqAt.shaped, PyData.canLay0, PyData.canLayAll0, PyData.depth, PyData.depthAll, h1, h2, h3]
    have s2 : SeqAt.shaped (.str "ask") = true := by with_unfolding_all rfl
    have s3 : SeqAt.shaped (.tuple [.str "put", .str "drop"]) = true := by with_unfolding_all rfl
    obtain ⟨x, l, hx, _⟩ := he
    have q1 : gEq false (evD e) (.str "ask") = some (.bool false) := by
      rw [g_eq sh s2, hx]
      simp [PyData.eqv]
    have q2 : gIn false (evD e) (.tuple [.str "put", .str "drop"]) = some (.bool false) := by
      unfold gIn
      dsimp only
      rw [sh, s3, hx]
      simp [PyData.eqv]
    have q3 : ¬ ((r.length : Int) + 1 = 0) := by omega
    have q4 : isiD "str" (evD e) = false := by rw [hx]; rfl
    constructor
    · simp [f__is_queue_event, m__is_queue_event, isiD, tyD, mrg, q1, q2, q3, line_ok, ArI]
    · have t : isiD "tuple" (.tuple (List.map evD (e :: r))) = true := rfl
      simp only [List.map_cons] at t
      simp [f__law_event, m__law_event, t, mrg, q3, q4]
theorem thing_tup {ds : List PD} {os : List (Option Ev)} (h : Cls ds os) (hl : ds.length < 64) (hs : osum os ≤ 1000) : Thing (.tuple ds) := .inl ⟨ds, os, rfl, h, hl, hs⟩
theorem v_spoilt {es : List Ev} {j : Nat} (ho : ∀ e ∈ es, e.ok) (h : hist (es.map some) 0 0 = .ok j) (hp : psum es ≤ 250) (hl : es.length ≤ 60) {pick : Int} (h0 : 0 ≤ pick) :
    ∃ ts, f__law_spoilt [.im (.tuple (es.map evD)), .im (.int pick)] = okd (.list ts) [.im (.tuple (es.map evD)), .im (.int pick)] ∧ (∀ t ∈ ts, Thing t) ∧ ts.length ≤ 16 := by
  unfold f__law_spoilt m__law_spoilt
  obtain ⟨at_, ha, hal⟩ : ∃ a : Nat, pick % ((es.length : Int) + 1) = (a : Int) ∧ a ≤ es.length := by
    have h1 := Int.emod_nonneg pick (b := (es.length : Int) + 1) (by omega)
    have h2 := Int.emod_lt_of_pos pick (b := (es.length : Int) + 1) (by omega)
    exact ⟨(pick % ((es.length : Int) + 1)).toNat, by omega, by omega⟩
  obtain ⟨kb, hkb, kb16⟩ : ∃ a : Nat, pick / 61 % 16 = (a : Int) ∧ a < 16 := by
    have h1 := Int.emod_nonneg (pick / 61) (b := 16) (by omega)
    have h2 := Int.emod_lt_of_pos (pick / 61) (b := 16) (by omega)
    exact ⟨(pick / 61 % 16).toNat, by omega, by omega⟩
  obtain ⟨kw, hkw, kw16⟩ : ∃ a : Nat, pick / 1009 % 16 = (a : Int) ∧ a < 16 := by
    have h1 := Int.emod_nonneg (pick / 1009) (b := 16) (by omega)
    have h2 := Int.emod_lt_of_pos (pick / 1009) (b := 16) (by omega)
    exact ⟨(pick / 1009 % 16).toNat, by omega, by omega⟩
  have hsplit : es.take at_ ++ es.drop at_ = es := List.take_append_drop at_ es
  have hoH : ∀ e ∈ es.take at_, e.ok := fun e he => ho e (List.mem_of_mem_take he)
  have hoT : ∀ e ∈ es.drop at_, e.ok := fun e he => ho e (List.mem_of_mem_drop he)
  have hT0 : (es.take at_).map evD = (es.map evD).take at_ := by simp
  have hT1 : (es.drop at_).map evD = (es.map evD).drop at_ := by simp
  obtain ⟨ins, hi⟩ : ∃ m, hist ((es.take at_).map some) 0 0 = .ok m := by
    rw [← hsplit, List.map_append] at h
    exact hist_pre h
  have hc := v_checked (cls_of hoH) (by simp; omega)
  rw [hi] at hc
  have hc : f__law_checked [.im (.tuple ((es.take at_).map evD))] = okd (.tuple [.str "ok", nm ins]) [.im (.tuple ((es.take at_).map evD))] := hc
  obtain ⟨b, ob, hb, cb, sb⟩ := bads_cl ins kb kb16
  obtain ⟨w, ow, hw, cw, sw⟩ := bads_cl ins kw kw16
  have hb : (bads ins)[kb]? = some b := hb
  have cH := cls_of hoH
  have cT := cls_of hoT
  have cE := cls_of ho
  have sE : osum (es.map some) ≤ 250 := by rw [osum_some]; exact hp
  have sHT : osum ((es.take at_).map some) + osum ((es.drop at_).map some) = osum (es.map some) := by
    rw [← osum_app, ← List.map_append, hsplit]
  have lH : ((es.take at_).map evD).length = at_ := by simp; omega
  have lT : ((es.drop at_).map evD).length = es.length - at_ := by simp
  have cut1 : cutD (es.map evD) none (some (at_ : Int)) = (es.take at_).map evD := by rw [cut_to, hT0]
  have cut2 : cutD (es.map evD) (some (at_ : Int)) none = (es.drop at_).map evD := by rw [cut_from, hT1]
  have lE : (es.map evD).length = es.length := by simp
  have cT1 := cls_of (es := (es.drop at_).drop 1) fun e he => hoT e (List.mem_of_mem_drop he)
  have cT2 := cls_of (es := (es.drop at_).take 1) fun e he => hoT e (List.mem_of_mem_take he)
  have cR := cls_of (es := es.reverse) fun e he => ho e (List.mem_reverse.mp he)
  have sR : osum (es.reverse.map some) = osum (es.map some) := by rw [List.map_reverse, osum_rev]
  have sT : osum (((es.drop at_).take 1).map some) + osum (((es.drop at_).drop 1).map some) = osum ((es.drop at_).map some) := by
    rw [← osum_app, ← List.map_append, List.take_append_drop]
  have cD1 := cls_one (d := evD (.drop 1)) (o := some (.drop 1)) ⟨rfl, Nat.le_refl 1⟩
  have cA1 := cls_one (d := evD .ask) (o := some .ask) ⟨rfl, trivial⟩
  have cut3 : cutD ((es.drop at_).map evD) (some 1) none = ((es.drop at_).drop 1).map evD := by
    rw [show ((es.drop at_).drop 1).map evD = ((es.drop at_).map evD).drop 1 from by simp]
    exact cut_from (k := 1)
  have cut4 : cutD ((es.drop at_).map evD) none (some 1) = ((es.drop at_).take 1).map evD := by
    rw [show ((es.drop at_).take 1).map evD = ((es.drop at_).map evD).take 1 from by simp]
    exact cut_to (k := 1)
  have l1 : (((es.drop at_).drop 1).map evD).length ≤ es.length - at_ := by simp; omega
  have l2 : (((es.drop at_).take 1).map evD).length ≤ 1 := by simp; omega
  have rE : es.reverse.map evD = (es.map evD).reverse := by simp
  rw [rE] at cR
  have tE : Thing (.tuple [.tuple (es.map evD)]) := thing_tup (cls_one cl_tup) (by simp) (by simp [osum])
  generalize ((es.drop at_).drop 1).map evD = T1 at *
  generalize ((es.drop at_).take 1).map evD = T2 at *
  generalize ((es.drop at_).drop 1).map some = oT1 at *
  generalize ((es.drop at_).take 1).map some = oT2 at *
  generalize es.reverse.map some = oR at *
  generalize (es.take at_).map evD = H at *
  generalize (es.drop at_).map evD = T at *
  generalize es.map evD = E at *
  generalize (es.take at_).map some = oH at *
  generalize (es.drop at_).map some = oT at *
  generalize es.map some = oE at *
  have hd1 : evD (.drop 1) = .tuple [.str "drop", .int 1] := rfl
  have ha1 : evD .ask = .tuple [.str "ask"] := rfl
  rw [hd1] at cD1
  rw [ha1] at cA1
  have sd : osum [some (Ev.drop 1)] = 0 := rfl
  have sa : osum [some Ev.ask] = 0 := rfl
  refine ⟨[.list E, .none, .str "ask", .tuple [.tuple E], .int 7, .tuple (H ++ [b] ++ T), .tuple (H ++ [b] ++ T ++ [w]), .tuple ([w] ++ E), .tuple (H ++ T1), .tuple (T ++ H), .tuple E.reverse,
    .tuple (H ++ [.tuple [.str "drop", .int 1]] ++ T), .tuple (H ++ [.tuple [.str "ask"]] ++ T), .tuple (H ++ T2 ++ T), .tuple (H ++ [b] ++ T1), .tuple (E ++ [.tuple [.str "drop", .int 1], b])], ?_, fun t ht => ?_, by simp⟩
  · have hb2 : ∀ h, (bads ins)[kb]'h = b := fun h => by
      have := List.getElem?_eq_getElem h
      rw [hb] at this
      exact (Option.some.inj this).symm
    have hw2 : ∀ h, (bads ins)[kw]'h = w := fun h => by
      have := List.getElem?_eq_getElem h
      rw [hw] at this
      exact (Option.some.inj this).symm
    unfold bads at hb hw hb2 hw2
    simp (disch := first | omega | (simp only [List.length_append, List.length_cons, List.length_nil]; done) | (simp only [List.length_append, List.length_cons, List.length_nil]; omega)) [g_mod, g_div, lE, ha, hkb, hkw, hb, hw, hb2, hw2, hc, cut1, cut2, cut3, cut4, g_addT, g_addL, line_ok, ltl_ok, ArI, Dl.dist, hasO, mrg]
  · simp only [List.mem_cons, List.not_mem_nil, or_false] at ht
    rcases ht with rfl | rfl | rfl | rfl | rfl | rfl | rfl | rfl | rfl | rfl | rfl | rfl | rfl | rfl | rfl | rfl
    · exact .inr rfl
    · exact .inr rfl
    · exact .inr rfl
    · exact tE
    · exact .inr rfl
    · exact thing_tup (cls_app (cls_app cH (cls_one cb)) cT) (by simp; omega) (by rw [osum_app, osum_app]; omega)
    · exact thing_tup (cls_app (cls_app (cls_app cH (cls_one cb)) cT) (cls_one cw)) (by simp; omega) (by rw [osum_app, osum_app, osum_app]; omega)
    · exact thing_tup (cls_app (cls_one cw) cE) (by simp; omega) (by rw [osum_app]; omega)
    · exact thing_tup (cls_app cH cT1) (by simp; omega) (by rw [osum_app]; omega)
    · exact thing_tup (cls_app cT cH) (by simp; omega) (by rw [osum_app]; omega)
    · exact thing_tup cR (by rw [List.length_reverse]; omega) (by omega)
    · exact thing_tup (cls_app (cls_app cH cD1) cT) (by simp; omega) (by rw [osum_app, osum_app]; omega)
    · exact thing_tup (cls_app (cls_app cH cA1) cT) (by simp; omega) (by rw [osum_app, osum_app]; omega)
    · exact thing_tup (cls_app (cls_app cH cT2) cT) (by simp; omega) (by rw [osum_app, osum_app]; omega)
    · exact thing_tup (cls_app (cls_app cH (cls_one cb)) cT1) (by simp; omega) (by rw [osum_app, osum_app]; omega)
    · exact thing_tup (cls_app cE (cls_app cD1 (cls_one cb))) (by simp; omega) (by rw [osum_app, osum_app]; omega)
theorem v_spoilt_histories {es : List Ev} {j : Nat} (ho : ∀ e ∈ es, e.ok) (h : hist (es.map some) 0 0 = .ok j) (hp : psum es ≤ 250) (hl : es.length ≤ 60) {pick : Int} (h0 : 0 ≤ pick) :
    f__law_spoilt_histories [.im (.tuple (es.map evD)), .im (.int pick)] = okd (.bool true) [.im (.tuple (es.map evD)), .im (.int pick)] := by
  unfold f__law_spoilt_histories m__law_spoilt_histories
  obtain ⟨ts, e1, e2, e3⟩ := v_spoilt ho h hp hl h0
  have key := loop_idx (tg := gN 2) (b := lp__law_spoilt_histories_0) ts
    (fun k n => ∃ (x y z : Sl), Fr x ∧ Fr y ∧ Fr z ∧ n = [.im (.tuple (es.map evD)), .im (.int pick), x, y, z])
    (fun k d n hd ⟨x, y, z, hx, hy, hz, hn⟩ => by
      subst hn
      obtain ⟨x', y', h1, h2, e⟩ := body_thing (a := .tuple (es.map evD)) (b := .int pick) (e2 d (List.mem_of_getElem? hd)) hy hz
      exact ⟨_, _, by simp [hx], e, _, _, _, fr_im, h1, h2, rfl⟩) [.im (.tuple (es.map evD)), .im (.int pick), .un, .un, .un] ⟨_, _, _, fr_un, fr_un, fr_un, rfl⟩
  obtain ⟨n', e, x, y, z, _, _, _, hn⟩ := key
  subst hn
  simp [e1, Dl.dist, hasO, e, mrg]
end K2
set_option Elab.async false
set_option linter.all false
set_option maxRecDepth 100000
namespace K2
open PySem Dl
theorem v_refused {w a b c : PD} {z : Str} (h : f__law_call [.im w, .im a, .im b, .im c] = okd (noD z) [.im w, .im a, .im b, .im c]) (hz : isAtom (.str z) = true) : f__law_refused [.im w, .im a, .im b, .im c, .im (.str z)] = okd (.bool true) [.im w, .im a, .im b, .im c, .im (.str z)] := by
  have s := law_same (sm_no hz)
  unfold noD at s h
  unfold f__law_refused m__law_refused
  simp [h, s, Dl.dist, hasO, line_ok, ArI, mrg]
theorem sm_order {p q : Nat × Nat} : Sm 4 (.tuple [.str "order", pr p, pr q, .bool true]) := sm_ge (k := 2) (sm_tup (k := 1) (by simp) fun e he => by
  simp at he
  rcases he with rfl | rfl | rfl | rfl
  · exact sm1 at_order
  · exact sm_pr p
  · exact sm_pr q
  · exact sm1 rfl) 2
def Thing2 (d : PD) : Prop := (∃ ds, d = .tuple ds ∧ ds.length < 64 ∧ ∀ x ∈ ds, ∀ p, x = pr p → p.2 ≤ 1000) ∨ isTup d = false
@[simp] theorem r_order_ok : gEq true (.str "order") (.str "ok") = some (.bool true) := by with_unfolding_all rfl
theorem body_thing2 {d a b c e f : PD} {x y : Sl} (h : Thing2 d) (hx : Fr x) (hy : Fr y) : ∃ x' y', Fr x' ∧ Fr y' ∧ lp__law_rows_0 [.im a, .im b, .im c, .im e, .im f, .im d, x, y] = some (.ok (.nx, [.im a, .im b, .im c, .im e, .im f, .im d, x', y'])) := by
  have gf : gIsB true (.bool false) (.bool false) = some (.bool false) := rfl
  have bad : ∀ d, f__law_asks [.im d] = okd (.bool false) [.im d] → f_is_asks [.im d] = okd (.bool false) [.im d] → f_is_queue [.im d] = okd (.bool false) [.im d] → lp__law_rows_0 [.im a, .im b, .im c, .im e, .im f, .im d, x, y] = some (.ok (.nx, [.im a, .im b, .im c, .im e, .im f, .im d, x, y])) := fun d h1 h2 h3 => by
    have r := v_refused (call_hist_e (b := .none) (c := .none) (v_history_by_f h2)) at_queue
    simp [lp__law_rows_0, h1, r, h3, Dl.dist, hasO, gf]
  rcases h with ⟨ds, rfl, hl, hbx⟩ | hn
  · rcases v_law_asks ds with ⟨e1, ok⟩ | ⟨e1, nok⟩
    · obtain ⟨r, rfl, hr⟩ := row_of ok
      have hl2 : r.length < 64 := by simpa using hl
      have hb2 : ∀ q ∈ r, q.2 ≤ 1000 := fun q hq => hbx (pr q) (List.mem_map_of_mem hq) q rfl
      have e2 := v_law_fault hr (by omega)
      have e3 := v_is_queue hr (by omega)
      cases cr : crs r with
      | none =>
        have hq : Qu r = true := by rw [qu_crs.1, cr]; rfl
        rw [hq] at e3
        rw [cr] at e2
        obtain ⟨a1, a2, a3⟩ := v_hist_row hr hq hl2 hb2
        have k1 := call_hist (b := .none) (c := .none) a1
        have s1 := law_same (sm_row4 (r := r) (by omega))
        have s2 := law_same (d := .bool true) (sm1 rfl)
        have hd : rowD r = .tuple (r.map pr) := rfl
        rw [hd] at e2 e3 k1 a2 a3 s1
        refine ⟨.im .none, .im (.tuple [.str "ok", .tuple ((hb r 0 0).map evD)]), fr_im, fr_im, ?_⟩
        simp [lp__law_rows_0, e1, e2, crD, k1, e3, s2, a2, a3, s1, Dl.dist, hasO, hx, hy, ArI, gIsN]
      | some z =>
        obtain ⟨p, q⟩ := z
        have hq : Qu r = false := by rw [qu_crs.1, cr]; rfl
        rw [hq] at e3
        rw [cr] at e2
        have k1 := call_hist_o (b := .none) (c := .none) (v_history_by_o hr (by omega) cr)
        have s1 := law_same (sm_order (p := p) (q := q))
        have s2 := law_same (d := .bool false) (sm1 rfl)
        have hd : rowD r = .tuple (r.map pr) := rfl
        rw [hd] at e2 e3 k1
        refine ⟨.im (.tuple [pr p, pr q]), .im (.tuple [.str "order", pr p, pr q, .bool true]), fr_im, fr_im, ?_⟩
        simp [lp__law_rows_0, e1, e2, crD, k1, e3, s2, s1, Dl.dist, hasO, hx, hy, ArI, gIsN, line_ok]
    · exact ⟨x, y, hx, hy, bad _ e1 (v_is_asks_f nok) (v_is_queue_f nok)⟩
  · exact ⟨x, y, hx, hy, bad _ (v_law_asks_n hn) (v_is_asks_n hn) (v_is_queue_n hn)⟩
def badr : List PD := [.tuple [.int 2, .int 2], .list [.int 0, .int 1], .tuple [.int 0, .bool true], .none, .tuple [.int 1, .int 2, .int 3], .str "0-1", .tuple [.int (-1), .int 2], .int 5]
theorem badr_b {k : Nat} (hk : k < 8) : ∃ b, badr[k]? = some b ∧ ∀ p, b = pr p → p.2 ≤ 1000 := by
  match k, hk with
  | 0, _ => exact ⟨_, rfl, fun p h => by simp [pr] at h; omega⟩
  | 1, _ => exact ⟨_, rfl, fun p h => by simp [pr] at h⟩
  | 2, _ => exact ⟨_, rfl, fun p h => by simp [pr] at h⟩
  | 3, _ => exact ⟨_, rfl, fun p h => by simp [pr] at h⟩
  | 4, _ => exact ⟨_, rfl, fun p h => by simp [pr] at h⟩
  | 5, _ => exact ⟨_, rfl, fun p h => by simp [pr] at h⟩
  | 6, _ => exact ⟨_, rfl, fun p h => by simp [pr] at h⟩
  | 7, _ => exact ⟨_, rfl, fun p h => by simp [pr] at h⟩
  | k + 8, h => exact absurd h (by omega)
theorem v_law_rows {R : List (Nat × Nat)} (hl : R.length ≤ 20) (hb : ∀ q ∈ R, q.1 ≤ 1000 ∧ q.2 ≤ 1000) {pick : Int} (h0 : 0 ≤ pick) : f__law_rows [.im (rowD R), .im (.int pick)] = okd (.bool true) [.im (rowD R), .im (.int pick)] := by
  unfold f__law_rows m__law_rows
  obtain ⟨at_, ha, hal⟩ : ∃ a : Nat, pick % ((R.length : Int) + 1) = (a : Int) ∧ a ≤ R.length := by
    have h1 := Int.emod_nonneg pick (b := (R.length : Int) + 1) (by omega)
    have h2 := Int.emod_lt_of_pos pick (b := (R.length : Int) + 1) (by omega)
    exact ⟨(pick % ((R.length : Int) + 1)).toNat, by omega, by omega⟩
  obtain ⟨kb, hkb, kb8⟩ : ∃ a : Nat, pick / 61 % 8 = (a : Int) ∧ a < 8 := by
    have h1 := Int.emod_nonneg (pick / 61) (b := 8) (by omega)
    have h2 := Int.emod_lt_of_pos (pick / 61) (b := 8) (by omega)
    exact ⟨(pick / 61 % 8).toNat, by omega, by omega⟩
  obtain ⟨b, hb1, hb2⟩ := badr_b kb8
  have hb3 : ∀ h, badr[kb]'h = b := fun h => by
    have := List.getElem?_eq_getElem h
    rw [hb1] at this
    exact (Option.some.inj this).symm
  have hl2 : (R ++ [(0, 50), (1, 3)]).length < 64 := by simp; omega
  have hbq : Bq (R ++ [(0, 50), (1, 3)]) := fun p hp => by
    rcases List.mem_append.mp hp with hp | hp
    · have := hb p hp
      omega
    · simp at hp
      rcases hp with rfl | rfl <;> decide
  have hli := v_line (g_srtT hl2 hbq) (by omega)
  have hmp : (R ++ [(0, 50), (1, 3)]).map pr = R.map pr ++ [.tuple [.int 0, .int 50], .tuple [.int 1, .int 3]] := by simp [pr]
  rw [hmp] at hli
  have hin : ∀ x ∈ R.map pr, ∀ p, x = pr p → p.2 ≤ 1000 := fun x hx p e => by
    obtain ⟨q, hq, e2⟩ := List.mem_map.mp hx
    rw [e, pr_inj] at e2
    subst e2
    exact (hb q hq).2
  have hu : Thing2 (rowD (uq (R ++ [(0, 50), (1, 3)]))) := .inl ⟨_, rfl, by have := uq_len (R ++ [(0, 50), (1, 3)]); simp at this ⊢; omega, fun x hx p e => by
    obtain ⟨q, hq, e2⟩ := List.mem_map.mp hx
    rw [e, pr_inj] at e2
    subst e2
    rcases List.mem_append.mp (mem_uq.mp hq) with hq | hq
    · exact (hb q hq).2
    · simp at hq
      rcases hq with rfl | rfl <;> decide⟩
  have hR : rowD R = .tuple (R.map pr) := rfl
  rw [hR]
  generalize rowD (uq (R ++ [(0, 50), (1, 3)])) = U at *
  have cut1 : cutD (R.map pr) none (some (at_ : Int)) = (R.map pr).take at_ := cut_to
  have cut2 : cutD (R.map pr) (some (at_ : Int)) none = (R.map pr).drop at_ := cut_from
  have cut3 : cutD (R.map pr) (some ((at_ : Int) + 1)) none = (R.map pr).drop (at_ + 1) := cut_next
  have cut4 : cutD (R.map pr) none (some 1) = (R.map pr).take 1 := cut_to (k := 1)
  have m1 : ∀ x ∈ (R.map pr).take at_, ∀ p, x = pr p → p.2 ≤ 1000 := fun x hx => hin x (List.mem_of_mem_take hx)
  have m2 : ∀ x ∈ (R.map pr).drop at_, ∀ p, x = pr p → p.2 ≤ 1000 := fun x hx => hin x (List.mem_of_mem_drop hx)
  have m3 : ∀ x ∈ (R.map pr).drop (at_ + 1), ∀ p, x = pr p → p.2 ≤ 1000 := fun x hx => hin x (List.mem_of_mem_drop hx)
  have m4 : ∀ x ∈ (R.map pr).take 1, ∀ p, x = pr p → p.2 ≤ 1000 := fun x hx => hin x (List.mem_of_mem_take hx)
  have n1 : ((R.map pr).take at_).length ≤ 20 := by simp; omega
  have n2 : ((R.map pr).drop at_).length ≤ 20 := by simp; omega
  have n3 : ((R.map pr).drop (at_ + 1)).length ≤ 20 := by simp; omega
  have n4 : ((R.map pr).take 1).length ≤ 20 := by simp; omega
  have n5 : (R.map pr).length ≤ 20 := by simpa using hl
  have n6 : ((R.map pr).length : Int) = (R.length : Int) := by simp
  generalize (R.map pr).take at_ = A at *
  generalize (R.map pr).drop at_ = B at *
  generalize (R.map pr).drop (at_ + 1) = C at *
  generalize (R.map pr).take 1 = D at *
  generalize hE : R.map pr = E at *
  have two : ∀ {a b : List PD}, (∀ x ∈ a, ∀ p, x = pr p → p.2 ≤ 1000) → (∀ x ∈ b, ∀ p, x = pr p → p.2 ≤ 1000) → ∀ x ∈ a ++ b, ∀ p, x = pr p → p.2 ≤ 1000 := fun h1 h2 x hx => by
    rcases List.mem_append.mp hx with hx | hx
    · exact h1 x hx
    · exact h2 x hx
  have one : ∀ x ∈ [b], ∀ p, x = pr p → p.2 ≤ 1000 := fun x hx => by
    have : x = b := by simpa using hx
    rw [this]
    exact hb2
  have key := loop_idx (tg := gN 5) (b := lp__law_rows_0) [.tuple E, .list E, .none, .tuple (E ++ D), .tuple E.reverse, .tuple (A ++ b :: B), .tuple [.tuple E], .tuple (B ++ A), .tuple (A ++ C), .tuple B, .int 3, .tuple (b :: B), U]
    (fun k n => ∃ (x y z : Sl), Fr x ∧ Fr y ∧ Fr z ∧ n = [.im (.tuple E), .im (.int pick), .im (.int at_), .im (.tuple [b]), .im (.list [.tuple E, .list E, .none, .tuple (E ++ D), .tuple E.reverse, .tuple (A ++ b :: B), .tuple [.tuple E], .tuple (B ++ A), .tuple (A ++ C), .tuple B, .int 3, .tuple (b :: B), U]), x, y, z])
    (fun k d n hd ⟨x, y, z, hx, hy, hz, hn⟩ => by
      subst hn
      have ht : Thing2 d := by
        have hd := List.mem_of_getElem? hd
        simp only [List.mem_cons, List.not_mem_nil, or_false] at hd
        rcases hd with rfl | rfl | rfl | rfl | rfl | rfl | rfl | rfl | rfl | rfl | rfl | rfl | rfl
        · exact .inl ⟨_, rfl, by omega, hin⟩
        · exact .inr rfl
        · exact .inr rfl
        · exact .inl ⟨_, rfl, by simp; omega, two hin m4⟩
        · exact .inl ⟨_, rfl, by rw [List.length_reverse]; omega, fun x hx => hin x (List.mem_reverse.mp hx)⟩
        · exact .inl ⟨_, rfl, by simp; omega, two m1 (two one m2)⟩
        · exact .inl ⟨_, rfl, by simp, fun x hx p e => by
            have hx : x = .tuple E := by simpa using hx
            rw [hx] at e
            unfold pr at e
            injection e with e
            have h2 : PyData.int (p.2 : Int) ∈ E := by rw [e]; simp
            rw [← hE] at h2
            obtain ⟨q, _, h3⟩ := List.mem_map.mp h2
            simp [pr] at h3⟩
        · exact .inl ⟨_, rfl, by simp; omega, two m2 m1⟩
        · exact .inl ⟨_, rfl, by simp; omega, two m1 m3⟩
        · exact .inl ⟨_, rfl, by omega, m2⟩
        · exact .inr rfl
        · exact .inl ⟨_, rfl, by simp; omega, two one m2⟩
        · exact hu
      obtain ⟨y', z', h1, h2, e⟩ := body_thing2 (a := .tuple E) (b := .int pick) (c := .int at_) (e := .tuple [b]) (f := .list [.tuple E, .list E, .none, .tuple (E ++ D), .tuple E.reverse, .tuple (A ++ b :: B), .tuple [.tuple E], .tuple (B ++ A), .tuple (A ++ C), .tuple B, .int 3, .tuple (b :: B), U]) ht hy hz
      exact ⟨_, _, by simp [hx], e, _, _, _, fr_im, h1, h2, rfl⟩) [.im (.tuple E), .im (.int pick), .im (.int at_), .im (.tuple [b]), .im (.list [.tuple E, .list E, .none, .tuple (E ++ D), .tuple E.reverse, .tuple (A ++ b :: B), .tuple [.tuple E], .tuple (B ++ A), .tuple (A ++ C), .tuple B, .int 3, .tuple (b :: B), U]), .un, .un, .un] ⟨_, _, _, fr_un, fr_un, fr_un, rfl⟩
  obtain ⟨n', e, x, y, z, _, _, _, hn⟩ := key
  subst hn
  unfold badr at hb1 hb3
  simp (disch := first | omega | (simp only [List.length_append, List.length_cons, List.length_nil]; done) | (simp only [List.length_append, List.length_cons, List.length_nil]; omega)) [g_mod, g_div, n6, ha, hkb, hb1, hb3, cut1, cut2, cut3, cut4, g_addT, g_addL, hli, line_ok, ltl_ok, ArI, Dl.dist, hasO, e, mrg]
end K2
set_option Elab.async false
set_option linter.all false
set_option maxRecDepth 100000
namespace K2
open PySem Dl
theorem g_mulL {i j : Int} (h : -(2 ^ 64) < i) (h2 : i < 2 ^ 64) : gMul (.int i) (.int j) = some (.int (i * j)) := by
  show (if mul2 i j = true then _ else _) = _
  exact if_pos (Bool.or_eq_true_iff.mpr (.inl (decide_eq_true (.inl ⟨h, h2⟩))))
theorem modN {a b : Int} (hb : 0 < b) : ∃ m : Nat, a % b = (m : Int) ∧ (m : Int) < b := by
  have h1 := Int.emod_nonneg a (b := b) (by omega)
  have h2 := Int.emod_lt_of_pos a hb
  exact ⟨(a % b).toNat, by omega, by omega⟩
def Drawn (vs bs : List Nat) : Prop := vs.length = bs.length ∧ ∀ (k : Nat) v b, vs[k]? = some v → bs[k]? = some b → v < b
theorem drawn_snoc {vs : List Nat} {bs : List Nat} {v b : Nat} (h : Drawn vs (bs.take vs.length)) (hb : bs[vs.length]? = some b) (hv : v < b) : Drawn (vs ++ [v]) (bs.take (vs.length + 1)) := by
  obtain ⟨hk, e⟩ := List.getElem?_eq_some_iff.mp hb
  refine ⟨by simp; omega, fun k x y h1 h2 => ?_⟩
  have hk2 : k < vs.length + 1 := by
    have := (List.getElem?_eq_some_iff.mp h1).1
    simpa using this
  rw [List.getElem?_take_of_lt hk2] at h2
  by_cases q : k < vs.length
  · rw [List.getElem?_append_left q] at h1
    exact h.2 k x y h1 (by rw [List.getElem?_take_of_lt q]; exact h2)
  · have : k = vs.length := by omega
    subst this
    rw [List.getElem?_append_right (Nat.le_refl _)] at h1
    simp at h1
    rw [hb] at h2
    cases h2
    subst h1
    exact hv
abbrev nms (vs : List Nat) : List PD := vs.map nm
theorem v_nums {ns : List Int} {a : Nat} {bs : List Nat} (hn : ns.length ≤ 63) (hb : ∀ b ∈ bs, 0 < b ∧ b ≤ 1000000) (hl : bs.length ≤ 100) :
    ∃ vs, Drawn vs bs ∧ f__law_nums [.im (.list (ns.map .int)), .im (nm a), .im (.list (nms bs))] = Dl.ret (.l (nms vs)) [.im (.list (ns.map .int)), .im (nm a), .im (.list (nms bs))] := by
  unfold f__law_nums m__law_nums
  have key1 := fun (c : Int) (s : Int) => loop_idx (tg := gN 5) (b := lp__law_nums_0) (ns.map .int)
    (fun k n => ∃ (s : Int) (x : Sl), Fr x ∧ n = [.im (.list (ns.map .int)), .im (nm a), .im (.list (nms bs)), .im (.int c), .im (.int s), x, .un, .un, .un, .un])
    (fun k d n hd ⟨s, x, hx, hn⟩ => by
      subst hn
      rw [List.getElem?_map] at hd
      obtain ⟨i, _, rfl⟩ := Option.map_eq_some_iff.mp hd
      refine ⟨[.im (.list (ns.map .int)), .im (nm a), .im (.list (nms bs)), .im (.int c), .im (.int s), .im (.int i), .un, .un, .un, .un], [.im (.list (ns.map .int)), .im (nm a), .im (.list (nms bs)), .im (.int c), .im (.int ((s * 9973 + i) % 1000000021)), .im (.int i), .un, .un, .un, .un], by simp [hx], ?_, _, _, fr_im, rfl⟩
      simp [lp__law_nums_0, g_mul, g_mod]) [.im (.list (ns.map .int)), .im (nm a), .im (.list (nms bs)), .im (.int c), .im (.int s), .un, .un, .un, .un, .un] ⟨_, _, fr_un, rfl⟩
  have key2 := fun (c s : Int) (x : Sl) (f : Bool) (m : Int) => loop_idx (tg := gN 9) (b := lp__law_nums_1) (nms bs)
    (fun k n => ∃ (c m : Int) (vs : List Nat) (y : Sl), Fr y ∧ n = [.im (.list (ns.map .int)), .im (nm a), .im (.list (nms bs)), .im (.int c), .im (.int s), x, .im (.bool f), .im (.int m), .ow false (.l (nms vs)), y] ∧ vs.length = k ∧ Drawn vs (bs.take k))
    (fun k d n hd ⟨c, m, vs, y, hy, hn, hv, hD⟩ => by
      subst hn
      rw [List.getElem?_map] at hd
      obtain ⟨b, hbk, rfl⟩ := Option.map_eq_some_iff.mp hd
      have hbb := hb b (List.mem_of_getElem? hbk)
      have hkl := (List.getElem?_eq_some_iff.mp hbk).1
      subst hv
      have b0 : (0 : Int) < (b : Int) := by omega
      have b1 : (b : Int) < 1000000000000 := by omega
      have lo := ltl_ok (k := vs.length) (by omega)
      by_cases q : f = true ∧ 0 < c
      · obtain ⟨v, hv, hvb⟩ := modN (a := c) b0
        refine ⟨[.im (.list (ns.map .int)), .im (nm a), .im (.list (nms bs)), .im (.int c), .im (.int s), x, .im (.bool f), .im (.int m), .ow false (.l (nms vs)), .im (nm b)], [.im (.list (ns.map .int)), .im (nm a), .im (.list (nms bs)), .im (.int (c / b)), .im (.int s), x, .im (.bool f), .im (.int m), .ow false (.l (nms (vs ++ [v]))), .im (nm b)], by simp [hy], ?_, _, _, vs ++ [v], _, fr_im, rfl, by simp, drawn_snoc hD hbk (by omega)⟩
        simp [lp__law_nums_1, q.1, q.2, g_mod b0, g_div b0 b1, hv, lo]
      · obtain ⟨v, hv, hvb⟩ := modN (a := (m * 40014 + 7919) % 2147483563 / 113) b0
        refine ⟨[.im (.list (ns.map .int)), .im (nm a), .im (.list (nms bs)), .im (.int c), .im (.int s), x, .im (.bool f), .im (.int m), .ow false (.l (nms vs)), .im (nm b)], [.im (.list (ns.map .int)), .im (nm a), .im (.list (nms bs)), .im (.int c), .im (.int s), x, .im (.bool f), .im (.int ((m * 40014 + 7919) % 2147483563)), .ow false (.l (nms (vs ++ [v]))), .im (nm b)], by simp [hy], ?_, _, _, vs ++ [v], _, fr_im, rfl, by simp, drawn_snoc hD hbk (by omega)⟩
        cases f with
        | false => simp [lp__law_nums_1, g_mod, g_mod b0, g_div, hv, lo, g_mul]
        | true =>
          have q : ¬ 0 < c := fun z => q ⟨rfl, z⟩
          simp [lp__law_nums_1, q, g_mod, g_mod b0, g_div, hv, lo, g_mul]) [.im (.list (ns.map .int)), .im (nm a), .im (.list (nms bs)), .im (.int c), .im (.int s), x, .im (.bool f), .im (.int m), .ow false (.l []), .un] ⟨_, _, [], _, fr_un, rfl, rfl, ⟨by simp, fun k v b h => by simp at h⟩⟩
  have fin : ∀ c s : Int, ∃ vs, Drawn vs bs ∧ (Dl.fin [.im (.list (ns.map .int)), .im (nm a), .im (.list (nms bs))] ((sSeq (sIf (tVal (eBin gLt (eV 3) (eC (.int 0)))) (sSet 3 (eBin Dl.gSub (eC (.int 3)) (eBin gMul (eC (.int 4)) (eV 3)))) sNext)
    (sSeq (sSet 4 (eBin gAdd (eC (.int 2203)) (eBin gMul (eC (.int 41)) (eCb gLen (aCons (eV 0) aNil)))))
    (sSeq (sFor (iL (eV 0)) (gN 5) (lp__law_nums_0))
    (sSeq (sSet 6 (eBin gGe (eV 3) (eC (.int 1000000000000000000))))
    (sSeq (sSet 7 (eBin gMod (eCb gInt (aCons (eBin gAdd (eBin gAdd (eBin gAdd (eBin gMul (eV 4) (eC (.int 331))) (eBin gMul (eV 3) (eC (.int 67)))) (eBin gMul (eV 1) (eC (.int 20959)))) (eC (.int 5))) aNil)) (eC (.int 2147483563))))
    (sSeq (sNew 8 (oLst aNil))
    (sSeq (sFor (iL (eV 2)) (gN 9) (lp__law_nums_1))
    (sRet (eV 8))))))))) [.im (.list (ns.map .int)), .im (nm a), .im (.list (nms bs)), .im (.int c), .un, .un, .un, .un, .un, .un]) = Dl.ret (.l (nms vs)) [.im (.list (ns.map .int)), .im (nm a), .im (.list (nms bs))]) := fun c0 _ => by
    obtain ⟨c, hc⟩ : ∃ c : Int, c = if c0 < 0 then 3 - 4 * c0 else c0 := ⟨_, rfl⟩
    have hsd : ∃ s : Int, s = 2203 + 41 * (ns.length : Int) := ⟨_, rfl⟩
    obtain ⟨s0, hs0⟩ := hsd
    obtain ⟨n1, e1, s, x, hx, hn1⟩ := key1 c s0
    subst hn1
    obtain ⟨n2, e2, c2, m2, vs, y, hy, hn2, hv, hD⟩ := key2 c s x (decide (1000000000000000000 ≤ c)) ((s * 331 + c * 67 + (a : Int) * 20959 + 5) % 2147483563)
    subst hn2
    have hlb : (nms bs).length = bs.length := by simp
    rw [hlb, List.take_length] at hD
    refine ⟨vs, hD, ?_⟩
    have hm1 : gMul (.int 41) (.int (ns.length : Int)) = some (.int (41 * (ns.length : Int))) := g_mulL (by decide) (by decide)
    have hm4 : ∀ z : Int, gMul (.int 4) (.int z) = some (.int (4 * z)) := fun z => g_mulL (by decide) (by decide)
    rw [hs0] at e1
    by_cases q : c0 < 0
    · rw [if_pos q] at hc
      subst hc
      simp [q, hm4, hm1, e1, e2, g_mul, g_mod, line_ok, mrg]
    · rw [if_neg q] at hc
      subst hc
      simp [q, hm1, e1, e2, g_mul, g_mod, line_ok, mrg]
  by_cases h : a < ns.length
  · obtain ⟨vs, hD, e⟩ := fin ns[a] 0
    refine ⟨vs, hD, ?_⟩
    have hg : (ns.map PyData.int)[a]? = some (.int ns[a]) := by rw [List.getElem?_map, List.getElem?_eq_getElem h]; rfl
    rw [← e]
    have h2 : (a : Int) < (ns.length : Int) := by omega
    simp [h, h2, hg]
  · obtain ⟨vs, hD, e⟩ := fin 0 0
    refine ⟨vs, hD, ?_⟩
    rw [← e]
    have h2 : ¬ (a : Int) < (ns.length : Int) := by omega
    simp [h, h2]
end K2
set_option Elab.async false
set_option linter.all false
set_option maxRecDepth 100000
namespace K2
open PySem Dl
theorem hist_snoc : ∀ {os : List (Option Ev)} {k i m : Nat} {o : Option Ev}, hist os k i = .ok m → hist (os ++ [o]) k i = hist [o] (k + os.length) m
  | [], k, i, m, o, h => by
    cases h
    rfl
  | none :: r, k, i, m, o, h => by cases h
  | some (.put n) :: r, k, i, m, o, h => by
    have := hist_snoc (os := r) (o := o) (h : hist r (k + 1) (i + n) = .ok m)
    rw [List.length_cons, show k + (r.length + 1) = k + 1 + r.length by omega]
    exact this
  | some .ask :: r, k, i, m, o, h => by
    have := hist_snoc (os := r) (o := o) (h : hist r (k + 1) i = .ok m)
    rw [List.length_cons, show k + (r.length + 1) = k + 1 + r.length by omega]
    exact this
  | some (.drop n) :: r, k, i, m, o, h => by
    have h : (if i < n then Hr.bad "drop" k else hist r (k + 1) (i - n)) = .ok m := h
    split at h
    · cases h
    · rename_i q
      have := hist_snoc (os := r) (o := o) h
      rw [List.length_cons, show k + (r.length + 1) = k + 1 + r.length by omega]
      show (if i < n then Hr.bad "drop" k else hist (r ++ [o]) (k + 1) (i - n)) = _
      rw [if_neg q]
      exact this
theorem psum_snoc : ∀ (es : List Ev) (e : Ev), psum (es ++ [e]) = psum es + psum [e]
  | [], e => by simp [psum]
  | .put n :: r, e => by simp only [List.cons_append, psum, psum_snoc r e]; omega
  | .drop n :: r, e => by simp only [List.cons_append, psum, psum_snoc r e]
  | .ask :: r, e => by simp only [List.cons_append, psum, psum_snoc r e]
theorem v_law_events {vs : List Nat} (hl : vs.length = 60) (h1 : ∀ v, vs[1]? = some v → v < 58) :
    ∃ es j, f__law_events [.im (.list (nms vs))] = okd (.tuple (es.map evD)) [.im (.list (nms vs))] ∧ (∀ e ∈ es, e.ok) ∧ hist (es.map some) 0 0 = .ok j ∧ psum es ≤ 120 ∧ es.length ≤ 57 := by
  unfold f__law_events m__law_events
  obtain ⟨v0, hv0⟩ : ∃ v, vs[0]? = some v := ⟨_, List.getElem?_eq_getElem (by omega)⟩
  obtain ⟨v1, hv1⟩ : ∃ v, vs[1]? = some v := ⟨_, List.getElem?_eq_getElem (by omega)⟩
  have hb1 := h1 v1 hv1
  have key := fun (m rc : Nat) (hm : m ≤ 57) (hr : 0 < rc) (hr2 : rc ≤ 40) => loop_idx (tg := gN 6) (b := lp__law_events_0) (rngD 0 m)
    (fun k n => ∃ (es : List Ev) (i : Nat) (x y z : Sl), Fr x ∧ Fr y ∧ Fr z ∧ n = [.im (.list (nms vs)), .im (nm m), .im (nm rc), .ow false (.l (es.map evD)), .im (nm i), .im (nm (psum es)), x, y, z] ∧ (∀ e ∈ es, e.ok) ∧ hist (es.map some) 0 0 = .ok i ∧ psum es ≤ 120 ∧ es.length = k)
    (fun k d n hd ⟨es, i, x, y, z, hx, hy, hz, hn, ho, hh, hp, hlen⟩ => by
      subst hn
      obtain ⟨hk, rfl⟩ := rng_get hd
      rw [Int.zero_add]
      obtain ⟨v, hv⟩ : ∃ v, vs[2 + k]? = some v := ⟨_, List.getElem?_eq_getElem (by omega)⟩
      have hg : L2.atI (nms vs) (2 + (k : Int)) = some (nm v) := by
        rw [show (2 : Int) + (k : Int) = ((2 + k : Nat) : Int) by omega, at_k, List.getElem?_map, hv]
        rfl
      have rc0 : (0 : Int) < (rc : Int) := by omega
      obtain ⟨kd, hkd, kd4⟩ := modN (a := (v : Int)) (b := 4) (by decide)
      obtain ⟨sz, hsz, szr⟩ := modN (a := (v : Int) / 4) rc0
      have lo := ltl_ok (k := es.length) (by omega)
      have t1 : gN 6 (.int (k : Int)) [.im (.list (nms vs)), .im (nm m), .im (nm rc), .ow false (.l (es.map evD)), .im (nm i), .im (nm (psum es)), x, y, z] = some [.im (.list (nms vs)), .im (nm m), .im (nm rc), .ow false (.l (es.map evD)), .im (nm i), .im (nm (psum es)), .im (.int k), y, z] := by simp [hx]
      have hs1 : (1 : Int) + (sz : Int) = ((sz + 1 : Nat) : Int) := by omega
      have hms : hist ((es ++ [Ev.put (sz + 1)]).map some) 0 0 = .ok (i + (sz + 1)) := by
        rw [List.map_append]
        exact (hist_snoc hh)
      have hma : hist ((es ++ [Ev.ask]).map some) 0 0 = .ok i := by
        rw [List.map_append]
        exact (hist_snoc hh)
      have hmd : ∀ n, n ≤ i → hist ((es ++ [Ev.drop n]).map some) 0 0 = .ok (i - n) := fun n hn => by
        rw [List.map_append]
        refine (hist_snoc hh).trans ?_
        show (if i < n then _ else _) = _
        rw [if_neg (by omega)]
        rfl
      have okS : ∀ e : Ev, e.ok → ∀ a ∈ es ++ [e], a.ok := fun e he a ha => by
        rcases List.mem_append.mp ha with ha | ha
        · exact ho a ha
        · have : a = e := by simpa using ha
          rw [this]
          exact he
      by_cases c : (kd = 0 ∨ (kd = 1 ∧ i = 0)) ∧ psum es + (sz + 1) ≤ 120
      · refine ⟨_, [.im (.list (nms vs)), .im (nm m), .im (nm rc), .ow false (.l ((es ++ [Ev.put (sz + 1)]).map evD)), .im (nm (i + (sz + 1))), .im (nm (psum (es ++ [Ev.put (sz + 1)]))), .im (.int k), .im (nm kd), .im (nm (sz + 1))], t1, ?_, es ++ [Ev.put (sz + 1)], i + (sz + 1), _, _, _, fr_im, fr_im, fr_im, rfl, okS _ (show 1 ≤ sz + 1 by omega), hms, by rw [psum_snoc]; simp [psum]; omega, by simp; omega⟩
        have c2 : (psum es : Int) + ((sz : Int) + 1) ≤ 120 := by omega
        have e1 : psum (es ++ [Ev.put (sz + 1)]) = psum es + (sz + 1) := by rw [psum_snoc]; simp [psum]
        rw [e1]
        rcases c.1 with rfl | ⟨rfl, rfl⟩
        · simp [lp__law_events_0, hg, g_mod, g_mod rc0, g_div, hkd, hsz, hy, hz, hs1, c2, lo, line_ok, ArI, evD]
        · simp [lp__law_events_0, hg, g_mod, g_mod rc0, g_div, hkd, hsz, hy, hz, hs1, c2, lo, line_ok, ArI, evD]
      · by_cases c3 : kd = 1 ∧ 0 < i
        · obtain ⟨rfl, ci⟩ := c3
          obtain ⟨w, hw⟩ : ∃ w : Nat, w = min (sz + 1) i := ⟨_, rfl⟩
          have hw2 : (if (i : Int) < (sz : Int) + 1 then (i : Int) else (sz : Int) + 1) = (w : Int) := by split <;> omega
          have e1 : psum (es ++ [Ev.drop w]) = psum es := by rw [psum_snoc]; simp [psum]
          refine ⟨_, [.im (.list (nms vs)), .im (nm m), .im (nm rc), .ow false (.l ((es ++ [Ev.drop w]).map evD)), .im (nm (i - w)), .im (nm (psum (es ++ [Ev.drop w]))), .im (.int k), .im (nm 1), .im (nm (sz + 1))], t1, ?_, es ++ [Ev.drop w], i - w, _, _, _, fr_im, fr_im, fr_im, rfl, okS _ (show 1 ≤ w by omega), hmd w (by omega), by omega, by simp; omega⟩
          rw [e1]
          have ci2 : ¬ i = 0 := by omega
          have s2 : (i : Int) - (w : Int) = ((i - w : Nat) : Int) := by omega
          simp [lp__law_events_0, hg, g_mod, g_mod rc0, g_div, hkd, hsz, hy, hz, hs1, ci, ci2, hw2, lo, line_ok, ArI, evD, s2]
        · have e1 : psum (es ++ [Ev.ask]) = psum es := by rw [psum_snoc]; simp [psum]
          refine ⟨_, [.im (.list (nms vs)), .im (nm m), .im (nm rc), .ow false (.l ((es ++ [Ev.ask]).map evD)), .im (nm i), .im (nm (psum (es ++ [Ev.ask]))), .im (.int k), .im (nm kd), .im (nm (sz + 1))], t1, ?_, es ++ [Ev.ask], i, _, _, _, fr_im, fr_im, fr_im, rfl, okS _ trivial, hma, by omega, by simp; omega⟩
          rw [e1]
          have kk : kd = 0 ∨ kd = 1 ∨ 1 < kd := by omega
          rcases kk with rfl | rfl | kk
          · have c2 : ¬ ((psum es : Int) + ((sz : Int) + 1) ≤ 120) := fun z => c ⟨.inl rfl, by omega⟩
            simp [lp__law_events_0, hg, g_mod, g_mod rc0, g_div, hkd, hsz, hy, hz, hs1, c2, lo, line_ok, ArI, evD]
          · have ci : i = 0 := by omega
            subst ci
            have c2 : ¬ ((psum es : Int) + ((sz : Int) + 1) ≤ 120) := fun z => c ⟨.inr ⟨rfl, rfl⟩, by omega⟩
            simp [lp__law_events_0, hg, g_mod, g_mod rc0, g_div, hkd, hsz, hy, hz, hs1, c2, lo, line_ok, ArI, evD]
          · have k0 : ¬ (kd = 0) := by omega
            have k1 : ¬ (kd = 1) := by omega
            have k0' : ¬ ((kd : Int) = 0) := by omega
            have k1' : ¬ ((kd : Int) = 1) := by omega
            simp [lp__law_events_0, hg, g_mod, g_mod rc0, g_div, hkd, hsz, hy, hz, hs1, k0, k1, k0', k1', lo, line_ok, ArI, evD]) [.im (.list (nms vs)), .im (nm m), .im (nm rc), .ow false (.l []), .im (.int 0), .im (.int 0), .un, .un, .un] ⟨[], 0, _, _, _, fr_un, fr_un, fr_un, rfl, (fun e he => nomatch he), rfl, by simp [psum], rfl⟩
  have g0 : (nms vs)[0]? = some (nm v0) := by rw [List.getElem?_map, hv0]; rfl
  have g1 : (nms vs)[1]? = some (nm v1) := by rw [List.getElem?_map, hv1]; rfl
  obtain ⟨m0, hm0, m015⟩ := modN (a := (v1 : Int)) (b := 15) (by decide)
  have fin : ∀ (m rc : Nat), m ≤ 57 → 0 < rc → rc ≤ 40 → m = (if v0 = 3 then v1 else m0) → rc = (if v0 = 2 then 40 else 5) → ∃ es j, Dl.fin [.im (.list (nms vs))] ((sSeq (sSet 1 (eBin gMod (eCb gInt (aCons (eBin gIx (eV 0) (eC (.int 1))) aNil)) (eC (.int 15))))
    (sSeq (sSet 2 (eC (.int 5)))
    (sSeq (sIf (tVal (eBin (gEq false) (eBin gIx (eV 0) (eC (.int 0))) (eC (.int 3)))) (sSet 1 (eBin gIx (eV 0) (eC (.int 1)))) sNext)
    (sSeq (sIf (tVal (eBin (gEq false) (eBin gIx (eV 0) (eC (.int 0))) (eC (.int 2)))) (sSet 2 (eC (.int 40))) sNext)
    (sSeq (sNew 3 (oLst aNil))
    (sSeq (sSet 4 (eC (.int 0)))
    (sSeq (sSet 5 (eC (.int 0)))
    (sSeq (sFor (iR1 (aCons (eV 1) aNil)) (gN 6) (lp__law_events_0))
    (sRet (eCb gTupOf (aCons (eV 3) aNil)))))))))))
    [.im (.list (nms vs)), .un, .un, .un, .un, .un, .un, .un, .un]) = okd (.tuple (es.map evD)) [.im (.list (nms vs))] ∧ (∀ e ∈ es, e.ok) ∧ hist (es.map some) 0 0 = .ok j ∧ psum es ≤ 120 ∧ es.length ≤ 57 := fun m rc hm hr hr2 em er => by
    obtain ⟨n', e, es, i, x, y, z, _, _, _, hn, a1, a2, a3, a4⟩ := key m rc hm hr hr2
    subst hn
    rw [rng_len] at a4
    refine ⟨es, i, ?_, a1, a2, a3, by omega⟩
    have hr1 := fun n => u_rng1 (k := m) (n := n) (by omega)
    have le2 : lineB es.length = true := line_ok (by omega)
    by_cases q3 : v0 = 3
    · subst q3
      rw [if_pos rfl] at em
      rw [if_neg (by decide)] at er
      subst em er
      rw [show nm 5 = PyData.int 5 from rfl] at e
      simp [g0, g1, g_mod, hm0, hr1, e, mrg, line_ok]
    · rw [if_neg q3] at em
      subst em
      by_cases q2 : v0 = 2
      · subst q2
        rw [if_pos rfl] at er
        subst er
        rw [show nm 40 = PyData.int 40 from rfl] at e
        simp [g0, g1, g_mod, hm0, hr1, e, mrg, line_ok]
      · rw [if_neg q2] at er
        subst er
        rw [show nm 5 = PyData.int 5 from rfl] at e
        have q3' : ¬ ((v0 : Int) = 3) := by omega
        have q2' : ¬ ((v0 : Int) = 2) := by omega
        simp [g0, g1, g_mod, hm0, q3, q2, q3', q2', hr1, e, mrg, line_ok]
  exact fin (if v0 = 3 then v1 else m0) (if v0 = 2 then 40 else 5) (by split <;> omega) (by split <;> omega) (by split <;> omega) rfl rfl
end K2
set_option Elab.async false
set_option linter.all false
set_option maxRecDepth 100000
set_option maxHeartbeats 2000000
namespace K2
open PySem Dl
theorem v_law_row {vs : List Nat} (hl : vs.length = 20) (h0 : ∀ v, vs[0]? = some v → v < 8) (h1 : ∀ v, vs[1]? = some v → v < 9) :
    ∃ R, f__law_row [.im (.list (nms vs))] = okd (rowD R) [.im (.list (nms vs))] ∧ R.length ≤ 20 ∧ ∀ q ∈ R, q.1 ≤ 1000 ∧ q.2 ≤ 1000 := by
  unfold f__law_row m__law_row
  obtain ⟨v0, hv0⟩ : ∃ v, vs[0]? = some v := ⟨_, List.getElem?_eq_getElem (by omega)⟩
  obtain ⟨v1, hv1⟩ : ∃ v, vs[1]? = some v := ⟨_, List.getElem?_eq_getElem (by omega)⟩
  have hb0 := h0 v0 hv0
  have hb1 := h1 v1 hv1
  have g0 : (nms vs)[0]? = some (nm v0) := by rw [List.getElem?_map, hv0]; rfl
  have g1 : (nms vs)[1]? = some (nm v1) := by rw [List.getElem?_map, hv1]; rfl
  have g0i : ∀ h, (nms vs)[0]'h = nm v0 := fun h => by
    have := List.getElem?_eq_getElem h
    rw [g0] at this
    exact (Option.some.inj this).symm
  have key := loop_idx (tg := gN 4) (b := lp__law_row_0) (rngD 0 v1)
    (fun k n => ∃ (out : List (Nat × Nat)) (f e : Nat) (x y z w : Sl), Fr x ∧ Fr y ∧ Fr z ∧ Fr w ∧ n = [.im (.list (nms vs)), .ow false (.l (out.map pr)), .im (nm f), .im (nm e), x, y, z, w] ∧ out.length = k ∧ f ≤ 8 * k ∧ e ≤ 12 * k ∧ ∀ q ∈ out, q.1 ≤ 1000 ∧ q.2 ≤ 1000)
    (fun k d n hd ⟨out, f, e, x, y, z, w, hx, hy, hz, hw, hn, ho, hf, he, hq⟩ => by
      subst hn
      obtain ⟨hk, rfl⟩ := rng_get hd
      rw [Int.zero_add]
      obtain ⟨a, ha⟩ : ∃ v, vs[2 + 2 * k]? = some v := ⟨_, List.getElem?_eq_getElem (by omega)⟩
      obtain ⟨b, hb⟩ : ∃ v, vs[3 + 2 * k]? = some v := ⟨_, List.getElem?_eq_getElem (by omega)⟩
      have ga : L2.atI (nms vs) (2 + 2 * (k : Int)) = some (nm a) := by
        rw [show (2 : Int) + 2 * (k : Int) = ((2 + 2 * k : Nat) : Int) by omega, at_k, List.getElem?_map, ha]
        rfl
      have gb : L2.atI (nms vs) (3 + 2 * (k : Int)) = some (nm b) := by
        rw [show (3 : Int) + 2 * (k : Int) = ((3 + 2 * k : Nat) : Int) by omega, at_k, List.getElem?_map, hb]
        rfl
      have gm : gMul (.int 2) (.int (k : Int)) = some (.int (2 * (k : Int))) := g_mulL (by decide) (by decide)
      have lo := ltl_ok (k := out.length) (by omega)
      have t1 : gN 4 (.int (k : Int)) [.im (.list (nms vs)), .ow false (.l (out.map pr)), .im (nm f), .im (nm e), x, y, z, w] = some [.im (.list (nms vs)), .ow false (.l (out.map pr)), .im (nm f), .im (nm e), .im (.int k), y, z, w] := by simp [hx]
      have app : ∀ p : Nat × Nat, p.1 ≤ 1000 ∧ p.2 ≤ 1000 → ∀ q ∈ out ++ [p], q.1 ≤ 1000 ∧ q.2 ≤ 1000 := fun p hp q h => by
        rcases List.mem_append.mp h with h | h
        · exact hq q h
        · have : q = p := by simpa using h
          rw [this]
          exact hp
      have low : ∀ (c1 c2 : Nat), 0 < c1 → c1 ≤ 8 → 0 < c2 → c2 ≤ 4 → v0 < 5 → L2.atI [PyData.int 3, .int 2, .int 3, .int 8, .int 4] (v0 : Int) = some (nm c1) → L2.atI [PyData.int 3, .int 4, .int 2, .int 3, .int 1] (v0 : Int) = some (nm c2) →
          ∃ n1 n2, gN 4 (.int (k : Int)) [.im (.list (nms vs)), .ow false (.l (out.map pr)), .im (nm f), .im (nm e), x, y, z, w] = some n1 ∧ lp__law_row_0 n1 = some (.ok (.nx, n2)) ∧ ∃ (out : List (Nat × Nat)) (f e : Nat) (x y z w : Sl), Fr x ∧ Fr y ∧ Fr z ∧ Fr w ∧ n2 = [.im (.list (nms vs)), .ow false (.l (out.map pr)), .im (nm f), .im (nm e), x, y, z, w] ∧ out.length = k + 1 ∧ f ≤ 8 * (k + 1) ∧ e ≤ 12 * (k + 1) ∧ ∀ q ∈ out, q.1 ≤ 1000 ∧ q.2 ≤ 1000 := fun c1 c2 p1 p2 p3 p4 lt e1 e2 => by
        have q1 : (0 : Int) < (c1 : Int) := by omega
        have q2 : (0 : Int) < (c2 : Int) := by omega
        obtain ⟨m1, hm1, b1⟩ := modN (a := (a : Int)) q1
        obtain ⟨m2, hm2, b2⟩ := modN (a := (b : Int)) q2
        have lt2 : (v0 : Int) < 5 := by omega
        obtain ⟨f', hf'⟩ : ∃ f' : Nat, f' = f + m1 := ⟨_, rfl⟩
        obtain ⟨u, hu⟩ : ∃ u : Nat, u = max e (f' + 1) := ⟨_, rfl⟩
        have s1 : (f : Int) + (m1 : Int) = (f' : Int) := by omega
        have s2 : (if (e : Int) < (f' : Int) + 1 then (f' : Int) + 1 else (e : Int)) = (u : Int) := by split <;> omega
        have s3 : (u : Int) + (m2 : Int) = ((u + m2 : Nat) : Int) := by omega
        refine ⟨_, [.im (.list (nms vs)), .ow false (.l ((out ++ [(f', u + m2)]).map pr)), .im (nm f'), .im (nm (u + m2)), .im (.int k), .im (nm a), .im (nm b), w], t1, ?_, out ++ [(f', u + m2)], f', u + m2, _, _, _, _, fr_im, fr_im, fr_im, hw, rfl, by simp [ho], by omega, by omega, app _ ⟨by show f' ≤ 1000; omega, by show u + m2 ≤ 1000; omega⟩⟩
        simp [lp__law_row_0, gm, ga, gb, hy, hz, g0, g0i, lt, lt2, line_ok, ArI, e1, e2, g_mod q1, g_mod q2, hm1, hm2, s1, s2, lo, pr]
      have high : ∀ (c2 : Nat), 0 < c2 → c2 ≤ 10 → 5 ≤ v0 → L2.atI [PyData.int 4, .int 6, .int 10] ((v0 : Int) - 5) = some (nm c2) →
          ∃ n1 n2, gN 4 (.int (k : Int)) [.im (.list (nms vs)), .ow false (.l (out.map pr)), .im (nm f), .im (nm e), x, y, z, w] = some n1 ∧ lp__law_row_0 n1 = some (.ok (.nx, n2)) ∧ ∃ (out : List (Nat × Nat)) (f e : Nat) (x y z w : Sl), Fr x ∧ Fr y ∧ Fr z ∧ Fr w ∧ n2 = [.im (.list (nms vs)), .ow false (.l (out.map pr)), .im (nm f), .im (nm e), x, y, z, w] ∧ out.length = k + 1 ∧ f ≤ 8 * (k + 1) ∧ e ≤ 12 * (k + 1) ∧ ∀ q ∈ out, q.1 ≤ 1000 ∧ q.2 ≤ 1000 := fun c2 p3 p4 ge e2 => by
        have q2 : (0 : Int) < (c2 : Int) := by omega
        obtain ⟨m1, hm1, b1⟩ := modN (a := (a : Int)) (b := 9) (by decide)
        obtain ⟨m2, hm2, b2⟩ := modN (a := (b : Int)) q2
        have lt2 : ¬ (v0 : Int) < 5 := by omega
        have lt3 : ¬ v0 < 5 := by omega
        have s3 : (m1 : Int) + 1 + (m2 : Int) = ((m1 + 1 + m2 : Nat) : Int) := by omega
        refine ⟨_, [.im (.list (nms vs)), .ow false (.l ((out ++ [(m1, m1 + 1 + m2)]).map pr)), .im (nm f), .im (nm e), .im (.int k), .im (nm a), .im (nm b), .im (nm m1)], t1, ?_, out ++ [(m1, m1 + 1 + m2)], f, e, _, _, _, _, fr_im, fr_im, fr_im, fr_im, rfl, by simp [ho], by omega, by omega, app _ ⟨by show m1 ≤ 1000; omega, by show m1 + 1 + m2 ≤ 1000; omega⟩⟩
        simp [lp__law_row_0, gm, ga, gb, hy, hz, hw, g0, g0i, lt2, lt3, line_ok, ArI, e2, g_mod, g_mod q2, hm1, hm2, lo, pr]
      match v0, hb0, low, high with
      | 0, _, low, _ => exact low 3 3 (by decide) (by decide) (by decide) (by decide) (by decide) rfl rfl
      | 1, _, low, _ => exact low 2 4 (by decide) (by decide) (by decide) (by decide) (by decide) rfl rfl
      | 2, _, low, _ => exact low 3 2 (by decide) (by decide) (by decide) (by decide) (by decide) rfl rfl
      | 3, _, low, _ => exact low 8 3 (by decide) (by decide) (by decide) (by decide) (by decide) rfl rfl
      | 4, _, low, _ => exact low 4 1 (by decide) (by decide) (by decide) (by decide) (by decide) rfl rfl
      | 5, _, _, high => exact high 4 (by decide) (by decide) (by decide) rfl
      | 6, _, _, high => exact high 6 (by decide) (by decide) (by decide) rfl
      | 7, _, _, high => exact high 10 (by decide) (by decide) (by decide) rfl
      | v + 8, h, _, _ => exact absurd h (by omega)) [.im (.list (nms vs)), .ow false (.l []), .im (.int 0), .im (.int 0), .un, .un, .un, .un] ⟨[], 0, 0, _, _, _, _, fr_un, fr_un, fr_un, fr_un, rfl, rfl, by simp, by simp, fun q h => nomatch h⟩
  obtain ⟨n', e, out, f, en, x, y, z, w, _, _, _, _, hn, ho, _, _, hq⟩ := key
  subst hn
  rw [rng_len] at ho
  have hul := uq_len out
  refine ⟨uq out, ?_, by omega, fun q h => hq q (mem_uq.mp h)⟩
  have hli := v_line (d := .list (out.map pr)) (g_srt (by omega) fun p hp => by have := hq p hp; omega) (by omega)
  have hr := fun n => u_rng1 (k := v1) (n := n) (by omega)
  have g1i : ∀ h, (nms vs)[1]'h = nm v1 := fun h => by
    have := List.getElem?_eq_getElem h
    rw [g1] at this
    exact (Option.some.inj this).symm
  have gl : 1 < (nms vs).length := by simp [hl]
  simp [g1, g1i, hr, e, hli, Dl.dist, hasO, mrg, line_ok]
end K2
set_option Elab.async false
set_option linter.all false
set_option maxRecDepth 100000
namespace K2
open PySem Dl
def stdy (w h m : Nat) : List (Nat × Nat) := (List.range m).map fun a => (a * h, a * h + w)
theorem v_steady {w h m : Nat} (hw : 1 ≤ w) (hh : 1 ≤ h) (hw2 : w ≤ 1000) (hh2 : h ≤ 1000) (hm : m ≤ 1000) : f_steady_asks [.im (nm w), .im (nm h), .im (nm m)] = okd (rowD (stdy w h m)) [.im (nm w), .im (nm h), .im (nm m)] := by
  unfold f_steady_asks m_steady_asks
  have p1 : isPos (nm w) = true := by simp [isPos]; omega
  have p2 : isPos (nm h) = true := by simp [isPos]; omega
  have p3 : isNum (nm m) = true := by simp [isNum]
  have n1 := v_need_t "width"
  have n2 := v_need_t "hop"
  have n3 := v_need_t "many"
  have c := comp_rng (fe := (eTup (aCons (eBin gMul (eV 3) (eV 1)) (aCons (eBin gAdd (eBin gMul (eV 3) (eV 1)) (eV 0)) aNil)))) (G := fun d => match d with | .int a => .tuple [.int (a * h), .int (a * h + w)] | _ => .none) (i := 3) (n := [.im (nm w), .im (nm h), .im (nm m), .un]) (k := m) rfl (by omega) fun j hj => by
    have g : gMul (nm j) (nm h) = some (.int ((j : Int) * (h : Int))) := g_mul (by omega) (by omega)
    simp [g, line_ok, ArI]
  have e : (rngD 0 m).map (fun d => match d with | .int a => PyData.tuple [.int (a * h), .int (a * h + w)] | _ => .none) = (stdy w h m).map pr := by
    unfold rngD stdy
    rw [List.map_map, List.map_map]
    apply List.map_congr_left
    intro i _
    simp [pr]
  rw [e] at c
  have hr := fun n => u_rng1 (k := m) (n := n) (by omega)
  simp [v_is_positive, v_is_number, p1, p2, p3, n1, n2, n3, Dl.dist, hasO, hr, c, mrg, rowD]
theorem row_stdy {w h m : Nat} (hw : 1 ≤ w) (hh : 1 ≤ h) : Row (stdy w h m) ∧ Mono (stdy w h m) := by
  have pw : (stdy w h m).Pairwise fun p q => p.1 < q.1 ∧ p.2 < q.2 := by
    unfold stdy
    rw [List.pairwise_map]
    refine List.Pairwise.imp (fun {a b} hab => ?_) (List.pairwise_lt_range)
    have : a * h < b * h := Nat.mul_lt_mul_of_pos_right hab (by omega)
    exact ⟨this, by dsimp only; omega⟩
  refine ⟨⟨fun p hp => ?_, pw.imp fun {a b} z => ?_⟩, pw.imp fun {a b} z => ⟨by omega, by omega⟩⟩
  · obtain ⟨a, _, rfl⟩ := List.mem_map.mp hp
    dsimp only
    omega
  · rw [plt_iff]
    omega
theorem cut_tail {f a w : Nat} (hw : 1 ≤ w) : cutD (rngD (f : Int) a) (some (-(w : Int))) none = rngD ((f + (a - w) : Nat) : Int) (min a w) := by
  unfold cutD
  rw [HT.sIx_none]
  have e : HT.sIx (rngD (f : Int) a).length 0 (some (-(w : Int))) = a - w := by
    show (if -(w : Int) < 0 then (-(w : Int) + ((rngD (f : Int) a).length : Int)).toNat else _) = _
    rw [if_pos (by omega), rng_len]
    omega
  rw [e, List.take_of_length_le (by rw [List.length_drop]; omega), rng_drop]
  congr 1
  omega
theorem rng_one {f : Nat} : [PyData.int (f : Int)] = rngD (f : Int) 1 := by
  simp [rngD, List.range_succ]
theorem v_law_steady {w h m : Nat} (hw : 1 ≤ w) (hh : 1 ≤ h) (hw2 : w ≤ 1000) (hh2 : h ≤ 1000) (hm : m ≤ 1000) (hb : w + h * m ≤ 5000) : f__law_steady [.im (nm w), .im (nm h), .im (nm m)] = okd (rowD (stdy w h m)) [.im (nm w), .im (nm h), .im (nm m)] := by
  unfold f__law_steady m__law_steady
  have key := loop_idx (tg := gN 5) (b := lp__law_steady_0) (rngD 0 (w + h * m))
    (fun k n => ∃ (c : Nat) (x : Sl), Fr x ∧ n = [.im (nm w), .im (nm h), .im (nm m), .im (.list (rngD ((k - w : Nat) : Int) (min k w))), .ow false (.l ((stdy w h c).map pr)), x] ∧ c ≤ m ∧ (∀ a, a < c → a * h + w ≤ k) ∧ (c < m → k < c * h + w))
    (fun k d n hd ⟨c, x, hx, hn, hcm, h1, h2⟩ => by
      subst hn
      obtain ⟨hk, rfl⟩ := rng_get hd
      rw [Int.zero_add]
      have t1 : gN 5 (.int (k : Int)) [.im (nm w), .im (nm h), .im (nm m), .im (.list (rngD ((k - w : Nat) : Int) (min k w))), .ow false (.l ((stdy w h c).map pr)), x] = some [.im (nm w), .im (nm h), .im (nm m), .im (.list (rngD ((k - w : Nat) : Int) (min k w))), .ow false (.l ((stdy w h c).map pr)), .im (.int k)] := by simp [hx]
      have e1 : gAdd (.list (rngD ((k - w : Nat) : Int) (min k w))) (.list [.int (k : Int)]) = some (.list (rngD ((k - w : Nat) : Int) (min k w + 1))) := by
        rw [g_addL (by rw [rng_len]; show min k w + 1 ≤ 10000; omega), rng_one, show ((k : Nat) : Int) = ((k - w : Nat) : Int) + ((min k w : Nat) : Int) by omega, rng_app]
      have e2 : cutD (rngD ((k - w : Nat) : Int) (min k w + 1)) (some (-(w : Int))) none = rngD ((k + 1 - w : Nat) : Int) (min (k + 1) w) := by
        rw [cut_tail hw, show k - w + (min k w + 1 - w) = k + 1 - w by omega, show min (min k w + 1) w = min (k + 1) w by omega]
      have lc : (stdy w h c).length = c := by simp [stdy]
      by_cases q : w ≤ k + 1 ∧ c < m ∧ (k + 1 - w) % h = 0
      · obtain ⟨q1, q2, q3⟩ := q
        have ek : k + 1 = c * h + w := by
          have hq : k + 1 - w = (k + 1 - w) / h * h := by
            have := Nat.div_add_mod (k + 1 - w) h
            rw [q3, Nat.mul_comm] at this
            omega
          have b := h2 q2
          rcases Nat.lt_or_ge ((k + 1 - w) / h) c with z | z
          · have := h1 _ z
            omega
          · have := Nat.mul_le_mul_right h z
            omega
        refine ⟨_, [.im (nm w), .im (nm h), .im (nm m), .im (.list (rngD ((k + 1 - w : Nat) : Int) (min (k + 1) w))), .ow false (.l ((stdy w h (c + 1)).map pr)), .im (.int k)], t1, ?_, c + 1, _, fr_im, rfl, by omega, fun a ha => ?_, fun z => ?_⟩
        · have r0 := rng_0 (f := ((k + 1 - w : Nat) : Int)) (a := min (k + 1) w) (by omega)
          have r0b : ∀ h, (rngD ((k + 1 - w : Nat) : Int) (min (k + 1) w))[0]'h = .int ((k + 1 - w : Nat) : Int) := fun h => by
            have := List.getElem?_eq_getElem h
            rw [r0] at this
            exact (Option.some.inj this).symm
          have r1 := rng_last (f := ((k + 1 - w : Nat) : Int)) (a := min (k + 1) w) (by omega)
          have r1' : (rngD ((k + 1 - w : Nat) : Int) (min (k + 1) w)).getLast? = some (.int (k : Int)) := by
            rw [r1]
            congr 2
            omega
          have i1 : (w : Int) ≤ (k : Int) + 1 := by omega
          have i3 : ((k : Int) + 1 - (w : Int)) % (h : Int) = 0 := by
            rw [show (k : Int) + 1 - (w : Int) = ((k + 1 - w : Nat) : Int) by omega, ← Int.natCast_emod, q3]
            rfl
          have hp : (0 : Int) < (h : Int) := by omega
          have es : (stdy w h (c + 1)).map pr = (stdy w h c).map pr ++ [.tuple [.int ((k + 1 - w : Nat) : Int), .int ((k : Int) + 1)]] := by
            unfold stdy
            rw [List.range_succ, List.map_append, List.map_append]
            congr 1
            simp only [List.map_cons, List.map_nil, pr]
            have z1 : ((c * h : Nat) : Int) = ((k + 1 - w : Nat) : Int) := by omega
            have z2 : ((c * h + w : Nat) : Int) = (k : Int) + 1 := by omega
            rw [z1, z2]
          rw [es]
          generalize (stdy w h c).map pr = L at *
          have q2' : (c : Int) < (m : Int) := by omega
          have lL : L.length = c := by
            have := congrArg List.length es
            rw [List.length_append, List.length_map] at this
            simp [stdy] at this
            omega
          have lo := ltl_ok (k := c) (by omega)
          generalize rngD ((k + 1 - w : Nat) : Int) (min (k + 1) w) = Q at *
          generalize rngD ((k - w : Nat) : Int) (min k w) = Q0 at *
          have i1n : w ≤ k + 1 := q1
          simp [lp__law_steady_0, line_ok, ArI, e1, e2, i1, i3, lL, q2, q2', g_mod hp, r0, r0b, at_m1, r1', lo, -Int.natCast_add]
        · rcases Nat.lt_or_ge a c with z | z
          · have := h1 a z
            omega
          · have : a = c := by omega
            subst this
            omega
        · have : (c + 1) * h = c * h + h := Nat.succ_mul c h
          omega
      · refine ⟨_, [.im (nm w), .im (nm h), .im (nm m), .im (.list (rngD ((k + 1 - w : Nat) : Int) (min (k + 1) w))), .ow false (.l ((stdy w h c).map pr)), .im (.int k)], t1, ?_, c, _, fr_im, rfl, hcm, fun a ha => by have := h1 a ha; omega, fun z => ?_⟩
        · have hp : (0 : Int) < (h : Int) := by omega
          generalize rngD ((k + 1 - w : Nat) : Int) (min (k + 1) w) = Q at *
          generalize rngD ((k - w : Nat) : Int) (min k w) = Q0 at *
          have lL : ((stdy w h c).map pr).length = c := by simp [lc]
          generalize (stdy w h c).map pr = L at *
          by_cases i1 : w ≤ k + 1
          · have i1' : (w : Int) ≤ (k : Int) + 1 := by omega
            by_cases i2 : c < m
            · have i2' : (c : Int) < (m : Int) := by omega
              have i3 : ¬ ((k : Int) + 1 - (w : Int)) % (h : Int) = 0 := by
                rw [show (k : Int) + 1 - (w : Int) = ((k + 1 - w : Nat) : Int) by omega, ← Int.natCast_emod]
                intro z
                exact q ⟨i1, i2, by omega⟩
              simp [lp__law_steady_0, line_ok, ArI, e1, e2, i1, i1', i2, i2', i3, lL, g_mod hp]
            · have i2' : ¬ (c : Int) < (m : Int) := by omega
              simp [lp__law_steady_0, line_ok, ArI, e1, e2, i1, i1', i2, i2', lL]
          · have i1' : ¬ (w : Int) ≤ (k : Int) + 1 := by omega
            simp [lp__law_steady_0, line_ok, ArI, e1, e2, i1, i1']
        · have b := h2 z
          rcases Nat.lt_or_ge (k + 1) (c * h + w) with y | y
          · exact y
          · exfalso
            have : k + 1 - w = c * h := by omega
            exact q ⟨by omega, z, by rw [this]; exact Nat.mul_mod_left c h⟩) [.im (nm w), .im (nm h), .im (nm m), .im (.list []), .ow false (.l []), .un] ⟨0, _, fr_un, by simp [stdy, rngD], by omega, fun a ha => by omega, fun _ => by omega⟩
  obtain ⟨n', e, c, x, hx, hn, hcm, h1, h2⟩ := key
  subst hn
  rw [rng_len] at h2
  have ec : c = m := by
    rcases Nat.lt_or_ge c m with z | z
    · have := h2 z
      have := Nat.mul_lt_mul_of_pos_right z (by omega : 0 < h)
      rw [Nat.mul_comm h m] at *
      omega
    · omega
  subst ec
  have hr := fun n => u_rng1 (k := w + h * c) (n := n) (by omega)
  have gm : gMul (nm h) (nm c) = some (.int ((h : Int) * (c : Int))) := g_mul (by omega) (by omega)
  have es : (w : Int) + (h : Int) * (c : Int) = ((w + h * c : Nat) : Int) := by simp
  have ez : rngD (((0 : Nat) - w : Nat) : Int) (min 0 w) = [] := by simp [rngD]
  simp [gm, es, hr, e, mrg, rowD, line_ok, -Int.natCast_add]
end K2
set_option Elab.async false
set_option linter.all false
set_option maxRecDepth 100000
namespace K2
open PySem Dl
def cal2 : List Nat → Nat → Nat → List (Nat × Nat)
  | [], _, _ => []
  | w :: r, k, b => (max b (k + 1 - w), k + 1) :: cal2 r (k + 1) (max b (k + 1 - w))
theorem cal2_step {ws : List Nat} {k b w : Nat} (h : ws[k]? = some w) : cal2 (ws.drop k) k b = (max b (k + 1 - w), k + 1) :: cal2 (ws.drop (k + 1)) (k + 1) (max b (k + 1 - w)) := by
  obtain ⟨hk, e⟩ := List.getElem?_eq_some_iff.mp h
  rw [List.drop_eq_getElem_cons hk, e]
  rfl
theorem cal2_row : ∀ {ws : List Nat} {k b : Nat}, (∀ w ∈ ws, 1 ≤ w) → b ≤ k → (cal2 ws k b).Pairwise (fun p q => p.1 ≤ q.1 ∧ p.2 < q.2) ∧ ∀ q ∈ cal2 ws k b, b ≤ q.1 ∧ k < q.2 ∧ q.1 < q.2 ∧ q.2 ≤ k + ws.length
  | [], k, b, _, _ => ⟨List.Pairwise.nil, fun q h => nomatch h⟩
  | w :: r, k, b, hw, hb => by
    have w1 := hw w (List.mem_cons_self ..)
    obtain ⟨i1, i2⟩ := cal2_row (ws := r) (k := k + 1) (b := max b (k + 1 - w)) (fun x hx => hw x (List.mem_cons_of_mem _ hx)) (by omega)
    refine ⟨List.pairwise_cons.mpr ⟨fun q hq => ?_, i1⟩, fun q hq => ?_⟩
    · have := i2 q hq
      exact ⟨by dsimp only; omega, by dsimp only; omega⟩
    · rcases List.mem_cons.mp hq with rfl | hq
      · simp only [List.length_cons]
        omega
      · have := i2 q hq
        simp only [List.length_cons]
        omega
theorem cal2_len : ∀ (ws : List Nat) (k b : Nat), (cal2 ws k b).length = ws.length
  | [], _, _ => rfl
  | w :: r, k, b => by simp [cal2, cal2_len r]
def calR (ws : List Nat) : List (Nat × Nat) := cal2 ws 0 0
theorem calR_row {ws : List Nat} (hw : ∀ w ∈ ws, 1 ≤ w) : Row (calR ws) ∧ Mono (calR ws) := by
  obtain ⟨h1, h2⟩ := cal2_row (k := 0) (b := 0) hw (Nat.le_refl 0)
  exact ⟨⟨fun p hp => (h2 p hp).2.2.1, h1.imp fun {a b} z => by rw [plt_iff]; omega⟩, h1.imp fun {a b} z => by omega⟩
theorem all_pos {ws : List Nat} (hw : ∀ w ∈ ws, 1 ≤ w) : gAll [.list (ws.map fun w => PyData.bool (isPos (nm w)))] = some (.bool true) := by
  rw [g_all (h := fun w => isPos (nm w))]
  congr 2
  rw [List.all_eq_true]
  intro w h
  have := hw w h
  simp [isPos]
  omega
theorem v_calendar {ws : List Nat} (hw : ∀ w ∈ ws, 1 ≤ w) (hl : ws.length ≤ 1000) : f_calendar_asks [.im (.tuple (nms ws))] = okd (rowD (calR ws)) [.im (.tuple (nms ws))] := by
  unfold f_calendar_asks m_calendar_asks
  have c := comp_map (fe := eCall f_is_positive (aCons (eV 4) aNil)) (F := nm) (G := fun w => .bool (isPos (nm w))) (i := 4) (n := [.im (.tuple (nms ws)), .un, .un, .un, .un]) (l := ws) rfl (by omega) fun x hx => by
    simp [v_is_positive, Dl.dist, hasO]
  have n1 := v_need_t "widths"
  have a := all_pos hw
  have key := loop_idx (tg := gT 2 (gsC (gN 3) (gsC (gN 4) gsN))) (b := lp_calendar_asks_0) (enumD (nms ws))
    (fun k n => ∃ (b : Nat) (out : List (Nat × Nat)) (x y : Sl), Fr x ∧ Fr y ∧ n = [.im (.tuple (nms ws)), .ow false (.l (out.map pr)), .im (nm b), x, y] ∧ out ++ cal2 (ws.drop k) k b = calR ws ∧ out.length = k ∧ b ≤ k)
    (fun k d n hd ⟨b, out, x, y, hx, hy, hn, g, gl, hbk⟩ => by
      obtain ⟨e, he, rfl⟩ := enum_get hd
      subst hn
      rw [List.getElem?_map] at he
      obtain ⟨w, hwk, rfl⟩ := Option.map_eq_some_iff.mp he
      have hk := (List.getElem?_eq_some_iff.mp hwk).1
      have w1 := hw w (List.mem_of_getElem? hwk)
      rw [cal2_step hwk] at g
      have s : (if (b : Int) < (k : Int) + 1 - (w : Int) then (k : Int) + 1 - (w : Int) else (b : Int)) = ((max b (k + 1 - w) : Nat) : Int) := by split <;> omega
      have lo := ltl_ok (k := out.length) (by omega)
      generalize hm : max b (k + 1 - w) = m at *
      refine ⟨[.im (.tuple (nms ws)), .ow false (.l (out.map pr)), .im (nm b), .im (.int k), .im (nm w)], [.im (.tuple (nms ws)), .ow false (.l ((out ++ [(m, k + 1)]).map pr)), .im (nm m), .im (.int k), .im (nm w)], by simp [hx, hy], ?_, m, out ++ [(m, k + 1)], _, _, fr_im, fr_im, rfl, by rw [List.append_assoc]; exact g, by simp [gl], by omega⟩
      simp [lp_calendar_asks_0, s, lo, line_ok, ArI, pr]) [.im (.tuple (nms ws)), .ow false (.l []), .im (.int 0), .un, .un] ⟨0, [], _, _, fr_un, fr_un, rfl, rfl, rfl, Nat.le_refl 0⟩
  obtain ⟨n', e, b, out, x, y, _, _, hn, g, _, _⟩ := key
  subst hn
  have hd : ws.drop (enumD (nms ws)).length = [] := by rw [enum_len]; simp
  rw [hd] at g
  have g : out = calR ws := by simpa [cal2] using g
  subst g
  have ti : isiD "tuple" (.tuple (nms ws)) = true := rfl
  simp [ti, c, a, n1, Dl.dist, hasO, e, mrg, rowD, line_ok]
theorem v_law_calendar {ws : List Nat} (hw : ∀ w ∈ ws, 1 ≤ w) (hl : ws.length < 64) : f__law_calendar [.im (.tuple (nms ws))] = okd (rowD (calR ws)) [.im (.tuple (nms ws))] := by
  unfold f__law_calendar m__law_calendar
  have key := loop_idx (tg := gN 3) (b := lp__law_calendar_0) (rngD 0 ws.length)
    (fun k n => ∃ (b : Nat) (out : List (Nat × Nat)) (x : Sl), Fr x ∧ n = [.im (.tuple (nms ws)), .im (.list (rngD (b : Int) (k - b))), .ow false (.l (out.map pr)), x] ∧ out ++ cal2 (ws.drop k) k b = calR ws ∧ out.length = k ∧ b ≤ k)
    (fun k d n hd ⟨b, out, x, hx, hn, g, gl, hbk⟩ => by
      subst hn
      obtain ⟨hk, rfl⟩ := rng_get hd
      rw [Int.zero_add]
      obtain ⟨w, hwk⟩ : ∃ w, ws[k]? = some w := ⟨_, List.getElem?_eq_getElem hk⟩
      have hg : (nms ws)[k]? = some (nm w) := by rw [List.getElem?_map, hwk]; rfl
      have w1 := hw w (List.mem_of_getElem? hwk)
      rw [cal2_step hwk] at g
      have e1 : gAdd (.list (rngD (b : Int) (k - b))) (.list [.int (k : Int)]) = some (.list (rngD (b : Int) (k - b + 1))) := by
        rw [g_addL (by rw [rng_len]; show k - b + 1 ≤ 10000; omega), rng_one, show ((k : Nat) : Int) = ((b : Nat) : Int) + ((k - b : Nat) : Int) by omega, rng_app]
      have e2 : cutD (rngD (b : Int) (k - b + 1)) (some (-(w : Int))) none = rngD ((max b (k + 1 - w) : Nat) : Int) (k + 1 - max b (k + 1 - w)) := by
        rw [cut_tail w1, show b + (k - b + 1 - w) = max b (k + 1 - w) by omega, show min (k - b + 1) w = k + 1 - max b (k + 1 - w) by omega]
      have r0 := rng_0 (f := ((max b (k + 1 - w) : Nat) : Int)) (a := k + 1 - max b (k + 1 - w)) (by omega)
      have r1 := rng_last (f := ((max b (k + 1 - w) : Nat) : Int)) (a := k + 1 - max b (k + 1 - w)) (by omega)
      have r1' : (rngD ((max b (k + 1 - w) : Nat) : Int) (k + 1 - max b (k + 1 - w))).getLast? = some (.int (k : Int)) := by
        rw [r1]
        congr 2
        omega
      have lo := ltl_ok (k := out.length) (by omega)
      have hmk : max b (k + 1 - w) ≤ k + 1 := by omega
      generalize max b (k + 1 - w) = m at *
      have r0b : ∀ h, (rngD (m : Int) (k + 1 - m))[0]'h = .int (m : Int) := fun h => by
        have := List.getElem?_eq_getElem h
        rw [r0] at this
        exact (Option.some.inj this).symm
      refine ⟨[.im (.tuple (nms ws)), .im (.list (rngD (b : Int) (k - b))), .ow false (.l (out.map pr)), .im (.int k)], [.im (.tuple (nms ws)), .im (.list (rngD (m : Int) (k + 1 - m))), .ow false (.l ((out ++ [(m, k + 1)]).map pr)), .im (.int k)], by simp [hx], ?_, m, out ++ [(m, k + 1)], _, fr_im, rfl, by rw [List.append_assoc]; exact g, by simp [gl], hmk⟩
      have hgi : ∀ h, (nms ws)[k]'h = nm w := fun h => by
        have := List.getElem?_eq_getElem h
        rw [hg] at this
        exact (Option.some.inj this).symm
      generalize rngD (b : Int) (k - b) = Q0 at *
      generalize rngD (b : Int) (k - b + 1) = Q1 at *
      generalize rngD (m : Int) (k + 1 - m) = Q at *
      have hk' : k < ws.length := hk
      simp [lp__law_calendar_0, e1, e2, hg, hgi, hwk, lo, line_ok, ArI, r0, r0b, at_m1, r1', pr, -List.getElem?_map]) [.im (.tuple (nms ws)), .im (.list []), .ow false (.l []), .un] ⟨0, [], _, fr_un, rfl, rfl, rfl, Nat.le_refl 0⟩
  obtain ⟨n', e, b, out, x, _, hn, g, _, _⟩ := key
  subst hn
  have hd : ws.drop (rngD 0 ws.length).length = [] := by rw [rng_len]; simp
  rw [hd] at g
  have g : out = calR ws := by simpa [cal2] using g
  subst g
  have hrow := (calR_row hw).1
  have hlen : (calR ws).length = ws.length := cal2_len ws 0 0
  have hbq : Bq (calR ws) := fun p hp => by
    have := ((cal2_row (k := 0) (b := 0) hw (Nat.le_refl 0)).2 p hp)
    omega
  have hli := v_line (d := .list ((calR ws).map pr)) (g_srt (by omega) hbq) (by omega)
  rw [uq_id hrow.a] at hli
  have hr := fun n => u_rng1 (k := ws.length) (n := n) (by omega)
  simp [hr, e, hli, Dl.dist, hasO, mrg, line_ok]
end K2
set_option Elab.async false
set_option linter.all false
set_option maxRecDepth 100000
namespace K2
open PySem Dl
def cnt (ts : List Int) (x : Int) : Nat := (ts.filter fun t => decide (t ≤ x)).length
theorem cnt_le (ts : List Int) (x : Int) : cnt ts x ≤ ts.length := List.length_filter_le ..
theorem cnt_cons {t : Int} {r : List Int} {x : Int} : cnt (t :: r) x = if t ≤ x then cnt r x + 1 else cnt r x := by
  unfold cnt
  by_cases h : t ≤ x <;> simp [h]
theorem cnt_mono : ∀ (ts : List Int) {x y : Int}, x ≤ y → cnt ts x ≤ cnt ts y
  | [], x, y, _ => by simp [cnt]
  | t :: r, x, y, h => by
    have := cnt_mono r h
    rw [cnt_cons, cnt_cons]
    split <;> split <;> omega
theorem cnt_at : ∀ {ts : List Int} {x : Int}, ts.Pairwise (fun a b => a ≤ b) → ∀ (k : Nat) t, ts[k]? = some t → (t ≤ x ↔ k < cnt ts x)
  | [], x, _, k, t, h => by simp at h
  | a :: r, x, hs, k, t, h => by
    have h1 := List.pairwise_cons.mp hs
    rw [cnt_cons]
    cases k with
    | zero =>
      simp at h
      subst h
      by_cases q : a ≤ x
      · simp [q]
      · have z : cnt r x = 0 := by
          unfold cnt
          rw [List.length_eq_zero_iff, List.filter_eq_nil_iff]
          intro b hb
          have := h1.1 b hb
          simp
          omega
        simp [q, z]
    | succ k =>
      rw [List.getElem?_cons_succ] at h
      have ih := cnt_at (x := x) h1.2 k t h
      by_cases q : a ≤ x
      · simp only [if_pos q, Nat.succ_lt_succ_iff]
        exact ih
      · have := h1.1 t (List.mem_of_getElem? h)
        have z : cnt r x = 0 := by
          unfold cnt
          rw [List.length_eq_zero_iff, List.filter_eq_nil_iff]
          intro b hb
          have := h1.1 b hb
          simp
          omega
        rw [if_neg q, z]
        constructor
        · intro w
          omega
        · intro w
          omega
theorem comp_fil {α : Type} {fe : Nv → Rs Ar} {ft : Nv → Rs Bool} {F : α → PD} {G : α → PD} {T : α → Bool} {i : Nat} {n : Nv} {l : List α} (hn : n[i]? = some .un) (hl : l.length ≤ 10000)
    (h : ∀ x ∈ l, ft (n.set i (.im (F x))) = Dl.ret (T x) (n.set i (.im (F x))) ∧ fe (n.set i (.im (F x))) = Dl.ret (.d (G x)) (n.set i (.im (F x)))) :
    cmpK [i] (gN i) ft fe (l.map F) n = Dl.ret ((l.filter T).map G) n := by
  have hc : clr n [i] = true := by simp [clr, hn]
  have key : ∀ m : List α, (∀ x ∈ m, x ∈ l) → compF [i] (gN i) ft fe (m.map F) n = Dl.ret ((m.filter T).map G) n := fun m => by
    induction m with
    | nil => intro _; rfl
    | cons x r ih =>
      intro hm
      rw [List.map_cons]
      unfold compF
      have e1 : gN i (F x) n = some (n.set i (.im (F x))) := by
        unfold gN
        rw [u_free, hn]
        rfl
      obtain ⟨h1, h2⟩ := h x (hm x (List.mem_cons_self ..))
      rw [e1]
      simp only [lft_some]
      rw [h1]
      simp only [noE_ret, bnd_ret]
      have e2 : [i].all (free? (n.set i (.im (F x)))) = true := by
        simp only [List.all_cons, List.all_nil, Bool.and_true, u_free]
        exact free_set (by rw [hn]; rfl)
      have e3 : wipeN (n.set i (.im (F x))) [i] = n := by
        show (n.set i (.im (F x))).set i .un = n
        rw [List.set_set, set_un hn]
      have ih := ih fun d hd => hm d (List.mem_cons_of_mem _ hd)
      cases ht : T x with
      | true =>
        rw [if_pos rfl, h2]
        simp only [noE_ret, bnd_ret]
        show (if [i].all (free? (n.set i (.im (F x)))) = true then bnd (compF [i] (gN i) ft fe (r.map F) (wipeN (n.set i (.im (F x))) [i])) _ else none) = _
        rw [if_pos e2, e3, ih, List.filter_cons_of_pos ht]
        rfl
      | false =>
        rw [if_neg (by simp), if_pos e2, e3, ih, List.filter_cons_of_neg (by simp [ht])]
  unfold cmpK
  rw [if_pos hc, if_pos (show decide ((l.map F).length < sizeLine) = true from ltl_ok (by simpa using hl)), key l fun _ h => h]
  show (if kndB n n = true then _ else _) = _
  rw [if_pos (knd_refl n)]
def fd1 (ts : List Int) (L m : Int) : List (Nat × Nat) := if cnt ts (m - L) < cnt ts m then [(cnt ts (m - L), cnt ts m)] else []
def fds (ts : List Int) (L : Int) : List Int → List (Nat × Nat)
  | [] => []
  | m :: r => fd1 ts L m ++ fds ts L r
theorem fds_step {ts : List Int} {L m : Int} {ms : List Int} {k : Nat} (h : ms[k]? = some m) : fds ts L (ms.drop k) = fd1 ts L m ++ fds ts L (ms.drop (k + 1)) := by
  obtain ⟨hk, e⟩ := List.getElem?_eq_some_iff.mp h
  rw [List.drop_eq_getElem_cons hk, e]
  rfl
theorem fds_mem {ts : List Int} {L : Int} : ∀ {ms : List Int} {p : Nat × Nat}, p ∈ fds ts L ms → ∃ m, p = (cnt ts (m - L), cnt ts m) ∧ p.1 < p.2
  | [], p, h => nomatch h
  | m :: r, p, h => by
    rcases List.mem_append.mp h with h | h
    · unfold fd1 at h
      split at h
      · have h : p = (cnt ts (m - L), cnt ts m) := by simpa using h
        subst h
        exact ⟨m, rfl, by assumption⟩
      · cases h
    · exact fds_mem h
theorem fds_cmp {ts : List Int} {L : Int} {ms : List Int} : Cmp (fds ts L ms) := fun p hp q hq h => by
  obtain ⟨m, rfl, _⟩ := fds_mem hp
  obtain ⟨m', rfl, _⟩ := fds_mem hq
  have h : cnt ts (m - L) < cnt ts (m' - L) := h
  have : m ≤ m' := by
    rcases Int.lt_or_le m' m with z | z
    · have := cnt_mono ts (show m' - L ≤ m - L by omega)
      omega
    · exact z
  exact cnt_mono ts this
theorem fd1_len (ts : List Int) (L m : Int) : (fd1 ts L m).length ≤ 1 := by unfold fd1; split <;> simp
theorem fds_len {ts : List Int} {L : Int} : ∀ ms : List Int, (fds ts L ms).length ≤ ms.length
  | [] => Nat.le_refl _
  | m :: r => by
    have := fds_len (ts := ts) (L := L) r
    have := fd1_len ts L m
    simp only [fds, List.length_append, List.length_cons]
    omega
theorem are_nums {us : List Int} (h : ∀ u ∈ us, 0 ≤ u) (hl : us.length ≤ 1000) : f__are_numbers [.im (.tuple (ils us))] = okd (.bool true) [.im (.tuple (ils us))] := by
  unfold f__are_numbers m__are_numbers
  have c := comp_map (fe := eCall f_is_number (aCons (eV 1) aNil)) (F := PyData.int) (G := fun u => .bool (isNum (.int u))) (i := 1) (n := [.im (.tuple (ils us)), .un]) (l := us) rfl (by omega) fun x hx => by
    simp [v_is_number, Dl.dist, hasO]
  have a : gAll [.list (us.map fun u => PyData.bool (isNum (.int u)))] = some (.bool true) := by
    rw [g_all (h := fun u => isNum (.int u))]
    congr 2
    rw [List.all_eq_true]
    intro u hu
    simpa [isNum] using h u hu
  have ti : isiD "tuple" (.tuple (ils us)) = true := rfl
  simp [ti, c, a, mrg]
theorem are_times {us : List Int} (h : ∀ u ∈ us, 0 ≤ u) (hs : us.Pairwise fun a b => a ≤ b) (hl : us.length ≤ 1000) : f__are_times [.im (.tuple (ils us))] = okd (.bool true) [.im (.tuple (ils us))] := by
  unfold f__are_times m__are_times
  have c := comp_zip (fe := (eBin gLe (eV 1) (eV 2))) (G := fun a b => match a, b with | .int x, .int y => .bool (decide (x ≤ y)) | _, _ => .none) (i := 1) (j := 2)
    (n := [.im (.tuple (ils us)), .un, .un]) (ps := (us.zip us.tail).map fun z => (PyData.int z.1, PyData.int z.2)) (by decide) rfl rfl (by simp; omega) (fun d e hde => by
      obtain ⟨z, hz, e⟩ := List.mem_map.mp hde
      cases e
      simp)
  have zp : zipD (ils us) (ils us).tail = ((us.zip us.tail).map fun z => (PyData.int z.1, PyData.int z.2)).map fun p => .tuple [p.1, p.2] := by
    rw [zipD_eq, ← List.map_tail, List.zip_map]
    rfl
  have e : (List.map (fun p : PD × PD => (match p.1, p.2 with | .int x, .int y => PyData.bool (decide (x ≤ y)) | _, _ => PyData.none)) ((us.zip us.tail).map fun z => (PyData.int z.1, PyData.int z.2))) = (us.zip us.tail).map fun z => PyData.bool (decide (z.1 ≤ z.2)) := by
    rw [List.map_map]
    rfl
  rw [← zp, e] at c
  have hc : cutD (ils us) (some (1 : Int)) none = (ils us).tail := by
    rw [← List.drop_one]
    exact cut_from (k := 1)
  have al : ∀ l : List Int, l.Pairwise (fun a b => a ≤ b) → (l.zip l.tail).all (fun z => decide (z.1 ≤ z.2)) = true := fun l => by
    induction l with
    | nil => exact fun _ => rfl
    | cons a r ih =>
      intro hp
      have h1 := List.pairwise_cons.mp hp
      cases r with
      | nil => rfl
      | cons b r =>
        have := ih h1.2
        have hab := h1.1 b (List.mem_cons_self ..)
        simp only [List.tail_cons, List.zip_cons_cons, List.all_cons] at this ⊢
        simp [hab]
        simpa using this
  have a : gAll [.list ((us.zip us.tail).map fun z => PyData.bool (decide (z.1 ≤ z.2)))] = some (.bool true) := by
    rw [g_all (h := fun z : Int × Int => decide (z.1 ≤ z.2)), al us hs]
  simp [are_nums h hl, Dl.dist, hasO, hc, c, a, mrg]
theorem v_timed {ts ms : List Int} {L : Int} (h1 : ∀ u ∈ ts, 0 ≤ u) (hs : ts.Pairwise fun a b => a ≤ b) (hl : ts.length ≤ 1000) (h2 : ∀ u ∈ ms, 0 ≤ u) (hl2 : ms.length < 64) (hL : 1 ≤ L) :
    f_timed_asks [.im (.tuple (ils ts)), .im (.int L), .im (.tuple (ils ms))] = okd (rowD (uq (fds ts L ms))) [.im (.tuple (ils ts)), .im (.int L), .im (.tuple (ils ms))] := by
  unfold f_timed_asks m_timed_asks
  have n1 := v_need_t "times"
  have n2 := v_need_t "length"
  have n3 := v_need_t "moments"
  have p : isPos (.int L) = true := by simpa [isPos] using hL
  have key := loop_idx (tg := gN 4) (b := lp_timed_asks_0) (ils ms)
    (fun k n => ∃ (out : List (Nat × Nat)) (x y z : Sl), Fr x ∧ Fr y ∧ Fr z ∧ n = [.im (.tuple (ils ts)), .im (.int L), .im (.tuple (ils ms)), .ow false (.l (out.map pr)), x, y, z, .un] ∧ out ++ fds ts L (ms.drop k) = fds ts L ms ∧ out.length ≤ k)
    (fun k d n hd ⟨out, x, y, z, hx, hy, hz, hn, g, gl⟩ => by
      subst hn
      rw [List.getElem?_map] at hd
      obtain ⟨m, hm, rfl⟩ := Option.map_eq_some_iff.mp hd
      have hk := (List.getElem?_eq_some_iff.mp hm).1
      rw [fds_step hm] at g
      have c1 := comp_fil (ft := tVal (eBin gLe (eV 7) (eBin Dl.gSub (eV 4) (eV 1)))) (fe := eV 7) (F := PyData.int) (G := PyData.int) (T := fun t => decide (t ≤ m - L)) (i := 7) (n := [.im (.tuple (ils ts)), .im (.int L), .im (.tuple (ils ms)), .ow false (.l (out.map pr)), .im (.int m), y, z, .un]) (l := ts) rfl (by omega) fun x hx => by simp
      have c2 := comp_fil (ft := tVal (eBin gLe (eV 7) (eV 4))) (fe := eV 7) (F := PyData.int) (G := PyData.int) (T := fun t => decide (t ≤ m)) (i := 7) (n := [.im (.tuple (ils ts)), .im (.int L), .im (.tuple (ils ms)), .ow false (.l (out.map pr)), .im (.int m), .im (nm (cnt ts (m - L))), z, .un]) (l := ts) rfl (by omega) fun x hx => by simp
      have q1 : ((ts.filter fun t => decide (t ≤ m - L)).length : Int) = (cnt ts (m - L) : Int) := rfl
      have q2 : ((ts.filter fun t => decide (t ≤ m)).length : Int) = (cnt ts m : Int) := rfl
      have lo := ltl_ok (k := out.length) (by omega)
      have f1 := fd1_len ts L m
      refine ⟨[.im (.tuple (ils ts)), .im (.int L), .im (.tuple (ils ms)), .ow false (.l (out.map pr)), .im (.int m), y, z, .un], [.im (.tuple (ils ts)), .im (.int L), .im (.tuple (ils ms)), .ow false (.l ((out ++ fd1 ts L m).map pr)), .im (.int m), .im (nm (cnt ts (m - L))), .im (nm (cnt ts m)), .un], by simp [hx], ?_, out ++ fd1 ts L m, _, _, _, fr_im, fr_im, fr_im, rfl, by rw [List.append_assoc]; exact g, by simp; omega⟩
      by_cases q : cnt ts (m - L) < cnt ts m
      · have q' : (cnt ts (m - L) : Int) < (cnt ts m : Int) := by omega
        simp [lp_timed_asks_0, c1, c2, q1, q2, hy, hz, fd1, q, q', lo, line_ok, ArI, pr]
      · have q' : ¬ (cnt ts (m - L) : Int) < (cnt ts m : Int) := by omega
        simp [lp_timed_asks_0, c1, c2, q1, q2, hy, hz, fd1, q, q', lo, line_ok, ArI, pr]) [.im (.tuple (ils ts)), .im (.int L), .im (.tuple (ils ms)), .ow false (.l []), .un, .un, .un, .un] ⟨[], _, _, _, fr_un, fr_un, fr_un, rfl, rfl, Nat.le_refl 0⟩
  obtain ⟨n', e, out, x, y, z, _, _, _, hn, g, _⟩ := key
  subst hn
  have hd : ms.drop (ils ms).length = [] := by simp
  rw [hd] at g
  have g : out = fds ts L ms := by simpa [fds] using g
  subst g
  have fl := fds_len (ts := ts) (L := L) ms
  have ha := v_asks_of (l := fds ts L ms) (fun p hp => (fds_mem hp).choose_spec.2) (by omega) (fun p hp => by
    obtain ⟨m, rfl, h⟩ := fds_mem hp
    have := cnt_le ts m
    dsimp only at h ⊢
    omega)
  have hl3 : lineB (fds ts L ms).length = true := line_ok (by omega)
  simp [are_times h1 hs hl, v_is_positive, p, are_nums h2 (by omega), n1, n2, n3, Dl.dist, hasO, e, ha, hl3, mrg, line_ok]
theorem range_fil {n a b : Nat} (hb : b ≤ n) : (List.range n).filter (fun k => decide (a ≤ k) && decide (k < b)) = List.range' a (b - a) := by
  rcases Nat.lt_or_ge a b with h | h
  · have e : List.range n = List.range' 0 a ++ (List.range' a (b - a) ++ List.range' b (n - b)) := by
      rw [List.range_eq_range']
      have e1 : List.range' a (b - a) ++ List.range' b (n - b) = List.range' a (n - a) := by
        have := @List.range'_append a (b - a) (n - b) 1
        rw [show a + 1 * (b - a) = b by omega, show b - a + (n - b) = n - a by omega] at this
        exact this
      rw [e1]
      have := @List.range'_append 0 a (n - a) 1
      rw [show 0 + 1 * a = a by omega, show a + (n - a) = n by omega] at this
      exact this.symm
    rw [e, List.filter_append, List.filter_append]
    have z1 : (List.range' 0 a).filter (fun k => decide (a ≤ k) && decide (k < b)) = [] := by
      rw [List.filter_eq_nil_iff]
      intro k hk
      rw [List.mem_range'_1] at hk
      simp
      omega
    have z2 : (List.range' a (b - a)).filter (fun k => decide (a ≤ k) && decide (k < b)) = List.range' a (b - a) := by
      rw [List.filter_eq_self]
      intro k hk
      rw [List.mem_range'_1] at hk
      simp
      omega
    have z3 : (List.range' b (n - b)).filter (fun k => decide (a ≤ k) && decide (k < b)) = [] := by
      rw [List.filter_eq_nil_iff]
      intro k hk
      rw [List.mem_range'_1] at hk
      simp
      omega
    rw [z1, z2, z3]
    simp
  · rw [show b - a = 0 by omega]
    show _ = []
    rw [List.filter_eq_nil_iff]
    intro k _
    simp
    omega
theorem v_law_timed {ts ms : List Int} {L : Int} (hs : ts.Pairwise fun a b => a ≤ b) (hl : ts.length ≤ 1000) (hl2 : ms.length < 64) (hL : 1 ≤ L) :
    f__law_timed [.im (.list (ils ts)), .im (.int L), .im (.list (ils ms))] = okd (rowD (uq (fds ts L ms))) [.im (.list (ils ts)), .im (.int L), .im (.list (ils ms))] := by
  unfold f__law_timed m__law_timed
  have key := loop_idx (tg := gN 4) (b := lp__law_timed_0) (ils ms)
    (fun k n => ∃ (out : List (Nat × Nat)) (x y : Sl), Fr x ∧ freK (some y) = true ∧ n = [.im (.list (ils ts)), .im (.int L), .im (.list (ils ms)), .ow false (.l (out.map pr)), x, y, .un] ∧ out ++ fds ts L (ms.drop k) = fds ts L ms ∧ out.length ≤ k)
    (fun k d n hd ⟨out, x, y, hx, hy, hn, g, gl⟩ => by
      subst hn
      rw [List.getElem?_map] at hd
      obtain ⟨m, hm, rfl⟩ := Option.map_eq_some_iff.mp hd
      have hk := (List.getElem?_eq_some_iff.mp hm).1
      rw [fds_step hm] at g
      have er : rngD 0 ts.length = (List.range ts.length).map nm := by
        unfold rngD
        apply List.map_congr_left
        intro i _
        simp
      have c1 := comp_fil (ft := (tAndF (tVal (eBin gLt (eBin Dl.gSub (eV 4) (eV 1)) (eBin gIx (eV 0) (eV 6)))) (tVal (eBin gLe (eBin gIx (eV 0) (eV 6)) (eV 4))))) (fe := eV 6) (F := nm) (G := nm) (T := fun j => decide (cnt ts (m - L) ≤ j) && decide (j < cnt ts m)) (i := 6) (n := [.im (.list (ils ts)), .im (.int L), .im (.list (ils ms)), .ow false (.l (out.map pr)), .im (.int m), y, .un]) (l := List.range ts.length) rfl (by simp; omega) fun j hj => by
        have hj : j < ts.length := by simpa using hj
        have ht : ts[j]? = some ts[j] := List.getElem?_eq_getElem hj
        have a1 := cnt_at (x := m - L) hs j _ ht
        have a2 := cnt_at (x := m) hs j _ ht
        have hg : (ils ts)[j]? = some (.int ts[j]) := by rw [List.getElem?_map, ht]; rfl
        generalize ts[j] = t at *
        have b1 : decide (m - L < t) = decide (cnt ts (m - L) ≤ j) := by
          rw [decide_eq_decide]
          omega
        have b2 : decide (t ≤ m) = decide (j < cnt ts m) := by
          rw [decide_eq_decide]
          exact a2
        have b3 : ∀ h, (ils ts)[j]'h = .int t := fun h => by
          have := List.getElem?_eq_getElem h
          rw [hg] at this
          exact (Option.some.inj this).symm
        constructor
        · by_cases z : cnt ts (m - L) ≤ j
          · have z' : m - L < t := by
              have := b1
              simp [z] at this
              exact this
            simp [hg, b3, z, z', b2]
          · have z' : ¬ m - L < t := by
              have := b1
              simp [z] at this
              omega
            simp [hg, b3, z, z']
        · simp
      rw [range_fil (cnt_le ts m), ← er] at c1
      have lo := ltl_ok (k := out.length) (by omega)
      have f1 := fd1_len ts L m
      refine ⟨[.im (.list (ils ts)), .im (.int L), .im (.list (ils ms)), .ow false (.l (out.map pr)), .im (.int m), y, .un], [.im (.list (ils ts)), .im (.int L), .im (.list (ils ms)), .ow false (.l ((out ++ fd1 ts L m).map pr)), .im (.int m), .ow false (.l ((List.range' (cnt ts (m - L)) (cnt ts m - cnt ts (m - L))).map nm)), .un], by simp [hx], ?_, out ++ fd1 ts L m, _, _, fr_im, rfl, rfl, by rw [List.append_assoc]; exact g, by simp; omega⟩
      have hr := fun n => u_rng1 (k := ts.length) (n := n) (by omega)
      have ll : ((List.range' (cnt ts (m - L)) (cnt ts m - cnt ts (m - L))).map nm).length = cnt ts m - cnt ts (m - L) := by simp
      by_cases q : cnt ts (m - L) < cnt ts m
      · have r0 : ((List.range' (cnt ts (m - L)) (cnt ts m - cnt ts (m - L))).map nm)[0]? = some (nm (cnt ts (m - L))) := by
          rw [List.getElem?_map, List.getElem?_range' (by omega)]
          simp
        have r1 : ((List.range' (cnt ts (m - L)) (cnt ts m - cnt ts (m - L))).map nm).getLast? = some (.int ((cnt ts m : Int) - 1)) := by
          rw [List.getLast?_eq_getElem?, ll, List.getElem?_map, List.getElem?_range' (by omega)]
          simp
          omega
        generalize (List.range' (cnt ts (m - L)) (cnt ts m - cnt ts (m - L))).map nm = Q at *
        have r0b : ∀ h, Q[0]'h = nm (cnt ts (m - L)) := fun h => by
          have := List.getElem?_eq_getElem h
          rw [r0] at this
          exact (Option.some.inj this).symm
        have q0 : 0 < Q.length := by omega
        have q0' : (0 : Int) < (Q.length : Int) := by omega
        have qn : ¬ Q = [] := fun z => by subst z; simp at q0
        simp [lp__law_timed_0, hr, c1, hy, q0, q0', qn, r0, r0b, at_m1, r1, fd1, q, lo, line_ok, ArI, pr]
      · generalize (List.range' (cnt ts (m - L)) (cnt ts m - cnt ts (m - L))).map nm = Q at *
        have q0 : Q.length = 0 := by omega
        have qn : Q = [] := List.eq_nil_of_length_eq_zero q0
        subst qn
        simp [lp__law_timed_0, hr, c1, hy, fd1, q]) [.im (.list (ils ts)), .im (.int L), .im (.list (ils ms)), .ow false (.l []), .un, .un, .un] ⟨[], _, _, fr_un, rfl, rfl, rfl, Nat.le_refl 0⟩
  obtain ⟨n', e, out, x, y, _, _, hn, g, _⟩ := key
  subst hn
  have hd : ms.drop (ils ms).length = [] := by simp
  rw [hd] at g
  have g : out = fds ts L ms := by simpa [fds] using g
  subst g
  have fl := fds_len (ts := ts) (L := L) ms
  have hli := v_line (d := .list ((fds ts L ms).map pr)) (g_srt (by omega) (fun p hp => by
    obtain ⟨m, rfl, h⟩ := fds_mem hp
    have := cnt_le ts m
    dsimp only at h ⊢
    omega)) (by omega)
  simp [e, hli, Dl.dist, hasO, mrg, line_ok]
end K2
set_option Elab.async false
set_option linter.all false
set_option maxRecDepth 100000
set_option maxHeartbeats 4000000
namespace K2
open PySem Dl
@[simp] theorem gPn3 {a b c : Ar} : gPn 3 [1, 2, 0] [] [a, b, c] = [b, c, a] := (rfl)
theorem pow25 : gPow (.int 10) (.int 25) = some (.int 10000000000000000000000000) := by
  rw [g_pow (by decide) (by decide) (by decide)]
  rfl
theorem at_get {vs : List Nat} {j : Nat} (h : j < vs.length) : (nms vs)[j]? = some (nm (vs.getD j 0)) := by
  rw [List.getElem?_map, List.getElem?_eq_getElem h]
  simp [List.getD_eq_getElem?_getD, List.getElem?_eq_getElem h]
theorem iv (p : Prop) [Decidable p] : ∃ i : Nat, (if p then (1 : Int) else 0) = (i : Int) ∧ i ≤ 1 ∧ (i = 0 ∨ i = 1) := by
  by_cases h : p
  · exact ⟨1, by simp [h], by omega, .inr rfl⟩
  · exact ⟨0, by simp [h], by omega, .inl rfl⟩
theorem t_loop {vs : List Nat} (hl : vs.length = 64) {by_ : Int} (hby : 1 ≤ by_) {a1 a2 a3 a4 a5 a6 a7 : PD} (now0 m : Nat) (hn0 : now0 ≤ 4) (hm : m ≤ 200) :
    ∃ (ts : List Int) (now : Nat) (x : Sl), Fr x ∧ (∀ u ∈ ts, 0 ≤ u) ∧ ts.Pairwise (fun a b => a ≤ b) ∧ ts.length = m ∧ now ≤ 1004 ∧
      loopF (gN 11) lp__law_calendars_0 (rngD 0 m) [.im (.list (nms vs)), .im a1, .im a2, .im a3, .im a4, .im a5, .im a6, .im a7, .im (.int by_), .ow false (.l []), .im (nm now0), .un, .un, .un, .un, .un, .un] =
        some (.ok (.nx, [.im (.list (nms vs)), .im a1, .im a2, .im a3, .im a4, .im a5, .im a6, .im a7, .im (.int by_), .ow false (.l (ils ts)), .im (nm now), x, .un, .un, .un, .un, .un])) := by
  have key := loop_idx (tg := gN 11) (b := lp__law_calendars_0) (rngD 0 m)
    (fun k n => ∃ (ts : List Int) (now : Nat) (x : Sl), Fr x ∧ n = [.im (.list (nms vs)), .im a1, .im a2, .im a3, .im a4, .im a5, .im a6, .im a7, .im (.int by_), .ow false (.l (ils ts)), .im (nm now), x, .un, .un, .un, .un, .un] ∧ (∀ u ∈ ts, 0 ≤ u ∧ u ≤ now * by_) ∧ ts.Pairwise (fun a b => a ≤ b) ∧ ts.length = k ∧ now ≤ 4 + 5 * k)
    (fun k d n hd ⟨ts, now, x, hx, hn, h1, h2, h3, h4⟩ => by
      subst hn
      obtain ⟨hk, rfl⟩ := rng_get hd
      rw [Int.zero_add]
      obtain ⟨r, hr, hr60⟩ := modN (a := (k : Int)) (b := 60) (by decide)
      have hg : L2.atI (nms vs) (4 + (r : Int)) = some (nm (vs.getD (4 + r) 0)) := by
        rw [show (4 : Int) + (r : Int) = ((4 + r : Nat) : Int) by omega, at_k, at_get (by omega)]
      obtain ⟨i, hi, hi6⟩ := modN (a := (vs.getD (4 + r) 0 : Int) / 5) (b := 6) (by decide)
      obtain ⟨inc, hinc, hinc5⟩ : ∃ inc : Nat, L2.atI [PyData.int 0, .int 1, .int 0, .int 2, .int 1, .int 5] (i : Int) = some (nm inc) ∧ inc ≤ 5 := by
        have hi6 : i < 6 := by omega
        match i, hi6 with
        | 0, _ => exact ⟨0, rfl, by decide⟩
        | 1, _ => exact ⟨1, rfl, by decide⟩
        | 2, _ => exact ⟨0, rfl, by decide⟩
        | 3, _ => exact ⟨2, rfl, by decide⟩
        | 4, _ => exact ⟨1, rfl, by decide⟩
        | 5, _ => exact ⟨5, rfl, by decide⟩
        | i + 6, h => exact absurd h (by omega)
      have lo := ltl_ok (k := ts.length) (by omega)
      have s1 : (now : Int) + (inc : Int) = ((now + inc : Nat) : Int) := by simp
      have gm : gMul (.int ((now : Int) + (inc : Int))) (.int by_) = some (.int (((now : Int) + (inc : Int)) * by_)) := g_mulL (by omega) (by omega)
      have mono : (now : Int) * by_ ≤ ((now : Int) + (inc : Int)) * by_ := Int.mul_le_mul_of_nonneg_right (by omega) (by omega)
      have pos : (0 : Int) ≤ ((now : Int) + (inc : Int)) * by_ := Int.mul_nonneg (by omega) (by omega)
      generalize vs.getD (4 + r) 0 = v at *
      refine ⟨[.im (.list (nms vs)), .im a1, .im a2, .im a3, .im a4, .im a5, .im a6, .im a7, .im (.int by_), .ow false (.l (ils ts)), .im (nm now), .im (.int k), .un, .un, .un, .un, .un], [.im (.list (nms vs)), .im a1, .im a2, .im a3, .im a4, .im a5, .im a6, .im a7, .im (.int by_), .ow false (.l (ils (ts ++ [((now : Int) + (inc : Int)) * by_]))), .im (nm (now + inc)), .im (.int k), .un, .un, .un, .un, .un], by simp [hx], ?_, ts ++ [((now : Int) + (inc : Int)) * by_], now + inc, _, fr_im, rfl, fun u hu => ?_, ?_, by simp [h3], by omega⟩
      · simp [lp__law_calendars_0, line_ok, ArI, hr, hg, g_mod, g_div, hi, hinc, gm, lo]
      · rw [Int.natCast_add]
        rcases List.mem_append.mp hu with hu | hu
        · have := h1 u hu
          omega
        · have : u = ((now : Int) + (inc : Int)) * by_ := by simpa using hu
          rw [this]
          exact ⟨pos, Int.le_refl _⟩
      · refine List.pairwise_append.mpr ⟨h2, by simp, fun a ha b hb => ?_⟩
        have hb : b = ((now : Int) + (inc : Int)) * by_ := by simpa using hb
        have := h1 a ha
        rw [hb]
        omega) [.im (.list (nms vs)), .im a1, .im a2, .im a3, .im a4, .im a5, .im a6, .im a7, .im (.int by_), .ow false (.l []), .im (nm now0), .un, .un, .un, .un, .un, .un] ⟨[], now0, _, fr_un, rfl, (fun u h => nomatch h), List.Pairwise.nil, rfl, by omega⟩
  obtain ⟨n', e, ts, now, x, hx, hn, h1, h2, h3, h4⟩ := key
  subst hn
  rw [rng_len] at h3 h4
  exact ⟨ts, now, x, hx, fun u hu => (h1 u hu).1, h2, h3, by omega, e⟩
theorem m_loop {vs : List Nat} (hl : vs.length = 64) {by_ : Int} (hby : 1 ≤ by_) {a1 a2 a3 a4 a5 a6 a7 L : PD} {T : List PD} {x0 : Sl} (hx0 : Fr x0) (now m : Nat) (hn0 : now ≤ 1004) (hm : m ≤ 8) :
    ∃ (ms : List Int) (x y : Sl), Fr x ∧ Fr y ∧ (∀ u ∈ ms, 0 ≤ u) ∧ ms.length = m ∧
      loopF (gN 11) lp__law_calendars_1 (rngD 0 m) [.im (.list (nms vs)), .im a1, .im a2, .im a3, .im a4, .im a5, .im a6, .im a7, .im (.int by_), .ow false (.l T), .im (nm now), x0, .im L, .ow false (.l []), .un, .un, .un] =
        some (.ok (.nx, [.im (.list (nms vs)), .im a1, .im a2, .im a3, .im a4, .im a5, .im a6, .im a7, .im (.int by_), .ow false (.l T), .im (nm now), x, .im L, .ow false (.l (ils ms)), .un, .un, y])) := by
  have key := loop_idx (tg := gN 11) (b := lp__law_calendars_1) (rngD 0 m)
    (fun k n => ∃ (ms : List Int) (x y : Sl), Fr x ∧ Fr y ∧ n = [.im (.list (nms vs)), .im a1, .im a2, .im a3, .im a4, .im a5, .im a6, .im a7, .im (.int by_), .ow false (.l T), .im (nm now), x, .im L, .ow false (.l (ils ms)), .un, .un, y] ∧ (∀ u ∈ ms, 0 ≤ u) ∧ ms.length = k)
    (fun k d n hd ⟨ms, x, y, hx, hy, hn, h1, h3⟩ => by
      subst hn
      obtain ⟨hk, rfl⟩ := rng_get hd
      rw [Int.zero_add]
      have hg : L2.atI (nms vs) (50 + (k : Int)) = some (nm (vs.getD (50 + k) 0)) := by
        rw [show (50 : Int) + (k : Int) = ((50 + k : Nat) : Int) by omega, at_k, at_get (by omega)]
      have hg2 : L2.atI (nms vs) (40 + (k : Int)) = some (nm (vs.getD (40 + k) 0)) := by
        rw [show (40 : Int) + (k : Int) = ((40 + k : Nat) : Int) by omega, at_k, at_get (by omega)]
      obtain ⟨e, he, he2⟩ := modN (a := (vs.getD (50 + k) 0 : Int) / 9) (b := 2) (by decide)
      have n3 : (0 : Int) < (now : Int) + 3 := by omega
      obtain ⟨u, hu, hu2⟩ := modN (a := (vs.getD (40 + k) 0 : Int)) n3
      have lo := ltl_ok (k := ms.length) (by omega)
      have gm : gMul (.int (u : Int)) (.int by_) = some (.int ((u : Int) * by_)) := g_mulL (by omega) (by omega)
      generalize vs.getD (50 + k) 0 = v at *
      generalize vs.getD (40 + k) 0 = v' at *
      obtain ⟨z, hz⟩ : ∃ z : Int, z = (if 0 < (u : Int) * by_ - (e : Int) then (u : Int) * by_ - (e : Int) else 0) := ⟨_, rfl⟩
      have hz0 : 0 ≤ z := by rw [hz]; split <;> omega
      have gx : gMax2 [.int 0, .int ((u : Int) * by_ - (e : Int))] = some (.int z) := by rw [g_max, hz]
      refine ⟨[.im (.list (nms vs)), .im a1, .im a2, .im a3, .im a4, .im a5, .im a6, .im a7, .im (.int by_), .ow false (.l T), .im (nm now), .im (.int k), .im L, .ow false (.l (ils ms)), .un, .un, y], [.im (.list (nms vs)), .im a1, .im a2, .im a3, .im a4, .im a5, .im a6, .im a7, .im (.int by_), .ow false (.l T), .im (nm now), .im (.int k), .im L, .ow false (.l (ils (ms ++ [z]))), .un, .un, .im (nm e)], by simp [hx], ?_, ms ++ [z], _, _, fr_im, fr_im, rfl, fun a ha => ?_, by simp [h3]⟩
      · simp [lp__law_calendars_1, hy, hg, hg2, g_mod, g_mod n3, g_div, he, hu, gm, gx, lo, -g_max]
      · rcases List.mem_append.mp ha with ha | ha
        · exact h1 a ha
        · have : a = z := by simpa using ha
          rw [this]
          exact hz0) [.im (.list (nms vs)), .im a1, .im a2, .im a3, .im a4, .im a5, .im a6, .im a7, .im (.int by_), .ow false (.l T), .im (nm now), x0, .im L, .ow false (.l []), .un, .un, .un] ⟨[], _, _, hx0, fr_un, rfl, (fun u h => nomatch h), rfl⟩
  obtain ⟨n', e, ms, x, y, hx, hy, hn, h1, h3⟩ := key
  subst hn
  rw [rng_len] at h3
  exact ⟨ms, x, y, hx, hy, h1, h3, e⟩
end K2
set_option Elab.async false
set_option linter.all false
set_option maxRecDepth 100000
set_option maxHeartbeats 8000000
namespace K2
open PySem Dl
theorem v_law_calendars {vs : List Nat} (hl : vs.length = 64) (h1 : vs.getD 1 0 < 8) : f__law_calendars [.im (.list (nms vs))] = okd (.bool true) [.im (.list (nms vs))] := by
  unfold f__law_calendars m__law_calendars
  have g0 : (nms vs)[0]? = some (nm (vs.getD 0 0)) := at_get (by omega)
  have g1 : (nms vs)[1]? = some (nm (vs.getD 1 0)) := at_get (by omega)
  have g2 : L2.atI (nms vs) 2 = some (nm (vs.getD 2 0)) := by
    rw [show (2 : Int) = ((2 : Nat) : Int) from rfl, at_k, at_get (by omega)]
  have g3 : L2.atI (nms vs) 3 = some (nm (vs.getD 3 0)) := by
    rw [show (3 : Int) = ((3 : Nat) : Int) from rfl, at_k, at_get (by omega)]
  have g0i : ∀ h, (nms vs)[0]'h = nm (vs.getD 0 0) := fun h => by
    have := List.getElem?_eq_getElem h
    rw [g0] at this
    exact (Option.some.inj this).symm
  have g1i : ∀ h, (nms vs)[1]'h = nm (vs.getD 1 0) := fun h => by
    have := List.getElem?_eq_getElem h
    rw [g1] at this
    exact (Option.some.inj this).symm
  have gf : ∀ j : Nat, j < 60 → L2.atI (nms vs) (4 + (j : Int)) = some (nm (vs.getD (4 + j) 0)) := fun j hj => by
    rw [show (4 : Int) + (j : Int) = ((4 + j : Nat) : Int) by omega, at_k, at_get (by omega)]
  have gl0 : 0 < (nms vs).length := by simp [hl]
  have gl1 : 1 < (nms vs).length := by simp [hl]
  have gw : ∀ j, vs.getD (4 + j) 0 = vs.getD (4 + j) 0 := fun _ => rfl
  generalize hv0 : vs.getD 0 0 = v0 at *
  generalize hv1 : vs.getD 1 0 = v1 at *
  generalize hv2 : vs.getD 2 0 = v2 at *
  generalize hv3 : vs.getD 3 0 = v3 at *
  obtain ⟨i7, hi7, b7, z7⟩ := iv ((v1 : Int) = 7)
  obtain ⟨i6, hi6, b6, z6⟩ := iv ((v1 : Int) = 6)
  obtain ⟨i5, hi5, b5, z5⟩ := iv ((v1 : Int) = 5)
  obtain ⟨i4, hi4, b4, z4⟩ := iv ((v1 : Int) = 4)
  obtain ⟨i3, hi3, b3, z3⟩ := iv ((v1 : Int) = 3)
  obtain ⟨i2, hi2, b2, z2⟩ := iv ((v1 : Int) = 2)
  obtain ⟨i1, hi1, b1, z1⟩ := iv ((v1 : Int) = 1)
  obtain ⟨a6, ha6, a6b⟩ := modN (a := (v0 : Int)) (b := 6) (by decide)
  obtain ⟨a4, ha4, a4b⟩ := modN (a := (v0 : Int) / 6) (b := 4) (by decide)
  obtain ⟨a9, ha9, a9b⟩ := modN (a := (v0 : Int) / 24) (b := 9) (by decide)
  obtain ⟨c11, hc11, c11b⟩ := modN (a := (v2 : Int)) (b := 11) (by decide)
  obtain ⟨d5, hd5, d5b⟩ := modN (a := (v3 : Int) / 7) (b := 5) (by decide)
  obtain ⟨d12, hd12, d12b⟩ := modN (a := (v3 : Int)) (b := 12) (by decide)
  obtain ⟨d8, hd8, d8b⟩ := modN (a := (v3 : Int) / 50) (b := 8) (by decide)
  obtain ⟨e7, he7, e7b⟩ := modN (a := (v0 : Int) / 500) (b := 7) (by decide)
  obtain ⟨e3, he3, e3b⟩ := modN (a := (v1 : Int)) (b := 3) (by decide)
  obtain ⟨j1, hj1, j1b, _⟩ := iv ((e3 : Int) = 1)
  -- width, hop, many
  obtain ⟨W, hW⟩ : ∃ W : Nat, W = 1 + a6 + 34 * i7 := ⟨_, rfl⟩
  obtain ⟨Hp, hH⟩ : ∃ W : Nat, W = 1 + a4 + 36 * i6 := ⟨_, rfl⟩
  obtain ⟨M, hM⟩ : ∃ W : Nat, W = a9 + 11 * i5 := ⟨_, rfl⟩
  obtain ⟨Lg, hLg⟩ : ∃ W : Nat, W = c11 + 49 * i4 := ⟨_, rfl⟩
  have sW : (1 : Int) + (a6 : Int) + 34 * (i7 : Int) = (W : Int) := by omega
  have sH : (1 : Int) + (a4 : Int) + 36 * (i6 : Int) = (Hp : Int) := by omega
  have sM : (a9 : Int) + 11 * (i5 : Int) = (M : Int) := by omega
  have sL : (c11 : Int) + 49 * (i4 : Int) = (Lg : Int) := by omega
  have W1 : 1 ≤ W ∧ W ≤ 40 := by omega
  have H1 : 1 ≤ Hp ∧ Hp ≤ 40 := by omega
  have M1 : M ≤ 20 := by omega
  have wm : W + Hp * M ≤ 5000 := by
    have : Hp * M ≤ 40 * 20 := Nat.mul_le_mul (by omega) M1
    omega
  have st1 := v_law_steady W1.1 H1.1 (by omega) (by omega) (by omega) wm
  have st2 := v_steady W1.1 H1.1 (by omega) (by omega) (m := M) (by omega)
  obtain ⟨rs, ms0⟩ := row_stdy (m := M) W1.1 H1.1
  have sl : (stdy W Hp M).length ≤ 1000 := by simp [stdy]; omega
  have st3 := v_is_queue rs sl
  have q1 : Qu (stdy W Hp M) = true := by
    rw [qu_crs.1, crs_cmp rs.a (mono_cmp ms0)]
    rfl
  rw [q1] at st3
  have st4 := law_same (sm_row4 sl)
  -- widths
  obtain ⟨cm, hcm⟩ : ∃ c : Nat, c = 6 + 34 * i3 := ⟨_, rfl⟩
  have scm : (6 : Int) + 34 * (i3 : Int) = (cm : Int) := by omega
  have cm0 : (0 : Int) < (cm : Int) := by omega
  obtain ⟨ws, hws⟩ : ∃ ws : List Nat, ws = (List.range Lg).map fun j => 1 + vs.getD (4 + j) 0 % cm := ⟨_, rfl⟩
  have hm34 : ∀ z : Int, gMul (.int 34) (.int z) = some (.int (34 * z)) := fun z => g_mulL (by decide) (by decide)
  have hm36 : ∀ z : Int, gMul (.int 36) (.int z) = some (.int (36 * z)) := fun z => g_mulL (by decide) (by decide)
  have hm11 : ∀ z : Int, gMul (.int 11) (.int z) = some (.int (11 * z)) := fun z => g_mulL (by decide) (by decide)
  have hm49 : ∀ z : Int, gMul (.int 49) (.int z) = some (.int (49 * z)) := fun z => g_mulL (by decide) (by decide)
  have hm100 : ∀ z : Int, gMul (.int 100) (.int z) = some (.int (100 * z)) := fun z => g_mulL (by decide) (by decide)
  have cw := comp_rng (fe := (eBin gAdd (eC (.int 1)) (eBin gMod (eCb gInt (aCons (eBin gIx (eV 0) (eBin gAdd (eC (.int 4)) (eV 11))) aNil)) (eBin gAdd (eC (.int 6)) (eBin gMul (eC (.int 34)) (eCb gInt (aCons (eBin (gEq false) (eBin gIx (eV 0) (eC (.int 1))) (eC (.int 3))) aNil)))))))
    (G := fun d => match d with | .int j => nm (1 + vs.getD (4 + j.toNat) 0 % cm) | _ => .none) (i := 11) (n := [.im (.list (nms vs)), .im (nm W), .im (nm Hp), .im (nm M), .im (rowD (stdy W Hp M)), .im (nm Lg), .un, .un, .un, .un, .un, .un, .un, .un, .un, .un, .un]) (k := Lg) rfl (by omega) fun j hj => by
      have ga := gf j (by omega)
      have e : (vs.getD (4 + j) 0 : Int) % (cm : Int) = ((vs.getD (4 + j) 0 % cm : Nat) : Int) := (Int.natCast_emod _ _).symm
      have e2 : gMod (.int (vs.getD (4 + j) 0 : Int)) (.int (cm : Int)) = some (.int ((vs.getD (4 + j) 0 % cm : Nat) : Int)) := by rw [g_mod cm0, e]
      simp [ga, g1, g1i, gl1, hi3, hm34, scm, e2, -Int.natCast_emod, -List.getD_eq_getElem?_getD]
      have en : nm (1 + vs.getD (4 + j) 0 % cm) = .int (1 + ((vs.getD (4 + j) 0 % cm : Nat) : Int)) := by
        show PyData.int _ = _
        rw [Int.natCast_add]
        rfl
      rw [en]
  have ecw : (rngD 0 Lg).map (fun d => match d with | .int j => nm (1 + vs.getD (4 + j.toNat) 0 % cm) | _ => PyData.none) = nms ws := by
    rw [hws]
    unfold rngD nms
    rw [List.map_map, List.map_map]
    apply List.map_congr_left
    intro j _
    simp
  rw [ecw] at cw
  have ww : ∀ w ∈ ws, 1 ≤ w := fun w h => by
    rw [hws] at h
    obtain ⟨j, _, rfl⟩ := List.mem_map.mp h
    omega
  have wl : ws.length = Lg := by simp [hws]
  have wl2 : (nms ws).length = Lg := by simp [wl]
  have k1 := v_law_calendar ww (by omega)
  have k2 := v_calendar ww (by omega)
  obtain ⟨kr, km⟩ := calR_row ww
  have kl : (calR ws).length ≤ 1000 := by rw [show (calR ws).length = ws.length from cal2_len ws 0 0]; omega
  have k3 := v_is_queue kr kl
  have q2 : Qu (calR ws) = true := by
    rw [qu_crs.1, crs_cmp kr.a (mono_cmp km)]
    rfl
  rw [q2] at k3
  have k4 := law_same (sm_row4 kl)
  -- times
  obtain ⟨B, hB⟩ : ∃ B : Int, B = 1 + (10000000000000000000000000 + (v2 : Int)) * (j1 : Int) := ⟨_, rfl⟩
  have B1 : 1 ≤ B := by
    have : (0 : Int) ≤ (10000000000000000000000000 + (v2 : Int)) * (j1 : Int) := Int.mul_nonneg (by omega) (by omega)
    omega
  obtain ⟨tn, htn⟩ : ∃ t : Nat, t = d12 + 100 * i2 := ⟨_, rfl⟩
  have stn : (d12 : Int) + 100 * (i2 : Int) = (tn : Int) := by omega
  obtain ⟨ts, now, x, hx, t1, t2, t3, t4, te⟩ := t_loop hl B1 (a1 := nm W) (a2 := nm Hp) (a3 := nm M) (a4 := rowD (stdy W Hp M)) (a5 := nm Lg) (a6 := .tuple (nms ws)) (a7 := rowD (calR ws)) d5 tn (by omega) (by omega)
  obtain ⟨Ln, hLn⟩ : ∃ L : Int, L = B * (1 + (e7 : Int)) + (i1 : Int) := ⟨_, rfl⟩
  have L1 : 1 ≤ Ln := by
    have : B * 1 ≤ B * (1 + (e7 : Int)) := Int.mul_le_mul_of_nonneg_left (by omega) (by omega)
    omega
  obtain ⟨ms, x2, y2, hx2, hy2, m1, m3, me⟩ := m_loop hl B1 (a1 := nm W) (a2 := nm Hp) (a3 := nm M) (a4 := rowD (stdy W Hp M)) (a5 := nm Lg) (a6 := .tuple (nms ws)) (a7 := rowD (calR ws)) (L := .int Ln) (T := ils ts) hx now d8 t4 (by omega)
  have f1 := v_law_timed (L := Ln) t2 (by omega) (ms := ms) (by omega) L1
  have f2 := v_timed t1 t2 (by omega) m1 (by omega) L1
  have fl := fds_len (ts := ts) (L := Ln) ms
  have ful := uq_len (fds ts Ln ms)
  have fr := row_uq (l := fds ts Ln ms) fun p hp => (fds_mem hp).choose_spec.2
  have f3 := v_is_queue fr (by omega)
  rw [qu_uq fds_cmp] at f3
  have f4 := law_same (sm_row4 (r := uq (fds ts Ln ms)) (by omega))
  have gpj : ∀ z : Int, gMul (.int z) (.int (j1 : Int)) = some (.int (z * (j1 : Int))) := fun z => g_mul (by omega) (by omega)
  have gpe : gMul (.int B) (.int (1 + (e7 : Int))) = some (.int (B * (1 + (e7 : Int)))) := g_mul (by omega) (by omega)
  have lts : lineB ts.length = true := line_ok (by omega)
  have lms : lineB ms.length = true := line_ok (by omega)
  have r1 := fun n => u_rng1 (k := Lg) (n := n) (by omega)
  have r2 := fun n => u_rng1 (k := tn) (n := n) (by omega)
  have r3 := fun n => u_rng1 (k := d8) (n := n) (by omega)
  have gb : gIsB true (.bool true) (.bool true) = some (.bool false) := rfl
  generalize rowD (stdy W Hp M) = R1 at *
  generalize rowD (calR ws) = R2 at *
  generalize rowD (uq (fds ts Ln ms)) = R3 at *
  generalize nms ws = WS at *
  generalize ils ts = TS at *
  generalize ils ms = MS at *
  simp [g0, g0i, g1, g1i, g2, g3, gl0, gl1, g_mod, g_div, ha6, ha4, ha9, hc11, hd5, hd12, hd8, he7, he3, hi7, hi6, hi5, hi4, hi3, hi2, hi1, hj1, hm34, hm36, hm11, hm49, hm100, sW, sH, sM, sL, stn, st1, st2, st3, st4, Dl.dist, hasO, gb, r1, r2, r3, cw, k1, k2, k3, k4, pow25, gpj, ← hB, te, gpe, ← hLn, me, f1, f2, f3, f4, line_ok, mrg, -Int.natCast_emod, -List.getD_eq_getElem?_getD]
end K2
set_option Elab.async false
set_option linter.all false
set_option maxRecDepth 100000
set_option maxHeartbeats 4000000
namespace K2
open PySem Dl
def okb (a b : Int) (r : Rs Rv) : Bool := match r with
  | some (.ok (.d (.bool true), [.im (.list [.int x, .int y])])) => decide (x = a) && decide (y = b)
  | _ => false
theorem okb_of {a b : Int} {r : Rs Rv} (h : okb a b r = true) : r = okd (.bool true) [.im (.list [.int a, .int b])] := by
  unfold okb at h
  split at h
  · simp at h
    rw [h.1, h.2]
    rfl
  · cases h
theorem bad_all : ∀ a : Fin 9, ∀ b : Fin 6, okb ((a.val : Nat) : Int) (((b.val : Nat) : Int) + 1) (f__law_bad_calendars [.im (.list [.int ((a.val : Nat) : Int), .int (((b.val : Nat) : Int) + 1)])]) = true := by decide +kernel
theorem v_bad {a b : Nat} (ha : a < 9) (hb : b < 6) : f__law_bad_calendars [.im (.list [nm a, .int ((b : Int) + 1)])] = okd (.bool true) [.im (.list [nm a, .int ((b : Int) + 1)])] := okb_of (bad_all ⟨a, ha⟩ ⟨b, hb⟩)
theorem drawn_get {vs bs : List Nat} (h : Drawn vs bs) {k b : Nat} (hb : bs[k]? = some b) : ∃ v, vs[k]? = some v ∧ v < b := by
  obtain ⟨hk, _⟩ := List.getElem?_eq_some_iff.mp hb
  have hv : vs[k]? = some (vs[k]'(by rw [h.1]; exact hk)) := List.getElem?_eq_getElem _
  exact ⟨_, hv, h.2 k _ b hv hb⟩
@[simp] theorem at_2of4 {a b c d : PD} : L2.atI [a, b, c, d] 2 = some c := (rfl)
@[simp] theorem at_3of4 {a b c d : PD} : L2.atI [a, b, c, d] 3 = some d := (rfl)
theorem rep_nms (m c : Nat) : repD m [nm c] = nms (List.replicate m c) := by
  unfold repD nms
  rw [List.flatten_replicate_singleton, List.map_replicate]
theorem bnd_app {a b m c : Nat} (ha : 0 < a ∧ a ≤ 1000000) (hb : 0 < b ∧ b ≤ 1000000) (hc : 0 < c ∧ c ≤ 1000000) : ∀ x ∈ a :: b :: List.replicate m c, 0 < x ∧ x ≤ 1000000 := fun x hx => by
  simp only [List.mem_cons, List.mem_replicate] at hx
  rcases hx with rfl | rfl | ⟨_, rfl⟩
  · exact ha
  · exact hb
  · exact hc
theorem len4 {l : List Nat} (h : l.length = 4) : ∃ a b c d, l = [a, b, c, d] := by
  match l, h with
  | [a, b, c, d], _ => exact ⟨a, b, c, d, rfl⟩
theorem math : ∀ ns : List Int, ns.length ≤ 63 → (∀ i ∈ ns, Builtin.Int.intBits i ≤ 1048576) → ∃ n, f_law [.im (.list (ns.map .int))] = some (.ok (.d (.bool true), n)) := fun ns hn _ => by
  unfold f_law m_law
  generalize hS : PyData.list (ns.map .int) = S
  obtain ⟨p, hp, ep⟩ := v_nums (a := 3) (bs := [1000000, 1000000, 9, 6]) hn (fun x hx => by
    simp at hx
    rcases hx with rfl | rfl | rfl <;> decide) (by decide)
  obtain ⟨u0, hu0, e0⟩ := v_nums (a := 0) (bs := 4 :: 58 :: List.replicate 58 800) hn (bnd_app (by decide) (by decide) (by decide)) (by simp)
  obtain ⟨u1, hu1, e1⟩ := v_nums (a := 1) (bs := 8 :: 9 :: List.replicate 18 1000) hn (bnd_app (by decide) (by decide) (by decide)) (by simp)
  obtain ⟨u2, hu2, e2⟩ := v_nums (a := 2) (bs := 4000 :: 8 :: List.replicate 62 1000) hn (bnd_app (by decide) (by decide) (by decide)) (by simp)
  rw [hS] at ep e0 e1 e2
  obtain ⟨p0, p1, p2, p3, rfl⟩ := len4 (l := p) hp.1
  have hp2 : p2 < 9 := hp.2 2 p2 9 rfl rfl
  have hp3 : p3 < 6 := hp.2 3 p3 6 rfl rfl
  have ep : f__law_nums [.im S, .im (.int 3), .im (.list [.int 1000000, .int 1000000, .int 9, .int 6])] = Dl.ret (.l [nm p0, nm p1, nm p2, nm p3]) [.im S, .im (.int 3), .im (.list [.int 1000000, .int 1000000, .int 9, .int 6])] := ep
  have a0 : gAdd (.list [.int 4, .int 58]) (.list (repD 58 [.int 800])) = some (.list (nms (4 :: 58 :: List.replicate 58 800))) := by
    rw [show PyData.int 800 = nm 800 from rfl, rep_nms, g_addL (by simp)]
    rfl
  have a1 : gAdd (.list [.int 8, .int 9]) (.list (repD 18 [.int 1000])) = some (.list (nms (8 :: 9 :: List.replicate 18 1000))) := by
    rw [show PyData.int 1000 = nm 1000 from rfl, rep_nms, g_addL (by simp)]
    rfl
  have a2 : gAdd (.list [.int 4000, .int 8]) (.list (repD 62 [.int 1000])) = some (.list (nms (4000 :: 8 :: List.replicate 62 1000))) := by
    rw [show PyData.int 1000 = nm 1000 from rfl, rep_nms, g_addL (by simp)]
    rfl
  have e0 : f__law_nums [.im S, .im (.int 0), .im (.list (nms (4 :: 58 :: List.replicate 58 800)))] = Dl.ret (.l (nms u0)) [.im S, .im (.int 0), .im (.list (nms (4 :: 58 :: List.replicate 58 800)))] := e0
  have e1 : f__law_nums [.im S, .im (.int 1), .im (.list (nms (8 :: 9 :: List.replicate 18 1000)))] = Dl.ret (.l (nms u1)) [.im S, .im (.int 1), .im (.list (nms (8 :: 9 :: List.replicate 18 1000)))] := e1
  have e2 : f__law_nums [.im S, .im (.int 2), .im (.list (nms (4000 :: 8 :: List.replicate 62 1000)))] = Dl.ret (.l (nms u2)) [.im S, .im (.int 2), .im (.list (nms (4000 :: 8 :: List.replicate 62 1000)))] := e2
  have l0 : u0.length = 60 := by have := hu0.1; simpa using this
  have l1 : u1.length = 20 := by have := hu1.1; simpa using this
  have l2 : u2.length = 64 := by have := hu2.1; simpa using this
  obtain ⟨es, j, ev, ho, hh, hps, hel⟩ := v_law_events l0 fun v hv => hu0.2 1 v 58 hv rfl
  obtain ⟨R, rv, hRl, hRb⟩ := v_law_row l1 (fun v hv => hu1.2 0 v 8 hv rfl) fun v hv => hu1.2 1 v 9 hv rfl
  have hc1 : u2.getD 1 0 < 8 := by
    have h1 : u2[1]? = some (u2[1]'(by omega)) := List.getElem?_eq_getElem _
    have := hu2.2 1 _ 8 h1 rfl
    simpa [List.getD_eq_getElem?_getD, h1] using this
  have cv := v_law_calendars l2 hc1
  have hv := v_law_history ho hh (by omega) (by omega)
  have sv := v_spoilt_histories ho hh (by omega) (by omega) (pick := (p0 : Int)) (by omega)
  have rw1 := v_law_rows (by omega) hRb (pick := (p1 : Int)) (by omega)
  have rw0 := v_law_rows (by omega) hRb (pick := (p0 : Int)) (by omega)
  have bv := v_bad hp2 hp3
  have o1 := fun n => u_orpK (ds := [PyData.int 800]) (n := n) (j := 58) (by decide) (by decide) (by decide)
  have o2 := fun n => u_orpK (ds := [PyData.int 1000]) (n := n) (j := 18) (by decide) (by decide) (by decide)
  have o3 := fun n => u_orpK (ds := [PyData.int 1000]) (n := n) (j := 62) (by decide) (by decide) (by decide)
  generalize PyData.tuple (es.map evD) = EV at *
  generalize rowD R = RW at *
  generalize nms (4 :: 58 :: List.replicate 58 800) = B0 at *
  generalize nms (8 :: 9 :: List.replicate 18 1000) = B1 at *
  generalize nms (4000 :: 8 :: List.replicate 62 1000) = B2 at *
  generalize nms u0 = U0 at *
  generalize nms u1 = U1 at *
  generalize nms u2 = U2 at *
  refine ⟨[.im S], ?_⟩
  simp [ep, line_ok, ArI, Dl.dist, hasO, o1, o2, o3, a0, a1, a2, e0, e1, e2, ev, rv, cv, hv, sv, rw1, rw0, bv, mrg]
  rfl
end K2
theorem PySem.Challenge.cw_underthree_k02_whole_histories_and_calen_holds : PySem.Challenge.rw_underthree_k02_whole_histories_and_calen.Holds :=
  k02 K2.math
