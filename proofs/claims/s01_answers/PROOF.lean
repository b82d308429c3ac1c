import PyProof.Rows.All
import Wide.All
import OpenK.AllK
import Wide.FinOn
import Open.SpecLaws
import KE.OsGo
import KE.HD4
import HandS.ForSpec
import HandS.ForMost
import HandS.Nested
import HandS.CallLocal
import HandS.Defaults
import HandS.HeadHook4
import KE.KDictKeyed
import KE.KeyNested
import PyProof.Rows.TupDisplay
import HandS.EndTab
import HandS.Deep
import HandS.TupAny
import HandS.TupMul
import HandS.Conv
import HandS.SortKw
import HandS.Zip
import KE.DatumOrd
import HandS.Walk
import HandS.NestedK
import PySem.Challenge.RW_netwanderers_s01_answers
set_option Elab.async false
set_option linter.all false
section
set_option maxRecDepth 100000
set_option maxHeartbeats 2000000
namespace Nw
open PySem PySem.Spec PyProof.Rows L2
def top (i : Nat) : Stmt := PySem.Challenge.pw_netwanderers_s01_answers.main.body.getD i (.Pass ⟨0, 0, 0, 0⟩)
abbrev s_ways_of : Stmt := top 1
abbrev s_is_linked : Stmt := top 2
abbrev s_leads_out : Stmt := top 3
abbrev s_led_to : Stmt := top 4
abbrev s_came_in : Stmt := top 5
abbrev s_walked : Stmt := top 6
abbrev s_most_exits : Stmt := top 7
abbrev s_distances_among : Stmt := top 8
abbrev s_distances_from : Stmt := top 9
abbrev s_hangs_together : Stmt := top 10
abbrev s_least_like : Stmt := top 11
abbrev s_mark_beyond : Stmt := top 12
abbrev s_classes_by_steps : Stmt := top 13
abbrev s_classes_of : Stmt := top 14
abbrev s_steps_apart : Stmt := top 15
abbrev s_first_word : Stmt := top 17
abbrev s_word_as_near : Stmt := top 19
abbrev s_nearest : Stmt := top 20
abbrev s_meeting : Stmt := top 21
abbrev s_meeting_word : Stmt := top 22
abbrev s_bare : Stmt := top 26
abbrev s_gone : Stmt := top 27
abbrev s_sight : Stmt := top 28
abbrev s_pebble_word : Stmt := top 29
abbrev s_naming : Stmt := top 30
abbrev s_look_out : Stmt := top 33
abbrev s_steps_known : Stmt := top 34
abbrev s_all_but : Stmt := top 35
abbrev s_orders_of : Stmt := top 36
abbrev s_at_worst : Stmt := top 37
abbrev s_all_together : Stmt := top 38
abbrev s_best_order : Stmt := top 39
abbrev s_Moment_init : Stmt := inClass (top 42) 0
abbrev s_set_out : Stmt := top 43
abbrev s_stepped : Stmt := top 44
abbrev s_with_pebble : Stmt := top 45
abbrev s_Wanderers_init : Stmt := inClass (top 46) 0
abbrev s_Wanderers_begin : Stmt := inClass (top 46) 1
abbrev s_Wanderers_change : Stmt := inClass (top 46) 2
abbrev s_Wanderers_take_back : Stmt := inClass (top 46) 3
abbrev s_begin : Stmt := top 65
abbrev s_link : Stmt := top 66
abbrev s_unlink : Stmt := top 67
abbrev s_stand : Stmt := top 68
abbrev s_step : Stmt := top 69
abbrev s_put : Stmt := top 70
abbrev s_take : Stmt := top 71
abbrev s_back : Stmt := top 72
abbrev s_looks : Stmt := top 73
abbrev s_exits : Stmt := top 74
abbrev s_walk : Stmt := top 75
abbrev s_apart : Stmt := top 76
abbrev s_classes : Stmt := top 77
abbrev s_distance : Stmt := top 78
abbrev s_near : Stmt := top 79
abbrev s_meets : Stmt := top 80
abbrev s_can : Stmt := top 81
abbrev s_found : Stmt := top 82
abbrev s_soonest : Stmt := top 83
abbrev s_mean : Stmt := top 84
abbrev s_known : Stmt := top 85
abbrev s_pebble : Stmt := top 86
abbrev s_same : Stmt := top 87
abbrev s_count : Stmt := top 88
abbrev s_state : Stmt := top 89
abbrev s_length_of : Stmt := top 92
abbrev s_arguments_of : Stmt := top 93
abbrev s_answer_of : Stmt := top 94
abbrev s_answers : Stmt := top 95
def d_ways_of : He.DefD := ⟨("ways_of", none), "ways_of", "ways_of", defArgs s_ways_of, defBody s_ways_of, defScope s_ways_of, [], []⟩
def d_is_linked : He.DefD := ⟨("is_linked", none), "is_linked", "is_linked", defArgs s_is_linked, defBody s_is_linked, defScope s_is_linked, [], []⟩
def d_leads_out : He.DefD := ⟨("leads_out", none), "leads_out", "leads_out", defArgs s_leads_out, defBody s_leads_out, defScope s_leads_out, [], []⟩
def d_led_to : He.DefD := ⟨("led_to", none), "led_to", "led_to", defArgs s_led_to, defBody s_led_to, defScope s_led_to, [], []⟩
def d_came_in : He.DefD := ⟨("came_in", none), "came_in", "came_in", defArgs s_came_in, defBody s_came_in, defScope s_came_in, [], []⟩
def d_walked : He.DefD := ⟨("walked", none), "walked", "walked", defArgs s_walked, defBody s_walked, defScope s_walked, [], []⟩
def d_most_exits : He.DefD := ⟨("most_exits", none), "most_exits", "most_exits", defArgs s_most_exits, defBody s_most_exits, defScope s_most_exits, [], []⟩
def d_distances_among : He.DefD := ⟨("distances_among", none), "distances_among", "distances_among", defArgs s_distances_among, defBody s_distances_among, defScope s_distances_among, [], []⟩
def d_distances_from : He.DefD := ⟨("distances_from", none), "distances_from", "distances_from", defArgs s_distances_from, defBody s_distances_from, defScope s_distances_from, [], []⟩
def d_hangs_together : He.DefD := ⟨("hangs_together", none), "hangs_together", "hangs_together", defArgs s_hangs_together, defBody s_hangs_together, defScope s_hangs_together, [], []⟩
def d_least_like : He.DefD := ⟨("least_like", none), "least_like", "least_like", defArgs s_least_like, defBody s_least_like, defScope s_least_like, [], []⟩
def d_mark_beyond : He.DefD := ⟨("mark_beyond", none), "mark_beyond", "mark_beyond", defArgs s_mark_beyond, defBody s_mark_beyond, defScope s_mark_beyond, [], []⟩
def d_classes_by_steps : He.DefD := ⟨("classes_by_steps", none), "classes_by_steps", "classes_by_steps", defArgs s_classes_by_steps, defBody s_classes_by_steps, defScope s_classes_by_steps, [], []⟩
def d_classes_of : He.DefD := ⟨("classes_of", none), "classes_of", "classes_of", defArgs s_classes_of, defBody s_classes_of, defScope s_classes_of, [], []⟩
def d_steps_apart : He.DefD := ⟨("steps_apart", none), "steps_apart", "steps_apart", defArgs s_steps_apart, defBody s_steps_apart, defScope s_steps_apart, [], []⟩
def d_first_word : He.DefD := ⟨("first_word", none), "first_word", "first_word", defArgs s_first_word, defBody s_first_word, defScope s_first_word, [], []⟩
def d_word_as_near : He.DefD := ⟨("word_as_near", none), "word_as_near", "word_as_near", defArgs s_word_as_near, defBody s_word_as_near, defScope s_word_as_near, [], []⟩
def d_nearest : He.DefD := ⟨("nearest", none), "nearest", "nearest", defArgs s_nearest, defBody s_nearest, defScope s_nearest, [], []⟩
def d_meeting : He.DefD := ⟨("meeting", none), "meeting", "meeting", defArgs s_meeting, defBody s_meeting, defScope s_meeting, [], []⟩
def d_meeting_word : He.DefD := ⟨("meeting_word", none), "meeting_word", "meeting_word", defArgs s_meeting_word, defBody s_meeting_word, defScope s_meeting_word, [], []⟩
def d_bare : He.DefD := ⟨("bare", none), "bare", "bare", defArgs s_bare, defBody s_bare, defScope s_bare, [], []⟩
def d_gone : He.DefD := ⟨("gone", none), "gone", "gone", defArgs s_gone, defBody s_gone, defScope s_gone, [], []⟩
def d_sight : He.DefD := ⟨("sight", none), "sight", "sight", defArgs s_sight, defBody s_sight, defScope s_sight, [], []⟩
def d_pebble_word : He.DefD := ⟨("pebble_word", none), "pebble_word", "pebble_word", defArgs s_pebble_word, defBody s_pebble_word, defScope s_pebble_word, [], []⟩
def d_naming : He.DefD := ⟨("naming", none), "naming", "naming", defArgs s_naming, defBody s_naming, defScope s_naming, [], []⟩
def d_look_out : He.DefD := ⟨("look_out", none), "look_out", "look_out", defArgs s_look_out, defBody s_look_out, defScope s_look_out, [], []⟩
def d_steps_known : He.DefD := ⟨("steps_known", none), "steps_known", "steps_known", defArgs s_steps_known, defBody s_steps_known, defScope s_steps_known, [], []⟩
def d_all_but : He.DefD := ⟨("all_but", none), "all_but", "all_but", defArgs s_all_but, defBody s_all_but, defScope s_all_but, [], []⟩
def d_orders_of : He.DefD := ⟨("orders_of", none), "orders_of", "orders_of", defArgs s_orders_of, defBody s_orders_of, defScope s_orders_of, [], []⟩
def d_at_worst : He.DefD := ⟨("at_worst", none), "at_worst", "at_worst", defArgs s_at_worst, defBody s_at_worst, defScope s_at_worst, [], []⟩
def d_all_together : He.DefD := ⟨("all_together", none), "all_together", "all_together", defArgs s_all_together, defBody s_all_together, defScope s_all_together, [], []⟩
def d_best_order : He.DefD := ⟨("best_order", none), "best_order", "best_order", defArgs s_best_order, defBody s_best_order, defScope s_best_order, [], []⟩
def d_Moment_init : He.DefD := ⟨("Moment", some "__init__"), "__init__", "Moment.__init__", defArgs s_Moment_init, defBody s_Moment_init, defScope s_Moment_init, [], []⟩
def d_set_out : He.DefD := ⟨("set_out", none), "set_out", "set_out", defArgs s_set_out, defBody s_set_out, defScope s_set_out, [], []⟩
def d_stepped : He.DefD := ⟨("stepped", none), "stepped", "stepped", defArgs s_stepped, defBody s_stepped, defScope s_stepped, [], []⟩
def d_with_pebble : He.DefD := ⟨("with_pebble", none), "with_pebble", "with_pebble", defArgs s_with_pebble, defBody s_with_pebble, defScope s_with_pebble, [], []⟩
def d_Wanderers_init : He.DefD := ⟨("Wanderers", some "__init__"), "__init__", "Wanderers.__init__", defArgs s_Wanderers_init, defBody s_Wanderers_init, defScope s_Wanderers_init, [], []⟩
def d_Wanderers_begin : He.DefD := ⟨("Wanderers", some "begin"), "begin", "Wanderers.begin", defArgs s_Wanderers_begin, defBody s_Wanderers_begin, defScope s_Wanderers_begin, [], []⟩
def d_Wanderers_change : He.DefD := ⟨("Wanderers", some "change"), "change", "Wanderers.change", defArgs s_Wanderers_change, defBody s_Wanderers_change, defScope s_Wanderers_change, [], []⟩
def d_Wanderers_take_back : He.DefD := ⟨("Wanderers", some "take_back"), "take_back", "Wanderers.take_back", defArgs s_Wanderers_take_back, defBody s_Wanderers_take_back, defScope s_Wanderers_take_back, [], []⟩
def d_begin : He.DefD := ⟨("begin", none), "begin", "begin", defArgs s_begin, defBody s_begin, defScope s_begin, [], []⟩
def d_link : He.DefD := ⟨("link", none), "link", "link", defArgs s_link, defBody s_link, defScope s_link, [], []⟩
def d_unlink : He.DefD := ⟨("unlink", none), "unlink", "unlink", defArgs s_unlink, defBody s_unlink, defScope s_unlink, [], []⟩
def d_stand : He.DefD := ⟨("stand", none), "stand", "stand", defArgs s_stand, defBody s_stand, defScope s_stand, [], []⟩
def d_step : He.DefD := ⟨("step", none), "step", "step", defArgs s_step, defBody s_step, defScope s_step, [], []⟩
def d_put : He.DefD := ⟨("put", none), "put", "put", defArgs s_put, defBody s_put, defScope s_put, [], []⟩
def d_take : He.DefD := ⟨("take", none), "take", "take", defArgs s_take, defBody s_take, defScope s_take, [], []⟩
def d_back : He.DefD := ⟨("back", none), "back", "back", defArgs s_back, defBody s_back, defScope s_back, [], []⟩
def d_looks : He.DefD := ⟨("looks", none), "looks", "looks", defArgs s_looks, defBody s_looks, defScope s_looks, [], []⟩
def d_exits : He.DefD := ⟨("exits", none), "exits", "exits", defArgs s_exits, defBody s_exits, defScope s_exits, [], []⟩
def d_walk : He.DefD := ⟨("walk", none), "walk", "walk", defArgs s_walk, defBody s_walk, defScope s_walk, [], []⟩
def d_apart : He.DefD := ⟨("apart", none), "apart", "apart", defArgs s_apart, defBody s_apart, defScope s_apart, [], []⟩
def d_classes : He.DefD := ⟨("classes", none), "classes", "classes", defArgs s_classes, defBody s_classes, defScope s_classes, [], []⟩
def d_distance : He.DefD := ⟨("distance", none), "distance", "distance", defArgs s_distance, defBody s_distance, defScope s_distance, [], []⟩
def d_near : He.DefD := ⟨("near", none), "near", "near", defArgs s_near, defBody s_near, defScope s_near, [], []⟩
def d_meets : He.DefD := ⟨("meets", none), "meets", "meets", defArgs s_meets, defBody s_meets, defScope s_meets, [], []⟩
def d_can : He.DefD := ⟨("can", none), "can", "can", defArgs s_can, defBody s_can, defScope s_can, [], []⟩
def d_found : He.DefD := ⟨("found", none), "found", "found", defArgs s_found, defBody s_found, defScope s_found, [], []⟩
def d_soonest : He.DefD := ⟨("soonest", none), "soonest", "soonest", defArgs s_soonest, defBody s_soonest, defScope s_soonest, [], []⟩
def d_mean : He.DefD := ⟨("mean", none), "mean", "mean", defArgs s_mean, defBody s_mean, defScope s_mean, [], []⟩
def d_known : He.DefD := ⟨("known", none), "known", "known", defArgs s_known, defBody s_known, defScope s_known, [], []⟩
def d_pebble : He.DefD := ⟨("pebble", none), "pebble", "pebble", defArgs s_pebble, defBody s_pebble, defScope s_pebble, [], []⟩
def d_same : He.DefD := ⟨("same", none), "same", "same", defArgs s_same, defBody s_same, defScope s_same, [], []⟩
def d_count : He.DefD := ⟨("count", none), "count", "count", defArgs s_count, defBody s_count, defScope s_count, [], []⟩
def d_state : He.DefD := ⟨("state", none), "state", "state", defArgs s_state, defBody s_state, defScope s_state, [], []⟩
def d_length_of : He.DefD := ⟨("length_of", none), "length_of", "length_of", defArgs s_length_of, defBody s_length_of, defScope s_length_of, [], []⟩
def d_arguments_of : He.DefD := ⟨("arguments_of", none), "arguments_of", "arguments_of", defArgs s_arguments_of, defBody s_arguments_of, defScope s_arguments_of, [], []⟩
def d_answer_of : He.DefD := ⟨("answer_of", none), "answer_of", "answer_of", defArgs s_answer_of, defBody s_answer_of, defScope s_answer_of, [], []⟩
def d_answers : He.DefD := ⟨("answers", none), "answers", "answers", defArgs s_answers, defBody s_answers, defScope s_answers, [], []⟩
def fns0 : List He.DefD := [d_ways_of, d_is_linked, d_leads_out, d_led_to, d_came_in, d_walked, d_most_exits, d_distances_among, d_distances_from, d_hangs_together, d_least_like, d_mark_beyond, d_classes_by_steps, d_classes_of, d_steps_apart, d_first_word, d_word_as_near, d_nearest, d_meeting, d_meeting_word]
def fns1 : List He.DefD := [d_bare, d_gone, d_sight, d_pebble_word, d_naming, d_look_out, d_steps_known, d_all_but, d_orders_of, d_at_worst, d_all_together, d_best_order, d_Moment_init, d_set_out, d_stepped, d_with_pebble, d_Wanderers_init, d_Wanderers_begin, d_Wanderers_change, d_Wanderers_take_back]
def fns2 : List He.DefD := [d_begin, d_link, d_unlink, d_stand, d_step, d_put, d_take, d_back, d_looks, d_exits, d_walk, d_apart, d_classes, d_distance, d_near, d_meets, d_can, d_found, d_soonest, d_mean]
def fns3 : List He.DefD := [d_known, d_pebble, d_same, d_count, d_state, d_length_of, d_arguments_of, d_answer_of, d_answers]
def fns : List He.DefD := fns0 ++ fns1 ++ fns2 ++ fns3
def fas0 : List He.Fa := [.glo "ways_of", .glo "is_linked", .glo "leads_out", .glo "led_to", .glo "came_in", .glo "walked", .glo "most_exits", .glo "distances_among", .glo "distances_from", .glo "hangs_together", .glo "least_like", .glo "mark_beyond", .glo "classes_by_steps", .glo "classes_of", .glo "steps_apart", .glo "first_word", .glo "word_as_near", .glo "nearest", .glo "meeting", .glo "meeting_word"]
def fas1 : List He.Fa := [.glo "bare", .glo "gone", .glo "sight", .glo "pebble_word", .glo "naming", .glo "look_out", .glo "steps_known", .glo "all_but", .glo "orders_of", .glo "at_worst", .glo "all_together", .glo "best_order", .glo "set_out", .glo "stepped", .glo "with_pebble", .glo "begin", .glo "link", .glo "unlink", .glo "stand", .glo "step"]
def fas2 : List He.Fa := [.glo "put", .glo "take", .glo "back", .glo "looks", .glo "exits", .glo "walk", .glo "apart", .glo "classes", .glo "distance", .glo "near", .glo "meets", .glo "can", .glo "found", .glo "soonest", .glo "mean", .glo "known", .glo "pebble", .glo "same", .glo "count", .glo "state"]
def fas3 : List He.Fa := [.glo "length_of", .glo "arguments_of", .glo "answer_of", .glo "answers", .glo "Moment", .glo "Wanderers", .free "len", .free "range", .free "max", .free "min", .free "sum", .free "sorted", .free "any", .free "enumerate", .free "zip", .free "list", .int "PUT" (1), .int "TAKE" (2), .int "IN_AND_BACK" (2), .int "MOST_BACK" (10)]
def fas4 : List He.Fa := [.int "MOST_PLACES" (7), .int "MOST_LINKS" (10), .int "MOST_LETTERS" (30), .int "MOST_LATER" (20), .int "MOST_LATER_FOUND" (2), .int "MOST_EXITS_FOUND" (4), .int "MOST_PLACES_LOOKED" (6), .int "MOST_PLACES_PEBBLE" (5), .int "NOT_THERE" (-2), .int "NONE_SUCH" (-6), .int "ALREADY" (-17), .int "WRONG" (-22), .int "FULL" (-28), .int "NOT_SO" (-33), .int "NOT_TOGETHER" (-35), .int "NOT_BEGUN" (-61), .int "TOO_MUCH" (-75), .int "BEGIN" (0), .cls "Moment", .mkr "Moment"]
def fas5 : List He.Fa := [.noat "Moment" "size", .noat "Moment" "links", .noat "Moment" "ways", .noat "Moment" "a", .noat "Moment" "b", .noat "Moment" "pebble", .noat "Moment" "steps", .noat "Moment" "met", .cls "Wanderers", .mkr "Wanderers", .meth "Wanderers" "begin", .meth "Wanderers" "change", .meth "Wanderers" "take_back", .noat "Wanderers" "now", .noat "Wanderers" "past"]
def fas : List He.Fa := fas0 ++ fas1 ++ fas2 ++ fas3 ++ fas4 ++ fas5
def lo0 : List PySem.Str := ["ways_of", "is_linked", "leads_out", "led_to", "came_in", "walked", "most_exits", "distances_among", "distances_from", "hangs_together", "least_like", "mark_beyond", "classes_by_steps", "classes_of", "steps_apart", "first_word", "word_as_near", "nearest", "meeting", "meeting_word", "PUT", "TAKE", "bare", "gone", "sight", "pebble_word", "naming", "IN_AND_BACK", "look_out", "steps_known"]
def lo1 : List PySem.Str := ["all_but", "orders_of", "at_worst", "all_together", "best_order", "MOST_BACK", "Moment", "set_out", "stepped", "with_pebble", "Wanderers", "MOST_PLACES", "MOST_LINKS", "MOST_LETTERS", "MOST_LATER", "MOST_LATER_FOUND", "MOST_EXITS_FOUND", "MOST_PLACES_LOOKED", "MOST_PLACES_PEBBLE", "NOT_THERE", "NONE_SUCH", "ALREADY", "WRONG", "FULL", "NOT_SO", "NOT_TOGETHER", "NOT_BEGUN", "TOO_MUCH", "begin", "link"]
def lo2 : List PySem.Str := ["unlink", "stand", "step", "put", "take", "back", "looks", "exits", "walk", "apart", "classes", "distance", "near", "meets", "can", "found", "soonest", "mean", "known", "pebble", "same", "count", "state", "CALLS", "BEGIN", "length_of", "arguments_of", "answer_of"]
def loose : List PySem.Str := lo0 ++ lo1 ++ lo2
def lastAt : Nat := 95
def nested : List He.Defn := [("word_as_near", none), ("meeting_word", none), ("pebble_word", none)]
end Nw
end
section
set_option maxRecDepth 100000
set_option maxHeartbeats 0
namespace Nw
open PySem PySem.Spec PyProof.Rows L2
/-- the table of calls, as it is written -/
def callRows : List (Str × Int × Int × Int × Bool) := [("begin", 1, 0, 0, false), ("link", 2, 2, 0, false), ("unlink", 1, 0, 0, false), ("stand", 2, 2, 0, false), ("step", 2, 0, 0, false), ("put", 0, 0, 0, false), ("take", 0, 0, 0, false), ("back", 0, 0, 0, false),
  ("looks", 1, 0, 0, false), ("exits", 1, 1, 0, false), ("walk", 1, 1, 1, false), ("apart", 2, 2, 0, false), ("classes", 0, 0, 0, false), ("distance", 2, 2, 0, false), ("near", 2, 2, 0, true), ("meets", 1, 0, 1, false), ("can", 1, 0, 0, true), ("found", 1, 0, 0, true),
  ("soonest", 1, 1, 0, true), ("mean", 1, 1, 0, true), ("known", 1, 1, 1, false), ("pebble", 2, 2, 0, false), ("same", 2, 2, 0, true), ("count", 0, 0, 0, false), ("state", 0, 0, 0, false)]
def callB (K : PySem.W.Frag) (r : Str × Int × Int × Int × Bool) (v : Value) : Bool := match v with
  | .ref a => (match K.lookup a with
    | some ⟨.type c, _, .seq its _, _⟩ => decide (c = "tuple") && (match its.toList with
      | [.ref f, .int i _, .int j _, .int k _, .bool b] => decide (f = He.ga K r.1) && (decide (i = r.2.1) && (decide (j = r.2.2.1) && (decide (k = r.2.2.2.1) && decide (b = r.2.2.2.2))))
      | _ => false)
    | _ => false)
  | _ => false
def callsAll (K : PySem.W.Frag) : List (Str × Int × Int × Int × Bool) → List Value → Bool
  | [], [] => true
  | r :: rs, v :: vs => callB K r v && callsAll K rs vs
  | _, _ => false
def callsB (K : PySem.W.Frag) : Bool := match K.lookup (He.ga K "CALLS") with
  | some ⟨.type c, _, .seq its _, _⟩ => decide (c = "tuple") && callsAll K callRows its.toList
  | _ => false
abbrev RW : PySem.W.OpenSpec := PySem.Challenge.rw_netwanderers_s01_answers
abbrev qv : Program := PySem.W.view RW.prog [lastAt]
def allFa : List He.Fa := .glo "CALLS" :: fas
abbrev hk : PySem.W.Hook := He.hookX 6 allFa fns [] nested callsB
def ob (s : PySem.W.SharedT) : He.AlX := He.obsX 6 allFa fns [] nested callsB (HeadRun.getT s)
theorem ob_eq (s : PySem.W.SharedT) : ob s = hk.obs s.abs := He.obsX_eq (HeadRun.getT_eq s)
theorem headRun (w : World) : HeadRun.RunEqS RW qv hk ob 4000 loose w := by
  intro os
  kernel_rfl
end Nw
end
section
namespace Nw

theorem nodup_le {α : Type} [DecidableEq α] : ∀ (l u : List α), l.Nodup → (∀ x ∈ l, x ∈ u) → l.length ≤ u.length
  | [], _, _, _ => Nat.zero_le _
  | a :: l, u, hn, hs => by
    have hn' := List.nodup_cons.mp hn
    have ha : a ∈ u := hs a List.mem_cons_self
    have h1 : l.length ≤ (u.erase a).length := nodup_le l (u.erase a) hn'.2 fun x hx => by
      have hne : x ≠ a := fun e => hn'.1 (e ▸ hx)
      exact (List.mem_erase_of_ne hne).mpr (hs x (List.mem_cons_of_mem _ hx))
    have h2 := List.length_erase_of_mem ha
    have h3 : 0 < u.length := List.length_pos_of_mem ha
    simp only [List.length_cons]
    omega

theorem find_prefix {α : Type} {p : α → Bool} {l : List α} {x : α} {r : List α} (h : (l ++ [x]) <+: r) (hl : ∀ y ∈ l, p y = false) (hx : p x = true) : r.find? p = some x := by
  obtain ⟨s, rfl⟩ := h
  rw [List.append_assoc, List.find?_append]
  have e : l.find? p = none := List.find?_eq_none.mpr fun y hy => by simp [hl y hy]
  rw [e]
  simp [hx]

section
variable {S : Type} [DecidableEq S]
abbrev It (S : Type) := S × List Nat

/-- a thing more, unless it is there -/
def add (l : List (It S)) (q : It S) : List (It S) := if l.any (fun r => r.1 == q.1) then l else l ++ [q]
theorem add_prefix (l : List (It S)) (q : It S) : l <+: add l q := by
  unfold add; split
  · exact List.prefix_refl _
  · exact List.prefix_append _ _
theorem add_has (l : List (It S)) (q : It S) : ∃ r ∈ add l q, r.1 = q.1 := by
  unfold add; split
  · rename_i h
    obtain ⟨r, hr, e⟩ := List.any_eq_true.mp h
    exact ⟨r, hr, by simpa using e⟩
  · exact ⟨q, by simp, rfl⟩
theorem add_old {l : List (It S)} {q : It S} (h : ∃ r ∈ l, r.1 = q.1) : add l q = l := by
  unfold add
  rw [if_pos]
  obtain ⟨r, hr, e⟩ := h
  exact List.any_eq_true.mpr ⟨r, hr, by simp [e]⟩
theorem add_new {l : List (It S)} {q : It S} (h : ∀ r ∈ l, r.1 ≠ q.1) : add l q = l ++ [q] := by
  unfold add
  rw [if_neg]
  intro z
  obtain ⟨r, hr, e⟩ := List.any_eq_true.mp z
  exact h r hr (by simpa using e)
theorem add_nodup {l : List (It S)} {q : It S} (h : (l.map (·.1)).Nodup) : ((add l q).map (·.1)).Nodup := by
  unfold add; split
  · exact h
  · rename_i z
    rw [List.map_append, List.nodup_append]
    refine ⟨h, by simp, ?_⟩
    intro a ha b hb e
    simp only [List.map_cons, List.map_nil, List.mem_singleton] at hb
    obtain ⟨r, hr, rfl⟩ := List.mem_map.mp ha
    exact z (List.any_eq_true.mpr ⟨r, hr, by simp [e, hb]⟩)
theorem add_mem {l : List (It S)} {q r : It S} (h : r ∈ add l q) : r ∈ l ∨ r = q := by
  unfold add at h; split at h
  · exact .inl h
  · simpa using h

variable (go : S → Nat → S) (m : Nat) (s0 : S)
/-- the first x letters gone from p -/
def procTo (p : It S) (x : Nat) (l : List (It S)) : List (It S) := (List.range x).foldl (fun l x => add l (go p.1 x, p.2 ++ [x])) l
def proc (l : List (It S)) (p : It S) : List (It S) := procTo go p m l
theorem procTo_zero (p : It S) (l : List (It S)) : procTo go p 0 l = l := rfl
theorem procTo_succ (p : It S) (x : Nat) (l : List (It S)) : procTo go p (x + 1) l = add (procTo go p x l) (go p.1 x, p.2 ++ [x]) := by
  unfold procTo
  rw [List.range_succ, List.foldl_append]
  rfl
theorem procTo_prefix (p : It S) (l : List (It S)) : ∀ x, l <+: procTo go p x l
  | 0 => List.prefix_refl _
  | x + 1 => by
    rw [procTo_succ]
    exact (procTo_prefix p l x).trans (add_prefix _ _)
theorem procTo_mono (p : It S) (l : List (It S)) {x : Nat} : ∀ {y : Nat}, x ≤ y → procTo go p x l <+: procTo go p y l
  | 0, h => by
    have : x = 0 := by omega
    subst this; exact List.prefix_refl _
  | y + 1, h => by
    rcases Nat.lt_or_ge x (y + 1) with q | q
    · rw [procTo_succ]
      exact (procTo_mono p l (by omega)).trans (add_prefix _ _)
    · have : x = y + 1 := by omega
      subst this; exact List.prefix_refl _
theorem proc_prefix (l : List (It S)) (p : It S) : l <+: proc go m l p := procTo_prefix go p l m
theorem procTo_has (p : It S) (l : List (It S)) {x y : Nat} (h : x < y) : ∃ r ∈ procTo go p y l, r.1 = go p.1 x := by
  have h1 : procTo go p (x + 1) l <+: procTo go p y l := procTo_mono go p l h
  rw [procTo_succ] at h1
  obtain ⟨r, hr, e⟩ := add_has (procTo go p x l) (go p.1 x, p.2 ++ [x])
  exact ⟨r, h1.subset hr, e⟩
theorem procTo_old (p : It S) (l : List (It S)) : ∀ x, (∀ y, y < x → ∃ r ∈ l, r.1 = go p.1 y) → procTo go p x l = l
  | 0, _ => rfl
  | x + 1, h => by
    rw [procTo_succ, procTo_old p l x fun y hy => h y (by omega)]
    exact add_old (h x (by omega))
theorem procTo_nodup (p : It S) (l : List (It S)) (h : (l.map (·.1)).Nodup) : ∀ x, ((procTo go p x l).map (·.1)).Nodup
  | 0 => h
  | x + 1 => by
    rw [procTo_succ]
    exact add_nodup (procTo_nodup p l h x)
theorem procTo_mem (p : It S) (l : List (It S)) {r : It S} : ∀ {x}, r ∈ procTo go p x l → r ∈ l ∨ ∃ y, y < x ∧ r = (go p.1 y, p.2 ++ [y])
  | 0, h => .inl h
  | x + 1, h => by
    rw [procTo_succ] at h
    rcases add_mem h with h | h
    · rcases procTo_mem p l h with h | ⟨y, hy, e⟩
      · exact .inl h
      · exact .inr ⟨y, by omega, e⟩
    · exact .inr ⟨x, by omega, h⟩

/-- behind j things gone on from -/
def Q : Nat → List (It S)
  | 0 => [(s0, [])]
  | j + 1 => match (Q j)[j]? with
    | some p => proc go m (Q j) p
    | none => Q j
theorem Q_some {j : Nat} {p : It S} (h : (Q go m s0 j)[j]? = some p) : Q go m s0 (j + 1) = proc go m (Q go m s0 j) p := by
  show (match (Q go m s0 j)[j]? with | some p => proc go m (Q go m s0 j) p | none => Q go m s0 j) = _
  rw [h]
theorem Q_none {j : Nat} (h : (Q go m s0 j).length ≤ j) : Q go m s0 (j + 1) = Q go m s0 j := by
  show (match (Q go m s0 j)[j]? with | some p => proc go m (Q go m s0 j) p | none => Q go m s0 j) = _
  rw [List.getElem?_eq_none h]
theorem Q_step (j : Nat) : Q go m s0 j <+: Q go m s0 (j + 1) := by
  cases h : (Q go m s0 j)[j]? with
  | none => rw [Q_none go m s0 (List.getElem?_eq_none_iff.mp h)]; exact List.prefix_refl _
  | some p => rw [Q_some go m s0 h]; exact proc_prefix go m _ p
theorem Q_mono {i : Nat} : ∀ {j : Nat}, i ≤ j → Q go m s0 i <+: Q go m s0 j
  | 0, h => by
    have : i = 0 := by omega
    subst this; exact List.prefix_refl _
  | j + 1, h => by
    rcases Nat.lt_or_ge i (j + 1) with q | q
    · exact (Q_mono (by omega)).trans (Q_step go m s0 j)
    · have : i = j + 1 := by omega
      subst this; exact List.prefix_refl _
theorem Q_get {i j k : Nat} {p : It S} (hij : i ≤ j) (h : (Q go m s0 i)[k]? = some p) : (Q go m s0 j)[k]? = some p := by
  obtain ⟨t, e⟩ := Q_mono go m s0 hij
  rw [← e]
  rw [List.getElem?_append_left (List.getElem?_eq_some_iff.mp h).1]
  exact h
theorem Q_stop {j : Nat} (h : (Q go m s0 j).length ≤ j) : ∀ {k : Nat}, j ≤ k → Q go m s0 k = Q go m s0 j
  | 0, hk => by
    have : j = 0 := by omega
    subst this; rfl
  | k + 1, hk => by
    rcases Nat.lt_or_ge j (k + 1) with q | q
    · have e := Q_stop h (k := k) (by omega)
      rw [Q_none go m s0 (by rw [e]; omega), e]
    · have : j = k + 1 := by omega
      subst this; rfl
theorem Q_nodup : ∀ j, ((Q go m s0 j).map (·.1)).Nodup
  | 0 => by simp [Q]
  | j + 1 => by
    cases h : (Q go m s0 j)[j]? with
    | none => rw [Q_none go m s0 (List.getElem?_eq_none_iff.mp h)]; exact Q_nodup j
    | some p => rw [Q_some go m s0 h]; exact procTo_nodup go p _ (Q_nodup j) m
theorem Q_first (j : Nat) : (Q go m s0 j)[0]? = some (s0, []) := Q_get go m s0 (Nat.zero_le j) rfl
theorem Q_pos (j : Nat) : 0 < (Q go m s0 j).length := (List.getElem?_eq_some_iff.mp (Q_first go m s0 j)).1
/-- whatever is gone on from: where it leads is there -/
theorem Q_closed {i j x : Nat} {p : It S} (hij : i < j) (h : (Q go m s0 j)[i]? = some p) (hx : x < m) : ∃ r ∈ Q go m s0 j, r.1 = go p.1 x := by
  have hi : i < (Q go m s0 i).length ∨ (Q go m s0 i).length ≤ i := Nat.lt_or_ge _ _
  rcases hi with hi | hi
  · have e : (Q go m s0 i)[i]? = some p := by
      have e1 : (Q go m s0 i)[i]? = some (Q go m s0 i)[i] := List.getElem?_eq_getElem hi
      have e2 := Q_get go m s0 (Nat.le_of_lt hij) e1
      rw [h] at e2
      rw [e1, ← e2]
    obtain ⟨r, hr, er⟩ := procTo_has go p (Q go m s0 i) hx
    have e3 : Q go m s0 (i + 1) = procTo go p m (Q go m s0 i) := Q_some go m s0 e
    rw [← e3] at hr
    exact ⟨r, (Q_mono go m s0 hij).subset hr, er⟩
  · rw [Q_stop go m s0 hi (Nat.le_of_lt hij)] at h
    have := (List.getElem?_eq_some_iff.mp h).1
    omega

/-- all things that may be come to -/
theorem Q_in {U : S → Prop} (h0 : U s0) (hg : ∀ s x, U s → x < m → U (go s x)) : ∀ j, ∀ r ∈ Q go m s0 j, U r.1
  | 0, r, hr => by
    simp only [Q, List.mem_singleton] at hr
    subst hr; exact h0
  | j + 1, r, hr => by
    cases h : (Q go m s0 j)[j]? with
    | none => rw [Q_none go m s0 (List.getElem?_eq_none_iff.mp h)] at hr; exact Q_in h0 hg j r hr
    | some p =>
      rw [Q_some go m s0 h] at hr
      rcases procTo_mem go p _ hr with hr | ⟨y, hy, e⟩
      · exact Q_in h0 hg j r hr
      · subst e
        exact hg _ _ (Q_in h0 hg j p (List.mem_of_getElem? h)) hy
theorem Q_le {u : List S} (h0 : s0 ∈ u) (hg : ∀ s x, s ∈ u → x < m → go s x ∈ u) (j : Nat) : (Q go m s0 j).length ≤ u.length := by
  have h := nodup_le ((Q go m s0 j).map (·.1)) u (Q_nodup go m s0 j) fun x hx => by
    obtain ⟨r, hr, rfl⟩ := List.mem_map.mp hx
    exact Q_in go m s0 (U := fun s => s ∈ u) h0 hg j r hr
  simpa using h

def run (s : S) (w : List Nat) : S := w.foldl go s
theorem run_snoc (s : S) (w : List Nat) (x : Nat) : run go s (w ++ [x]) = go (run go s w) x := by
  unfold run; rw [List.foldl_append]; rfl
theorem Q_run : ∀ j, ∀ r ∈ Q go m s0 j, run go s0 r.2 = r.1 ∧ ∀ x ∈ r.2, x < m
  | 0, r, hr => by
    simp only [Q, List.mem_singleton] at hr
    subst hr; exact ⟨rfl, by simp⟩
  | j + 1, r, hr => by
    cases h : (Q go m s0 j)[j]? with
    | none => rw [Q_none go m s0 (List.getElem?_eq_none_iff.mp h)] at hr; exact Q_run j r hr
    | some p =>
      rw [Q_some go m s0 h] at hr
      rcases procTo_mem go p _ hr with hr | ⟨y, hy, e⟩
      · exact Q_run j r hr
      · subst e
        have hp := Q_run j p (List.mem_of_getElem? h)
        refine ⟨by rw [run_snoc, hp.1], fun x hx => ?_⟩
        rcases List.mem_append.mp hx with hx | hx
        · exact hp.2 x hx
        · simp at hx; omega

def Lx : List Nat → List Nat → Prop
  | x :: a, y :: b => x < y ∨ (x = y ∧ Lx a b)
  | _, _ => False
def Sl (a b : List Nat) : Prop := a.length < b.length ∨ (a.length = b.length ∧ Lx a b)
theorem Lx.irrefl : ∀ a, ¬ Lx a a
  | [], h => h
  | x :: a, h => by
    rcases h with h | ⟨_, h⟩
    · omega
    · exact Lx.irrefl a h
theorem Lx.trans : ∀ {a b c}, Lx a b → Lx b c → Lx a c
  | x :: a, y :: b, z :: c, h1, h2 => by
    rcases h1 with h1 | ⟨e1, h1⟩
    · rcases h2 with h2 | ⟨e2, h2⟩
      · exact .inl (by omega)
      · exact .inl (by omega)
    · rcases h2 with h2 | ⟨e2, h2⟩
      · exact .inl (by omega)
      · exact .inr ⟨by omega, Lx.trans h1 h2⟩
theorem Lx.snoc : ∀ {a b : List Nat} (x y : Nat), a.length = b.length → Lx a b → Lx (a ++ [x]) (b ++ [y])
  | p :: a, q :: b, x, y, hl, h => by
    rcases h with h | ⟨e, h⟩
    · exact .inl h
    · exact .inr ⟨e, Lx.snoc x y (by simpa using hl) h⟩
theorem Lx.last : ∀ (a : List Nat) {x y : Nat}, x < y → Lx (a ++ [x]) (a ++ [y])
  | [], x, y, h => .inl h
  | p :: a, x, y, h => .inr ⟨rfl, Lx.last a h⟩
theorem Sl.irrefl (a : List Nat) : ¬ Sl a a := fun h => by
  rcases h with h | ⟨_, h⟩
  · omega
  · exact Lx.irrefl a h
theorem Sl.trans {a b c : List Nat} (h1 : Sl a b) (h2 : Sl b c) : Sl a c := by
  rcases h1 with h1 | ⟨e1, h1⟩ <;> rcases h2 with h2 | ⟨e2, h2⟩
  · exact .inl (by omega)
  · exact .inl (by omega)
  · exact .inl (by omega)
  · exact .inr ⟨by omega, h1.trans h2⟩
theorem Sl.snoc {a b : List Nat} (x y : Nat) (h : Sl a b) : Sl (a ++ [x]) (b ++ [y]) := by
  rcases h with h | ⟨e, h⟩
  · exact .inl (by simpa using h)
  · exact .inr ⟨by simpa using e, h.snoc x y e⟩
theorem Sl.last (a : List Nat) {x y : Nat} (h : x < y) : Sl (a ++ [x]) (a ++ [y]) := .inr ⟨by simp, Lx.last a h⟩
theorem Sl.nil (a : List Nat) (x : Nat) : Sl [] (a ++ [x]) := .inl (by simp)
theorem Sl.len {a b : List Nat} (h : Sl a b) : a.length ≤ b.length := by
  rcases h with h | ⟨e, _⟩ <;> omega
/-- at most -/
def Se (a b : List Nat) : Prop := a = b ∨ Sl a b
theorem Se.trans {a b c : List Nat} (h1 : Se a b) (h2 : Se b c) : Se a c := by
  rcases h1 with rfl | h1
  · exact h2
  · rcases h2 with rfl | h2
    · exact .inr h1
    · exact .inr (h1.trans h2)
theorem Se.anti {a b : List Nat} (h1 : Se a b) (h2 : Se b a) : a = b := by
  rcases h1 with h1 | h1
  · exact h1
  · rcases h2 with h2 | h2
    · exact h2.symm
    · exact absurd (h1.trans h2) (Sl.irrefl a)
theorem Se.len {a b : List Nat} (h : Se a b) : a.length ≤ b.length := by
  rcases h with rfl | h
  · exact Nat.le_refl _
  · exact h.len
theorem Se.snoc {a b : List Nat} (x : Nat) (h : Se a b) : Se (a ++ [x]) (b ++ [x]) := by
  rcases h with rfl | h
  · exact .inl rfl
  · exact .inr (h.snoc x x)

/-- where the words come from: all but the first are a letter behind an earlier one's; they rise -/
theorem procTo_rise (p : It S) (l : List (It S)) (hl : (l.map (·.2)).Pairwise Sl) (hb : ∀ r ∈ l, ∀ y, Sl r.2 (p.2 ++ [y])) : ∀ x, ((procTo go p x l).map (·.2)).Pairwise Sl ∧ ∀ r ∈ procTo go p x l, ∀ y, x ≤ y → Sl r.2 (p.2 ++ [y])
  | 0 => ⟨hl, fun r hr y _ => hb r hr y⟩
  | x + 1 => by
    obtain ⟨h1, h2⟩ := procTo_rise p l hl hb x
    rw [procTo_succ]
    unfold add
    split
    · exact ⟨h1, fun r hr y hy => h2 r hr y (by omega)⟩
    · constructor
      · rw [List.map_append, List.pairwise_append]
        refine ⟨h1, by simp, fun a ha b hb => ?_⟩
        simp only [List.map_cons, List.map_nil, List.mem_singleton] at hb
        obtain ⟨r, hr, rfl⟩ := List.mem_map.mp ha
        subst hb
        exact h2 r hr x (Nat.le_refl _)
      · intro r hr y hy
        rcases List.mem_append.mp hr with hr | hr
        · exact h2 r hr y (by omega)
        · simp only [List.mem_singleton] at hr
          subst hr
          exact Sl.last p.2 (by omega)
theorem Q_rise : ∀ j, ((Q go m s0 j).map (·.2)).Pairwise Sl ∧ ∀ p, (Q go m s0 j)[j]? = some p → ∀ r ∈ Q go m s0 j, ∀ y, Sl r.2 (p.2 ++ [y])
  | 0 => by
    refine ⟨by simp [Q], fun p hp r hr y => ?_⟩
    simp only [Q, List.mem_singleton] at hr
    subst hr
    exact Sl.nil _ _
  | j + 1 => by
    obtain ⟨h1, h2⟩ := Q_rise j
    cases h : (Q go m s0 j)[j]? with
    | none =>
      have hl := List.getElem?_eq_none_iff.mp h
      rw [Q_none go m s0 hl]
      refine ⟨h1, fun p hp => ?_⟩
      have := (List.getElem?_eq_some_iff.mp hp).1
      omega
    | some p =>
      obtain ⟨h3, h4⟩ := procTo_rise go p _ h1 (h2 p h) m
      rw [Q_some go m s0 h]
      refine ⟨h3, fun q hq r hr y => ?_⟩
      -- q stands behind p
      have hp : (procTo go p m (Q go m s0 j))[j]? = some p := by
        obtain ⟨t, e⟩ := procTo_prefix go p (Q go m s0 j) m
        rw [← e, List.getElem?_append_left (List.getElem?_eq_some_iff.mp h).1]
        exact h
      have hpq : Sl p.2 q.2 := by
        have hq' : (procTo go p m (Q go m s0 j))[j + 1]? = some q := hq
        have a1 : ((procTo go p m (Q go m s0 j)).map (·.2))[j]? = some p.2 := by rw [List.getElem?_map, hp]; rfl
        have a2 : ((procTo go p m (Q go m s0 j)).map (·.2))[j + 1]? = some q.2 := by rw [List.getElem?_map, hq']; rfl
        obtain ⟨b1, c1⟩ := List.getElem?_eq_some_iff.mp a1
        obtain ⟨b2, c2⟩ := List.getElem?_eq_some_iff.mp a2
        have := List.pairwise_iff_getElem.mp h3 j (j + 1) b1 b2 (by omega)
        rw [c1, c2] at this
        exact this
      rcases procTo_mem go p _ hr with hr | ⟨z, hz, e⟩
      · exact (h2 p h r hr 0).trans (hpq.snoc 0 y)
      · subst e
        exact hpq.snoc z y
theorem Q_sorted (j : Nat) {a b : Nat} {p q : It S} (hab : a < b) (ha : (Q go m s0 j)[a]? = some p) (hb : (Q go m s0 j)[b]? = some q) : Sl p.2 q.2 := by
  have a1 : ((Q go m s0 j).map (·.2))[a]? = some p.2 := by rw [List.getElem?_map, ha]; rfl
  have a2 : ((Q go m s0 j).map (·.2))[b]? = some q.2 := by rw [List.getElem?_map, hb]; rfl
  obtain ⟨b1, c1⟩ := List.getElem?_eq_some_iff.mp a1
  obtain ⟨b2, c2⟩ := List.getElem?_eq_some_iff.mp a2
  have := List.pairwise_iff_getElem.mp (Q_rise go m s0 j).1 a b b1 b2 hab
  rw [c1, c2] at this
  exact this

/-- each word's end is come to by a word that is no later -/
theorem Q_best {j : Nat} (hc : (Q go m s0 j).length ≤ j) : ∀ (w : List Nat), (∀ x ∈ w, x < m) → ∃ r ∈ Q go m s0 j, r.1 = run go s0 w ∧ Se r.2 w := by
  intro w
  -- by the word's length
  have key : ∀ (n : Nat) (w : List Nat), w.length = n → (∀ x ∈ w, x < m) → ∃ r ∈ Q go m s0 j, r.1 = run go s0 w ∧ Se r.2 w := by
    intro n
    induction n with
    | zero =>
      intro w hw _
      have : w = [] := List.length_eq_zero_iff.mp hw
      subst this
      exact ⟨(s0, []), List.mem_of_getElem? (Q_first go m s0 j), rfl, .inl rfl⟩
    | succ n ih =>
      intro w hw hx
      have hne : w ≠ [] := fun e => by subst e; simp at hw
      obtain ⟨v, x, rfl⟩ : ∃ v x, w = v ++ [x] := ⟨w.dropLast, w.getLast hne, (List.dropLast_concat_getLast hne).symm⟩
      obtain ⟨r, hr, e1, e2⟩ := ih v (by simpa using hw) fun y hy => hx y (List.mem_append_left _ hy)
      obtain ⟨i, hi⟩ := List.mem_iff_getElem?.mp hr
      have hil := (List.getElem?_eq_some_iff.mp hi).1
      have hxm : x < m := hx x (by simp)
      -- r is gone on from by x
      have hQi : (Q go m s0 i)[i]? = some r := by
        rcases Nat.lt_or_ge i (Q go m s0 i).length with q | q
        · have e1 : (Q go m s0 i)[i]? = some (Q go m s0 i)[i] := List.getElem?_eq_getElem q
          have e2 := Q_get go m s0 (by omega : i ≤ j) e1
          rw [hi] at e2
          rw [e1, ← e2]
        · rw [Q_stop go m s0 q (by omega : i ≤ j)] at hil
          omega
      have e3 := Q_some go m s0 hQi
      -- behind the letter x
      have hp : procTo go r (x + 1) (Q go m s0 i) <+: Q go m s0 j := by
        have h1 : procTo go r (x + 1) (Q go m s0 i) <+: procTo go r m (Q go m s0 i) := procTo_mono go r _ hxm
        have h2 : procTo go r m (Q go m s0 i) <+: Q go m s0 j := by
          have : Q go m s0 (i + 1) = procTo go r m (Q go m s0 i) := e3
          rw [← this]
          exact Q_mono go m s0 (by omega)
        exact h1.trans h2
      rw [procTo_succ] at hp
      have h4 := procTo_rise go r _ (Q_rise go m s0 i).1 ((Q_rise go m s0 i).2 r hQi) x
      obtain ⟨q, hq, eq, hs⟩ : ∃ q ∈ add (procTo go r x (Q go m s0 i)) (go r.1 x, r.2 ++ [x]), q.1 = go r.1 x ∧ Se q.2 (r.2 ++ [x]) := by
        unfold add
        split
        · rename_i z
          obtain ⟨q, hq, e⟩ := List.any_eq_true.mp z
          exact ⟨q, hq, by simpa using e, .inr (h4.2 q hq x (Nat.le_refl _))⟩
        · exact ⟨(go r.1 x, r.2 ++ [x]), by simp, rfl, .inl rfl⟩
      refine ⟨q, hp.subset hq, ?_, hs.trans (e2.snoc x)⟩
      rw [eq, e1, run_snoc]
  exact fun h => key w.length w rfl h

/-- the first that is an end has the first word that leads to one -/
theorem Q_least {j : Nat} {p : S → Bool} (hc : (Q go m s0 j).length ≤ j) {r : It S} (h : (Q go m s0 j).find? (fun r => p r.1) = some r) :
    p (run go s0 r.2) = true ∧ (∀ x ∈ r.2, x < m) ∧ ∀ w, (∀ x ∈ w, x < m) → p (run go s0 w) = true → Se r.2 w := by
  have hr := List.mem_of_find?_eq_some h
  have hp : p r.1 = true := List.find?_some (p := fun r : It S => p r.1) h
  obtain ⟨e1, e2⟩ := Q_run go m s0 j r hr
  refine ⟨by rw [e1]; exact hp, e2, fun w hw hpw => ?_⟩
  obtain ⟨q, hq, f1, f2⟩ := Q_best go m s0 hc w hw
  have hq2 : p q.1 = true := by rw [f1]; exact hpw
  refine Se.trans ?_ f2
  obtain ⟨as, bs, e, hno⟩ := (List.find?_eq_some_iff_append.mp h).2
  rw [e] at hq
  rcases List.mem_append.mp hq with hq | hq
  · have := hno q hq
    simp [hq2] at this
  · rcases List.mem_cons.mp hq with hq | hq
    · subst hq; exact .inl rfl
    · obtain ⟨i, hi⟩ := List.mem_iff_getElem?.mp hq
      have g1 : (Q go m s0 j)[as.length]? = some r := by rw [e]; simp
      have g2 : (Q go m s0 j)[as.length + 1 + i]? = some q := by
        rw [e, List.getElem?_append_right (by omega)]
        have : as.length + 1 + i - as.length = i + 1 := by omega
        rw [this, List.getElem?_cons_succ]
        exact hi
      exact .inr (Q_sorted go m s0 j (by omega) g1 g2)
theorem Q_nowhere {j : Nat} {p : S → Bool} (hc : (Q go m s0 j).length ≤ j) (h : (Q go m s0 j).find? (fun r => p r.1) = none) (w : List Nat) (hw : ∀ x ∈ w, x < m) : p (run go s0 w) = false := by
  obtain ⟨q, hq, f1, _⟩ := Q_best go m s0 hc w hw
  have := List.find?_eq_none.mp h q hq
  rw [← f1]
  simpa using this

/-- a word is no longer than its place -/
theorem Q_index : ∀ (j i : Nat) (r : It S), (Q go m s0 j)[i]? = some r → r.2.length ≤ i := by
  intro j
  induction j with
  | zero =>
    intro i r h
    cases i with
    | zero =>
      simp only [Q, List.getElem?_cons_zero, Option.some.injEq] at h
      subst h; simp
    | succ i => simp [Q] at h
  | succ j ih =>
    intro i r h
    cases hj : (Q go m s0 j)[j]? with
    | none => rw [Q_none go m s0 (List.getElem?_eq_none_iff.mp hj)] at h; exact ih i r h
    | some p =>
      have hjl := (List.getElem?_eq_some_iff.mp hj).1
      rcases Nat.lt_or_ge i (Q go m s0 j).length with q | q
      · have e1 : (Q go m s0 j)[i]? = some (Q go m s0 j)[i] := List.getElem?_eq_getElem q
        have e2 := Q_get go m s0 (by omega : j ≤ j + 1) e1
        rw [h] at e2
        exact ih i r (by rw [e1, ← e2])
      · rw [Q_some go m s0 hj] at h
        have hmem := List.mem_of_getElem? h
        rcases procTo_mem go p _ hmem with hm | ⟨y, hy, e⟩
        · -- it stands ahead: its state would stand twice
          obtain ⟨i2, hi2⟩ := List.mem_iff_getElem?.mp hm
          have hl2 := (List.getElem?_eq_some_iff.mp hi2).1
          have n := procTo_nodup go p _ (Q_nodup go m s0 j) m
          have g1 : ((procTo go p m (Q go m s0 j)).map (·.1))[i]? = some r.1 := by
            rw [List.getElem?_map]
            have h' : (procTo go p m (Q go m s0 j))[i]? = some r := h
            rw [h']; rfl
          have g2 : ((procTo go p m (Q go m s0 j)).map (·.1))[i2]? = some r.1 := by
            obtain ⟨t, e⟩ := procTo_prefix go p (Q go m s0 j) m
            rw [List.getElem?_map, ← e, List.getElem?_append_left hl2, hi2]; rfl
          have := (List.getElem?_inj (List.getElem?_eq_some_iff.mp g1).1 n).mp (g1.trans g2.symm)
          omega
        · subst e
          have := ih j p hj
          simp only [List.length_append, List.length_cons, List.length_nil]
          omega
end
end Nw
end
section
namespace Nw
abbrev Ways := List (List (Nat × Nat))
def rowAt (W : Ways) (u : Nat) : List (Nat × Nat) := W.getD u []
def ledTo (W : Ways) (u x : Nat) : Nat := match x with
  | 0 => u
  | e + 1 => match (rowAt W u)[e]? with
    | some p => p.1
    | none => u
def cameIn (W : Ways) (u x : Nat) : Nat := match x with
  | 0 => 0
  | e + 1 => match (rowAt W u)[e]? with
    | some p => p.2 + 1
    | none => 0
def walkedW (W : Ways) : Nat → List Nat → List Nat
  | u, [] => [u]
  | u, x :: l => u :: walkedW W (ledTo W u x) l
def mostW (W : Ways) : Nat := (W.map List.length).foldl max 0
/-- each way leads to a place -/
def WOk (W : Ways) : Prop := ∀ (u : Nat) (row : List (Nat × Nat)) (p : Nat × Nat), W[u]? = some row → p ∈ row → p.1 < W.length
theorem rowAt_of {W : Ways} {u : Nat} {row : List (Nat × Nat)} (h : W[u]? = some row) : rowAt W u = row := by
  unfold rowAt
  rw [List.getD_eq_getElem?_getD, h]
  rfl
theorem ledTo_in {W : Ways} {u x e : Nat} {p : Nat × Nat} (hx : x = e + 1) (h : (rowAt W u)[e]? = some p) : ledTo W u x = p.1 := by
  subst hx
  show (match (rowAt W u)[e]? with | some p => p.1 | none => u) = p.1
  rw [h]
theorem ledTo_out {W : Ways} {u x : Nat} (h : ¬ (1 ≤ x ∧ x ≤ (rowAt W u).length)) : ledTo W u x = u := by
  cases x with
  | zero => rfl
  | succ e =>
    have hn : (rowAt W u)[e]? = none := List.getElem?_eq_none (by omega)
    show (match (rowAt W u)[e]? with | some p => p.1 | none => u) = u
    rw [hn]
theorem cameIn_in {W : Ways} {u x e : Nat} {p : Nat × Nat} (hx : x = e + 1) (h : (rowAt W u)[e]? = some p) : cameIn W u x = p.2 + 1 := by
  subst hx
  show (match (rowAt W u)[e]? with | some p => p.2 + 1 | none => 0) = p.2 + 1
  rw [h]
theorem cameIn_out {W : Ways} {u x : Nat} (h : ¬ (1 ≤ x ∧ x ≤ (rowAt W u).length)) : cameIn W u x = 0 := by
  cases x with
  | zero => rfl
  | succ e =>
    have hn : (rowAt W u)[e]? = none := List.getElem?_eq_none (by omega)
    show (match (rowAt W u)[e]? with | some p => p.2 + 1 | none => 0) = 0
    rw [hn]
theorem ledTo_lt {W : Ways} (ok : WOk W) {u x : Nat} (hu : u < W.length) : ledTo W u x < W.length := by
  cases x with
  | zero => exact hu
  | succ e =>
    cases h : (rowAt W u)[e]? with
    | none => rw [ledTo_out (by have := List.getElem?_eq_none_iff.mp h; omega)]; exact hu
    | some p =>
      rw [ledTo_in rfl h]
      have hr : W[u]? = some (rowAt W u) := by
        rw [rowAt, List.getD_eq_getElem?_getD, List.getElem?_eq_getElem hu]
        rfl
      exact ok u _ p hr (List.mem_of_getElem? h)
theorem row_some {W : Ways} {u : Nat} (hu : u < W.length) : W[u]? = some (rowAt W u) := by
  rw [rowAt, List.getD_eq_getElem?_getD, List.getElem?_eq_getElem hu]
  rfl
theorem walkedW_len (W : Ways) : ∀ (l : List Nat) (u : Nat), (walkedW W u l).length = l.length + 1
  | [], _ => rfl
  | x :: l, u => by
    show (walkedW W (ledTo W u x) l).length + 1 = l.length + 1 + 1
    rw [walkedW_len W l]
theorem walkedW_lt {W : Ways} (ok : WOk W) : ∀ (l : List Nat) (u : Nat), u < W.length → ∀ p ∈ walkedW W u l, p < W.length
  | [], u, hu, p, hp => by
    have e : p = u := by simpa [walkedW] using hp
    subst e
    exact hu
  | x :: l, u, hu, p, hp => by
    rcases List.mem_cons.mp hp with e | hp
    · subst e
      exact hu
    · exact walkedW_lt ok l _ (ledTo_lt ok hu) p hp
/-- the places by the first i letters, and one more -/
theorem walkedW_snoc (W : Ways) : ∀ (l : List Nat) (u x : Nat), ∃ q, (walkedW W u l).getLast? = some q ∧ walkedW W u (l ++ [x]) = walkedW W u l ++ [ledTo W q x]
  | [], u, x => ⟨u, rfl, rfl⟩
  | y :: l, u, x => by
    obtain ⟨q, h1, h2⟩ := walkedW_snoc W l (ledTo W u y) x
    refine ⟨q, ?_, ?_⟩
    · show (u :: walkedW W (ledTo W u y) l).getLast? = some q
      rw [List.getLast?_cons, h1]
      rfl
    · show u :: walkedW W (ledTo W u y) (l ++ [x]) = u :: walkedW W (ledTo W u y) l ++ [ledTo W q x]
      rw [h2]
      rfl
theorem take_more {α : Type} {l : List α} {i : Nat} {x : α} (h : l[i]? = some x) : l.take (i + 1) = l.take i ++ [x] := by
  rw [List.take_add_one, h]
  rfl
def addLink (W : Ways) (p : Nat × Nat) : Ways := (W.set p.1 (rowAt W p.1 ++ [(p.2, (rowAt W p.2).length)])).set p.2 (rowAt W p.2 ++ [(p.1, (rowAt W p.1).length)])
def waysOf (n : Nat) (l : List (Nat × Nat)) : Ways := l.foldl addLink (List.replicate n [])
theorem addLink_len (W : Ways) (p : Nat × Nat) : (addLink W p).length = W.length := by simp [addLink]
theorem foldl_len : ∀ (l : List (Nat × Nat)) (W : Ways), (l.foldl addLink W).length = W.length
  | [], _ => rfl
  | p :: l, W => by rw [List.foldl_cons, foldl_len l, addLink_len]
theorem waysOf_len (n : Nat) (l : List (Nat × Nat)) : (waysOf n l).length = n := by rw [waysOf, foldl_len, List.length_replicate]
theorem waysOf_more {n : Nat} {l : List (Nat × Nat)} {i : Nat} {p : Nat × Nat} (h : l[i]? = some p) : waysOf n (l.take (i + 1)) = addLink (waysOf n (l.take i)) p := by
  rw [waysOf, take_more h, List.foldl_append]
  rfl
theorem rowAt_set {W : Ways} {i j : Nat} {r : List (Nat × Nat)} (hi : i < W.length) : rowAt (W.set i r) j = if j = i then r else rowAt W j := by
  unfold rowAt
  rw [List.getD_eq_getElem?_getD, List.getD_eq_getElem?_getD]
  by_cases e : j = i
  · subst e
    rw [if_pos rfl, List.getElem?_set_self hi]
    rfl
  · rw [if_neg e, List.getElem?_set_ne (fun z => e z.symm)]
theorem rowAt_addLink {W : Ways} {p : Nat × Nat} (h1 : p.1 < W.length) (h2 : p.2 < W.length) (j : Nat) : rowAt (addLink W p) j = if j = p.2 then rowAt W p.2 ++ [(p.1, (rowAt W p.1).length)] else if j = p.1 then rowAt W p.1 ++ [(p.2, (rowAt W p.2).length)] else rowAt W j := by
  unfold addLink
  rw [rowAt_set (by simpa using h2), rowAt_set h1]
/-- rows together have no more than two pairs a link -/
theorem row_le : ∀ (l : List (Nat × Nat)) (W : Ways), (∀ p ∈ l, p.1 < W.length ∧ p.2 < W.length) → ∀ j, (rowAt (l.foldl addLink W) j).length ≤ (rowAt W j).length + l.length
  | [], W, _, j => Nat.le_refl _
  | p :: l, W, h, j => by
    have h0 := h p List.mem_cons_self
    have ih := row_le l (addLink W p) (fun q hq => by rw [addLink_len]; exact h q (List.mem_cons_of_mem _ hq)) j
    rw [List.foldl_cons]
    have e : (rowAt (addLink W p) j).length ≤ (rowAt W j).length + 1 := by
      rw [rowAt_addLink h0.1 h0.2]
      split
      · rename_i e
        subst e
        simp
      · split
        · rename_i e
          subst e
          simp
        · omega
    rw [List.length_cons]
    omega
theorem rowAt_rep (n j : Nat) : rowAt (List.replicate n []) j = [] := by
  unfold rowAt
  rw [List.getD_eq_getElem?_getD, List.getElem?_replicate]
  split <;> rfl
abbrev DSt := List (Option Nat) × List Nat
def dvisit (among : List Nat) (here : Nat) (st : DSt) (q : Nat × Nat) : DSt := if st.1.getD q.1 none = none ∧ q.1 ∈ among then (st.1.set q.1 ((st.1.getD here none).map (· + 1)), st.2 ++ [q.1]) else st
def DQ (W : Ways) (among : List Nat) (start : Nat) : Nat → DSt
  | 0 => ((List.replicate W.length none).set start (some 0), [start])
  | j + 1 => match (DQ W among start j).2[j]? with
    | some here => (rowAt W here).foldl (dvisit among here) (DQ W among start j)
    | none => DQ W among start j
def farW (W : Ways) (among : List Nat) (start : Nat) : List (Option Nat) := (DQ W among start W.length).1
structure DInv (n : Nat) (st : DSt) : Prop where
  flen : st.1.length = n
  nd : st.2.Nodup
  lt : ∀ x ∈ st.2, x < n
  mem : ∀ x, x < n → ((st.1.getD x none).isSome = true ↔ x ∈ st.2)
theorem dvisit_inv {n here : Nat} {among : List Nat} {st : DSt} {q : Nat × Nat} (I : DInv n st) (hq : q.1 < n) (hh : here ∈ st.2) : DInv n (dvisit among here st q) := by
  unfold dvisit
  split
  · rename_i c
    have hs : (st.1.getD here none).isSome = true := (I.mem here (I.lt here hh)).mpr hh
    have hnot : q.1 ∉ st.2 := fun hm => by
      have := (I.mem q.1 hq).mpr hm
      rw [c.1] at this
      cases this
    refine ⟨by simp [I.flen], ?_, ?_, fun x hx => ?_⟩
    · rw [List.nodup_append]
      exact ⟨I.nd, by simp, fun a ha b hb e => hnot (by simp at hb; rw [← hb, ← e]; exact ha)⟩
    · intro x hx
      rcases List.mem_append.mp hx with hx | hx
      · exact I.lt x hx
      · simp at hx
        subst hx
        exact hq
    · rw [List.getD_eq_getElem?_getD]
      by_cases e : x = q.1
      · subst e
        rw [List.getElem?_set_self (by rw [I.flen]; exact hq)]
        simp only [Option.getD_some, Option.isSome_map, hs, List.mem_append, List.mem_singleton, or_true]
      · rw [List.getElem?_set_ne (fun z => e z.symm), ← List.getD_eq_getElem?_getD, I.mem x hx]
        simp [e]
  · exact I
theorem dvisit_has {among : List Nat} {here : Nat} {st : DSt} {q : Nat × Nat} {x : Nat} (h : x ∈ st.2) : x ∈ (dvisit among here st q).2 := by
  unfold dvisit
  split
  · exact List.mem_append_left _ h
  · exact h
theorem dfold_inv {n here : Nat} {among : List Nat} : ∀ (row : List (Nat × Nat)) {st : DSt}, DInv n st → (∀ q ∈ row, q.1 < n) → here ∈ st.2 → DInv n (row.foldl (dvisit among here) st)
  | [], _, I, _, _ => I
  | q :: row, st, I, hr, hh => dfold_inv row (dvisit_inv I (hr q List.mem_cons_self) hh) (fun p hp => hr p (List.mem_cons_of_mem _ hp)) (dvisit_has hh)
theorem DQ_some {W : Ways} {among : List Nat} {start j here : Nat} (h : (DQ W among start j).2[j]? = some here) : DQ W among start (j + 1) = (rowAt W here).foldl (dvisit among here) (DQ W among start j) := by
  show (match (DQ W among start j).2[j]? with | some here => (rowAt W here).foldl (dvisit among here) (DQ W among start j) | none => DQ W among start j) = _
  rw [h]
theorem DQ_none {W : Ways} {among : List Nat} {start j : Nat} (h : (DQ W among start j).2.length ≤ j) : DQ W among start (j + 1) = DQ W among start j := by
  show (match (DQ W among start j).2[j]? with | some here => (rowAt W here).foldl (dvisit among here) (DQ W among start j) | none => DQ W among start j) = _
  rw [List.getElem?_eq_none h]
theorem row_lt {W : Ways} (ok : WOk W) {u : Nat} (hu : u < W.length) : ∀ q ∈ rowAt W u, q.1 < W.length := fun q hq => ok u _ q (row_some hu) hq
theorem DQ_inv {W : Ways} (ok : WOk W) {among : List Nat} {start : Nat} (hs : start < W.length) : ∀ j, DInv W.length (DQ W among start j)
  | 0 => by
    refine ⟨by simp [DQ], by simp [DQ], fun x hx => ?_, fun x hx => ?_⟩
    · have : x = start := by simpa [DQ] using hx
      subst this
      exact hs
    · show (((List.replicate W.length none).set start (some 0)).getD x none).isSome = true ↔ x ∈ [start]
      rw [List.getD_eq_getElem?_getD]
      by_cases e : x = start
      · subst e
        rw [List.getElem?_set_self (by simpa using hs)]
        simp
      · rw [List.getElem?_set_ne (fun z => e z.symm), List.getElem?_replicate]
        simp [e, hx]
  | j + 1 => by
    have I := DQ_inv ok (among := among) hs j
    cases h : (DQ W among start j).2[j]? with
    | none => rw [DQ_none (List.getElem?_eq_none_iff.mp h)]; exact I
    | some here =>
      rw [DQ_some h]
      have hm := List.mem_of_getElem? h
      exact dfold_inv _ I (row_lt ok (I.lt here hm)) hm
theorem DQ_le {W : Ways} (ok : WOk W) {among : List Nat} {start : Nat} (hs : start < W.length) (j : Nat) : (DQ W among start j).2.length ≤ W.length := by
  have I := DQ_inv ok (among := among) hs j
  have := nodup_le (DQ W among start j).2 (List.range W.length) I.nd fun x hx => List.mem_range.mpr (I.lt x hx)
  simpa using this
theorem DQ_stop {W : Ways} {among : List Nat} {start j : Nat} (h : (DQ W among start j).2.length ≤ j) : ∀ {k : Nat}, j ≤ k → DQ W among start k = DQ W among start j
  | 0, hk => by
    have : j = 0 := by omega
    subst this
    rfl
  | k + 1, hk => by
    rcases Nat.lt_or_ge j (k + 1) with q | q
    · have e := DQ_stop h (k := k) (by omega)
      rw [DQ_none (by rw [e]; omega), e]
    · have : j = k + 1 := by omega
      subst this
      rfl
end Nw
end
section
namespace Nw
section
variable {α : Type} [DecidableEq α]
/-- of each item the first place of a like one -/
def leastL (l : List α) : List Nat := l.map fun x => l.findIdx fun y => decide (y = x)
theorem leastL_len (l : List α) : (leastL l).length = l.length := List.length_map ..
theorem leastL_get {l : List α} {i : Nat} {x : α} (h : l[i]? = some x) : (leastL l)[i]? = some (l.findIdx fun y => decide (y = x)) := by
  rw [leastL, List.getElem?_map, h]
  rfl
theorem first_is {l : List α} {i : Nat} {x : α} (h : l[i]? = some x) : ∃ j, (l.findIdx fun y => decide (y = x)) = j ∧ j ≤ i ∧ l[j]? = some x ∧ ∀ m y, m < j → l[m]? = some y → y ≠ x := by
  have hi := (List.getElem?_eq_some_iff.mp h).1
  have hx : l[i] = x := (List.getElem?_eq_some_iff.mp h).2
  have hlt : (l.findIdx fun y => decide (y = x)) < l.length := List.findIdx_lt_length_of_exists ⟨x, List.mem_of_getElem? h, by simp⟩
  refine ⟨_, rfl, ?_, ?_, ?_⟩
  · rcases Nat.lt_or_ge i (l.findIdx fun y => decide (y = x)) with q | q
    · have := List.not_of_lt_findIdx q
      simp [hx] at this
    · exact q
  · rw [List.getElem?_eq_getElem hlt]
    have := List.findIdx_getElem (w := hlt)
    simp at this
    rw [this]
  · intro m y hm hy e
    have := List.not_of_lt_findIdx hm
    obtain ⟨h1, h2⟩ := List.getElem?_eq_some_iff.mp hy
    rw [h2] at this
    simp [e] at this
/-- the least place tells the item -/
theorem leastL_iff {l : List α} {i j : Nat} {x y : α} (hi : l[i]? = some x) (hj : l[j]? = some y) : (leastL l)[i]? = (leastL l)[j]? ↔ x = y := by
  rw [leastL_get hi, leastL_get hj]
  constructor
  · intro e
    obtain ⟨p, e1, _, h1, _⟩ := first_is hi
    obtain ⟨q, e2, _, h2, _⟩ := first_is hj
    have e3 := Option.some.inj e
    rw [e1, e2] at e3
    subst e3
    rw [h1] at h2
    exact Option.some.inj h2
  · intro e
    rw [e]
theorem leastL_le {l : List α} {i v : Nat} (h : (leastL l)[i]? = some v) : v ≤ i := by
  have hi : i < l.length := by
    have := (List.getElem?_eq_some_iff.mp h).1
    rw [leastL_len] at this
    exact this
  have hx : l[i]? = some l[i] := List.getElem?_eq_getElem hi
  rw [leastL_get hx] at h
  obtain ⟨j, e, hle, _⟩ := first_is hx
  rw [e] at h
  rw [← Option.some.inj h]
  exact hle
/-- finer items have later first places -/
theorem leastL_mono {β : Type} [DecidableEq β] {l : List α} {m : List β} (hl : l.length = m.length) (fine : ∀ (i j : Nat) (x y : α) (a b : β), l[i]? = some x → l[j]? = some y → m[i]? = some a → m[j]? = some b → a = b → x = y) {i v w : Nat} (h1 : (leastL l)[i]? = some v) (h2 : (leastL m)[i]? = some w) : v ≤ w := by
  have hi : i < l.length := by
    have := (List.getElem?_eq_some_iff.mp h1).1
    rw [leastL_len] at this
    exact this
  have hx : l[i]? = some l[i] := List.getElem?_eq_getElem hi
  have ha : m[i]? = some (m[i]'(by omega)) := List.getElem?_eq_getElem _
  rw [leastL_get hx] at h1
  rw [leastL_get ha] at h2
  obtain ⟨p, e1, _, _, q1⟩ := first_is hx
  obtain ⟨q, e2, _, g2, _⟩ := first_is ha
  rw [e1] at h1
  rw [e2] at h2
  cases h1
  cases h2
  rcases Nat.lt_or_ge w v with c | c
  · have hq : w < l.length := by
      have := (List.getElem?_eq_some_iff.mp g2).1
      omega
    have hlq : l[w]? = some l[w] := List.getElem?_eq_getElem hq
    exact absurd (fine w i _ _ _ _ hlq hx g2 ha rfl) (q1 w _ c hlq)
  · exact c
end
/-- what one step tells of a place -/
def markW (c : List Nat) (row : List (Nat × Nat)) : List (Nat × Nat) := row.map fun q => (q.2, c.getD q.1 0)
def marks (W : Ways) : Nat → List (List (Nat × Nat))
  | 0 => W.map fun r => r.map fun _ => (0, 0)
  | k + 1 => W.map (markW (leastL (marks W k)))
def cls (W : Ways) (k : Nat) : List Nat := leastL (marks W k)
theorem marks_len (W : Ways) : ∀ k, (marks W k).length = W.length
  | 0 => List.length_map ..
  | k + 1 => List.length_map ..
theorem cls_len (W : Ways) (k : Nat) : (cls W k).length = W.length := by rw [cls, leastL_len, marks_len]
theorem marks_succ (W : Ways) (k : Nat) : marks W (k + 1) = W.map (markW (cls W k)) := rfl
theorem leastL_congr {α β : Type} [DecidableEq α] [DecidableEq β] {l : List α} {m : List β} (hl : l.length = m.length) (h : ∀ (i j : Nat) (x y : α) (a b : β), l[i]? = some x → l[j]? = some y → m[i]? = some a → m[j]? = some b → (x = y ↔ a = b)) : leastL l = leastL m := by
  apply List.ext_getElem?
  intro i
  rcases Nat.lt_or_ge i l.length with hi | hi
  · have h1 : (leastL l)[i]? = some ((leastL l)[i]'(by rw [leastL_len]; exact hi)) := List.getElem?_eq_getElem _
    have h2 : (leastL m)[i]? = some ((leastL m)[i]'(by rw [leastL_len]; omega)) := List.getElem?_eq_getElem _
    have a := leastL_mono hl (fun i j x y a b p q r s e => (h i j x y a b p q r s).mpr e) h1 h2
    have b := leastL_mono hl.symm (fun i j x y a b p q r s e => (h i j a b x y r s p q).mp e) h2 h1
    rw [h1, h2, Nat.le_antisymm a b]
  · rw [List.getElem?_eq_none (by rw [leastL_len]; exact hi), List.getElem?_eq_none (by rw [leastL_len]; omega)]
theorem cls_zero (W : Ways) : cls W 0 = leastL (W.map List.length) := by
  refine leastL_congr (by rw [marks_len, List.length_map]) fun i j x y a b hx hy ha hb => ?_
  have hx' : (W.map fun r => r.map fun _ => ((0, 0) : Nat × Nat))[i]? = some x := hx
  have hy' : (W.map fun r => r.map fun _ => ((0, 0) : Nat × Nat))[j]? = some y := hy
  rw [List.getElem?_map] at hx' hy' ha hb
  obtain ⟨r, hr, rfl⟩ := Option.map_eq_some_iff.mp ha
  obtain ⟨q, hq, rfl⟩ := Option.map_eq_some_iff.mp hb
  rw [hr] at hx'
  rw [hq] at hy'
  have ex : (r.map fun _ => ((0, 0) : Nat × Nat)) = x := Option.some.inj hx'
  have ey : (q.map fun _ => ((0, 0) : Nat × Nat)) = y := Option.some.inj hy'
  rw [← ex, ← ey, List.map_const', List.map_const']
  constructor
  · intro e
    have := congrArg List.length e
    simpa using this
  · intro e
    rw [e]
theorem getD_of {c : List Nat} {i v : Nat} (h : c[i]? = some v) : c.getD i 0 = v := by
  rw [List.getD_eq_getElem?_getD, h]
  rfl
theorem cls_eq_iff {W : Ways} {k i j : Nat} (hi : i < W.length) (hj : j < W.length) : (cls W k).getD i 0 = (cls W k).getD j 0 ↔ (marks W k)[i]? = (marks W k)[j]? := by
  have li : i < (marks W k).length := by rw [marks_len]; exact hi
  have lj : j < (marks W k).length := by rw [marks_len]; exact hj
  have a : (marks W k)[i]? = some (marks W k)[i] := List.getElem?_eq_getElem li
  have b : (marks W k)[j]? = some (marks W k)[j] := List.getElem?_eq_getElem lj
  have key := leastL_iff a b
  have ci : i < (cls W k).length := by rw [cls_len]; exact hi
  have cj : j < (cls W k).length := by rw [cls_len]; exact hj
  have ei : (cls W k)[i]? = some ((cls W k).getD i 0) := by rw [List.getD_eq_getElem?_getD, List.getElem?_eq_getElem ci]; rfl
  have ej : (cls W k)[j]? = some ((cls W k).getD j 0) := by rw [List.getD_eq_getElem?_getD, List.getElem?_eq_getElem cj]; rfl
  have e2 : (leastL (marks W k))[i]? = (leastL (marks W k))[j]? ↔ (cls W k).getD i 0 = (cls W k).getD j 0 := by
    show (cls W k)[i]? = (cls W k)[j]? ↔ _
    rw [ei, ej]
    exact ⟨fun z => Option.some.inj z, fun z => by rw [z]⟩
  rw [← e2, key, a, b]
  exact ⟨fun z => by rw [z], fun z => Option.some.inj z⟩
theorem marks_fine {W : Ways} (ok : WOk W) : ∀ (k i j : Nat) (x y a b : List (Nat × Nat)), (marks W k)[i]? = some x → (marks W k)[j]? = some y → (marks W (k + 1))[i]? = some a → (marks W (k + 1))[j]? = some b → a = b → x = y
  | 0, i, j, x, y, a, b, hx, hy, ha, hb, e => by
    rw [marks_succ, List.getElem?_map] at ha hb
    have hx' : (W.map fun r => r.map fun _ => ((0, 0) : Nat × Nat))[i]? = some x := hx
    have hy' : (W.map fun r => r.map fun _ => ((0, 0) : Nat × Nat))[j]? = some y := hy
    rw [List.getElem?_map] at hx' hy'
    obtain ⟨r, hr, rfl⟩ := Option.map_eq_some_iff.mp ha
    obtain ⟨q, hq, rfl⟩ := Option.map_eq_some_iff.mp hb
    rw [hr] at hx'
    rw [hq] at hy'
    have ex := Option.some.inj hx'
    have ey := Option.some.inj hy'
    rw [← ex, ← ey]
    have hl : r.length = q.length := by
      have := congrArg List.length e
      simpa [markW] using this
    show (r.map fun _ => ((0, 0) : Nat × Nat)) = q.map fun _ => ((0, 0) : Nat × Nat)
    rw [List.map_const', List.map_const', hl]
  | k + 1, i, j, x, y, a, b, hx, hy, ha, hb, e => by
    rw [marks_succ, List.getElem?_map] at ha hb hx hy
    obtain ⟨r, hr, rfl⟩ := Option.map_eq_some_iff.mp ha
    obtain ⟨q, hq, rfl⟩ := Option.map_eq_some_iff.mp hb
    rw [hr] at hx
    rw [hq] at hy
    have ex := Option.some.inj hx
    have ey := Option.some.inj hy
    rw [← ex, ← ey]
    -- the same entries, like places
    have hl : r.length = q.length := by
      have := congrArg List.length e
      simpa [markW] using this
    unfold markW at e ⊢
    apply List.ext_getElem?
    intro n
    rw [List.getElem?_map, List.getElem?_map]
    have en : (r.map fun p => (p.2, (cls W (k + 1)).getD p.1 0))[n]? = (q.map fun p => (p.2, (cls W (k + 1)).getD p.1 0))[n]? := by rw [e]
    rw [List.getElem?_map, List.getElem?_map] at en
    cases hrn : r[n]? with
    | none =>
      have : q[n]? = none := List.getElem?_eq_none (by have := List.getElem?_eq_none_iff.mp hrn; omega)
      rw [this]
    | some p =>
      cases hqn : q[n]? with
      | none =>
        have h1 := List.getElem?_eq_none_iff.mp hqn
        have h2 := (List.getElem?_eq_some_iff.mp hrn).1
        omega
      | some s =>
        rw [hrn, hqn] at en
        simp only [Option.map_some, Option.some.injEq, Prod.mk.injEq] at en ⊢
        refine ⟨en.1, ?_⟩
        have hp := ok i r p hr (List.mem_of_getElem? hrn)
        have hs := ok j q s hq (List.mem_of_getElem? hqn)
        have e1 := (cls_eq_iff hp hs).mp en.2
        refine (cls_eq_iff hp hs).mpr ?_
        have l1 : p.1 < (marks W (k + 1)).length := by rw [marks_len]; exact hp
        have l2 : s.1 < (marks W (k + 1)).length := by rw [marks_len]; exact hs
        have l3 : p.1 < (marks W k).length := by rw [marks_len]; exact hp
        have l4 : s.1 < (marks W k).length := by rw [marks_len]; exact hs
        rw [List.getElem?_eq_getElem l1, List.getElem?_eq_getElem l2] at e1
        have := marks_fine ok k p.1 s.1 _ _ _ _ (List.getElem?_eq_getElem l3) (List.getElem?_eq_getElem l4) (List.getElem?_eq_getElem l1) (List.getElem?_eq_getElem l2) (Option.some.inj e1)
        rw [List.getElem?_eq_getElem l3, List.getElem?_eq_getElem l4, this]
/-- the sum of the classes rises till they stay -/
theorem cls_mono {W : Ways} (ok : WOk W) (k : Nat) {i v w : Nat} (h1 : (cls W k)[i]? = some v) (h2 : (cls W (k + 1))[i]? = some w) : v ≤ w :=
  leastL_mono (by rw [marks_len, marks_len]) (marks_fine ok k) h1 h2
theorem sum_lt : ∀ {l m : List Nat}, l.length = m.length → (∀ (i v w : Nat), l[i]? = some v → m[i]? = some w → v ≤ w) → l.sum ≤ m.sum ∧ (l ≠ m → l.sum < m.sum)
  | [], [], _, _ => ⟨Nat.le_refl _, fun h => absurd rfl h⟩
  | [], _ :: _, h, _ => by cases h
  | _ :: _, [], h, _ => by cases h
  | a :: l, b :: m, hl, h => by
    have h0 := h 0 a b rfl rfl
    obtain ⟨h1, h2⟩ := sum_lt (l := l) (m := m) (by simpa using hl) fun i v w hv hw => h (i + 1) v w hv hw
    refine ⟨by simp; omega, fun hne => ?_⟩
    by_cases e : a = b
    · subst e
      have : l ≠ m := fun z => hne (by rw [z])
      have := h2 this
      simp
      omega
    · simp
      omega
theorem sum_le : ∀ {l : List Nat} {c : Nat}, (∀ x ∈ l, x ≤ c) → l.sum ≤ l.length * c
  | [], _, _ => by simp
  | a :: l, c, h => by
    have h0 := h a List.mem_cons_self
    have ih := sum_le (l := l) fun x hx => h x (List.mem_cons_of_mem _ hx)
    rw [List.sum_cons, List.length_cons, Nat.add_mul]
    omega
theorem cls_sum {W : Ways} (ok : WOk W) : ∀ k, (∀ i, i < k → cls W (i + 1) ≠ cls W i) → k ≤ (cls W k).sum
  | 0, _ => Nat.zero_le _
  | k + 1, h => by
    have ih := cls_sum ok k fun i hi => h i (by omega)
    have := (sum_lt (l := cls W k) (m := cls W (k + 1)) (by rw [cls_len, cls_len]) fun i v w h1 h2 => cls_mono ok k h1 h2).2 (Ne.symm (h k (by omega)))
    omega
theorem cls_turns {W : Ways} (ok : WOk W) {k : Nat} (h : ∀ i, i < k → cls W (i + 1) ≠ cls W i) : k ≤ W.length * W.length := by
  have h1 := cls_sum ok k h
  have h2 := sum_le (l := cls W k) (c := W.length) fun x hx => by
    obtain ⟨i, hi⟩ := List.mem_iff_getElem?.mp hx
    have a := leastL_le hi
    have b := (List.getElem?_eq_some_iff.mp hi).1
    rw [cls_len] at b
    omega
  rw [cls_len] at h2
  omega
end Nw
end
section
namespace Nw
theorem mostW_le (W : Ways) (u : Nat) : (rowAt W u).length ≤ mostW W := by
  have key : ∀ (l : List Nat) (a : Nat), a ≤ l.foldl max a ∧ ∀ x ∈ l, x ≤ l.foldl max a := by
    intro l
    induction l with
    | nil => exact fun a => ⟨Nat.le_refl _, (fun x hx => nomatch hx)⟩
    | cons y l ih =>
      intro a
      obtain ⟨k1, k2⟩ := ih (max a y)
      refine ⟨Nat.le_trans (Nat.le_max_left a y) k1, fun x hx => ?_⟩
      rcases List.mem_cons.mp hx with e | hx
      · subst e
        exact Nat.le_trans (Nat.le_max_right a x) k1
      · exact k2 x hx
  unfold rowAt
  rw [List.getD_eq_getElem?_getD]
  cases h : W[u]? with
  | none => exact Nat.zero_le _
  | some row => exact (key (W.map List.length) 0).2 _ (List.mem_map.mpr ⟨row, List.mem_of_getElem? h, rfl⟩)
/-- a step that stays within S -/
def goS (W : Ways) (S : List Nat) (u x : Nat) : Nat := if ledTo W u x ∈ S then ledTo W u x else u
structure SimD (n : Nat) (st : DSt) (l : List (It Nat)) : Prop where
  inv : DInv n st
  line : l.map (·.1) = st.2
  far : ∀ r ∈ l, st.1.getD r.1 none = some r.2.length
theorem SimD.mem {n : Nat} {st : DSt} {l : List (It Nat)} (h : SimD n st l) {x : Nat} : x ∈ st.2 ↔ ∃ r ∈ l, r.1 = x := by
  rw [← h.line, List.mem_map]
theorem sim_row {n : Nat} {W : Ways} {S : List Nat} {here : Nat} {wd : List Nat} {st : DSt} {l : List (It Nat)} (h : SimD n st l) (hh : (here, wd) ∈ l) (hr : ∀ q ∈ rowAt W here, q.1 < n) :
    ∀ x, x ≤ (rowAt W here).length → SimD n (((rowAt W here).take x).foldl (dvisit S here) st) (procTo (goS W S) (here, wd) (x + 1) l) ∧ (here, wd) ∈ procTo (goS W S) (here, wd) (x + 1) l
  | 0, _ => by
    have e : procTo (goS W S) (here, wd) 1 l = l := by
      rw [procTo_succ, procTo_zero]
      refine add_old ⟨(here, wd), hh, ?_⟩
      show here = goS W S here 0
      unfold goS
      have : ledTo W here 0 = here := ledTo_out (by omega)
      rw [this]
      split <;> rfl
    rw [List.take_zero, e]
    exact ⟨h, hh⟩
  | x + 1, hx => by
    obtain ⟨h1, hh1⟩ := sim_row (S := S) h hh hr x (by omega)
    have hq : (rowAt W here)[x]? = some (rowAt W here)[x] := List.getElem?_eq_getElem (by omega)
    generalize (rowAt W here)[x] = q at hq
    rw [take_more hq, List.foldl_append, procTo_succ]
    have hql : q.1 < n := hr q (List.mem_of_getElem? hq)
    refine ⟨?_, (add_prefix _ _).subset hh1⟩
    generalize hst : ((rowAt W here).take x).foldl (dvisit S here) st = st1 at h1
    generalize hl1 : procTo (goS W S) (here, wd) (x + 1) l = l1 at h1 hh1
    show SimD n (dvisit S here st1 q) (add l1 (goS W S here (x + 1), wd ++ [x + 1]))
    have el : ledTo W here (x + 1) = q.1 := ledTo_in rfl hq
    unfold goS
    rw [el]
    by_cases c : q.1 ∈ S
    · rw [if_pos c]
      by_cases c2 : ∃ r ∈ l1, r.1 = q.1
      · rw [add_old c2]
        have hm : q.1 ∈ st1.2 := h1.mem.mpr c2
        have : (st1.1.getD q.1 none).isSome = true := (h1.inv.mem q.1 hql).mpr hm
        unfold dvisit
        rw [if_neg fun z => by rw [z.1] at this; cases this]
        exact h1
      · have c3 : ∀ r ∈ l1, r.1 ≠ q.1 := fun r hr e => c2 ⟨r, hr, e⟩
        rw [add_new c3]
        have hm : q.1 ∉ st1.2 := fun z => c2 (h1.mem.mp z)
        have hn : st1.1.getD q.1 none = none := by
          cases e : st1.1.getD q.1 none with
          | none => rfl
          | some d =>
            exact absurd ((h1.inv.mem q.1 hql).mp (by rw [e]; rfl)) hm
        have I2 := dvisit_inv (among := S) (here := here) (q := q) h1.inv hql (h1.mem.mpr ⟨_, hh1, rfl⟩)
        have e2 : dvisit S here st1 q = (st1.1.set q.1 ((st1.1.getD here none).map (· + 1)), st1.2 ++ [q.1]) := by
          unfold dvisit
          rw [if_pos ⟨hn, c⟩]
        rw [e2] at I2 ⊢
        refine ⟨I2, ?_, fun r hr => ?_⟩
        · rw [List.map_append, h1.line]
          rfl
        · show (st1.1.set q.1 ((st1.1.getD here none).map (· + 1))).getD r.1 none = _
          rw [List.getD_eq_getElem?_getD]
          rcases List.mem_append.mp hr with hr | hr
          · rw [List.getElem?_set_ne (fun z => c3 r hr z.symm), ← List.getD_eq_getElem?_getD]
            exact h1.far r hr
          · simp only [List.mem_singleton] at hr
            subst hr
            rw [List.getElem?_set_self (by rw [h1.inv.flen]; exact hql), h1.far _ hh1]
            simp
    · rw [if_neg c, add_old (q := (here, wd ++ [x + 1])) ⟨_, hh1, rfl⟩]
      unfold dvisit
      rw [if_neg fun z => c z.2]
      exact h1
theorem proc_row {W : Ways} {S : List Nat} {here : Nat} {wd : List Nat} {l : List (It Nat)} (hh : (here, wd) ∈ l) : ∀ y, (rowAt W here).length ≤ y → procTo (goS W S) (here, wd) (y + 1) l = procTo (goS W S) (here, wd) ((rowAt W here).length + 1) l
  | 0, hy => by
    have : (rowAt W here).length = 0 := by omega
    rw [this]
  | y + 1, hy => by
    rcases Nat.lt_or_ge y (rowAt W here).length with c | c
    · have : (rowAt W here).length = y + 1 := by omega
      rw [this]
    · rw [procTo_succ, proc_row hh y c]
      refine add_old ⟨(here, wd), (procTo_prefix _ _ _ _).subset hh, ?_⟩
      show here = goS W S here (y + 1)
      unfold goS
      rw [ledTo_out (by omega)]
      split <;> rfl
theorem DQ_Q {W : Ways} (ok : WOk W) {S : List Nat} {s m : Nat} (hs : s < W.length) (hm : mostW W ≤ m) : ∀ j, SimD W.length (DQ W S s j) (Q (goS W S) (m + 1) s j)
  | 0 => by
    refine ⟨DQ_inv ok hs 0, rfl, fun r hr => ?_⟩
    have : r = (s, []) := by simpa [Q] using hr
    subst this
    show ((List.replicate W.length none).set s (some 0)).getD s none = some 0
    rw [List.getD_eq_getElem?_getD, List.getElem?_set_self (by simpa using hs)]
    rfl
  | j + 1 => by
    have h := DQ_Q ok (S := S) hs hm j
    have hlen : (DQ W S s j).2.length = (Q (goS W S) (m + 1) s j).length := by rw [← h.line, List.length_map]
    cases e : (Q (goS W S) (m + 1) s j)[j]? with
    | none =>
      have e2 := List.getElem?_eq_none_iff.mp e
      rw [Q_none _ _ _ e2, DQ_none (by rw [hlen]; exact e2)]
      exact h
    | some p =>
      obtain ⟨here, wd⟩ := p
      have e3 : (DQ W S s j).2[j]? = some here := by
        rw [← h.line, List.getElem?_map, e]
        rfl
      have hh := List.mem_of_getElem? e
      have hl : here < W.length := h.inv.lt here (List.mem_of_getElem? e3)
      rw [Q_some _ _ _ e, DQ_some e3]
      have key := (sim_row (S := S) h hh (row_lt ok hl) _ (Nat.le_refl _)).1
      rw [List.take_length] at key
      show SimD _ _ (procTo (goS W S) (here, wd) (m + 1) (Q (goS W S) (m + 1) s j))
      rw [proc_row hh m (Nat.le_trans (mostW_le W here) hm)]
      exact key
theorem Qfar_le {W : Ways} (ok : WOk W) {S : List Nat} {s m : Nat} (hs : s < W.length) (hm : mostW W ≤ m) (j : Nat) : (Q (goS W S) (m + 1) s j).length ≤ W.length := by
  have h := DQ_Q ok (S := S) hs hm j
  have e : (Q (goS W S) (m + 1) s j).length = (DQ W S s j).2.length := by rw [← h.line, List.length_map]
  rw [e]
  exact DQ_le ok hs j
/-- it's so far as the shortest word is long -/
theorem far_some {W : Ways} (ok : WOk W) {S : List Nat} {s v m d : Nat} (hs : s < W.length) (hv : v < W.length) (hm : mostW W ≤ m) :
    (farW W S s).getD v none = some d ↔ (∃ w : List Nat, w.length = d ∧ (∀ x ∈ w, x < m + 1) ∧ run (goS W S) s w = v) ∧ ∀ w : List Nat, (∀ x ∈ w, x < m + 1) → run (goS W S) s w = v → d ≤ w.length := by
  have h := DQ_Q ok (S := S) hs hm W.length
  have hc := Qfar_le ok (S := S) hs hm W.length
  constructor
  · intro e
    have hin : v ∈ (DQ W S s W.length).2 := (h.inv.mem v hv).mp (by rw [show (DQ W S s W.length).1 = farW W S s from rfl, e]; rfl)
    obtain ⟨r, hr, er⟩ := h.mem.mp hin
    obtain ⟨r1, r2⟩ := Q_run (goS W S) (m + 1) s W.length r hr
    have ed : some r.2.length = some d := by
      rw [← e, ← h.far r hr, er]
      rfl
    cases ed
    refine ⟨⟨r.2, rfl, r2, by rw [r1, er]⟩, fun w hw ew => ?_⟩
    obtain ⟨r', hr', e1, e2⟩ := Q_best (goS W S) (m + 1) s hc w hw
    have e3 := h.far r' hr'
    rw [e1, ew] at e3
    have e4 : some r'.2.length = some r.2.length := by
      rw [← e, ← e3]
      rfl
    have e5 := Option.some.inj e4
    have := e2.len
    omega
  · rintro ⟨⟨w, hwl, hw, ew⟩, hmin⟩
    obtain ⟨r, hr, e1, e2⟩ := Q_best (goS W S) (m + 1) s hc w hw
    obtain ⟨r1, r2⟩ := Q_run (goS W S) (m + 1) s W.length r hr
    have a1 := hmin r.2 r2 (by rw [r1, e1, ew])
    have a2 := e2.len
    have e3 := h.far r hr
    rw [e1, ew] at e3
    show (DQ W S s W.length).1.getD v none = some d
    rw [e3]
    congr 1
    omega
theorem far_none {W : Ways} (ok : WOk W) {S : List Nat} {s v m : Nat} (hs : s < W.length) (hv : v < W.length) (hm : mostW W ≤ m) :
    (farW W S s).getD v none = none ↔ ∀ w : List Nat, (∀ x ∈ w, x < m + 1) → run (goS W S) s w ≠ v := by
  have h := DQ_Q ok (S := S) hs hm W.length
  have hc := Qfar_le ok (S := S) hs hm W.length
  constructor
  · intro e w hw ew
    obtain ⟨r, hr, e1, e2⟩ := Q_best (goS W S) (m + 1) s hc w hw
    have e3 := h.far r hr
    rw [e1, ew] at e3
    have e : (DQ W S s W.length).1.getD v none = none := e
    rw [e3] at e
    cases e
  · intro hno
    cases e : (farW W S s).getD v none with
    | none => rfl
    | some d =>
      obtain ⟨⟨w, _, hw, ew⟩, _⟩ := (far_some ok hs hv hm).mp e
      exact absurd ew (hno w hw)
end Nw
end
section
namespace Nw
/-- who is beside is so from both sides -/
def WSym (W : Ways) : Prop := ∀ u, u < W.length → ∀ q ∈ rowAt W u, ∃ p ∈ rowAt W q.1, p.1 = u
/-- one comes from a to b by places of S -/
def Rch (W : Ways) (S : List Nat) (a b : Nat) : Prop := ∃ w : List Nat, (∀ x ∈ w, x < mostW W + 1) ∧ run (goS W S) a w = b
theorem Rch.refl (W : Ways) (S : List Nat) (a : Nat) : Rch W S a a := ⟨[], (fun x hx => nomatch hx), rfl⟩
theorem run_app (go : Nat → Nat → Nat) (s : Nat) (v w : List Nat) : run go s (v ++ w) = run go (run go s v) w := List.foldl_append ..
theorem Rch.trans {W : Ways} {S : List Nat} {a b c : Nat} (h1 : Rch W S a b) (h2 : Rch W S b c) : Rch W S a c := by
  obtain ⟨v, hv, rfl⟩ := h1
  obtain ⟨w, hw, rfl⟩ := h2
  refine ⟨v ++ w, fun x hx => ?_, run_app _ _ _ _⟩
  rcases List.mem_append.mp hx with h | h
  · exact hv x h
  · exact hw x h
theorem Rch.step {W : Ways} {S : List Nat} {a : Nat} {q : Nat × Nat} (hq : q ∈ rowAt W a) (hS : q.1 ∈ S) : Rch W S a q.1 := by
  obtain ⟨e, he⟩ := List.mem_iff_getElem?.mp hq
  refine ⟨[e + 1], fun x hx => ?_, ?_⟩
  · simp only [List.mem_singleton] at hx
    subst hx
    have h1 := (List.getElem?_eq_some_iff.mp he).1
    have h2 := mostW_le W a
    omega
  · show goS W S a (e + 1) = q.1
    unfold goS
    rw [ledTo_in rfl he, if_pos hS]
theorem goS_cases (W : Ways) (S : List Nat) (u x : Nat) : goS W S u x = u ∨ (goS W S u x ∈ S ∧ ∃ q ∈ rowAt W u, q.1 = goS W S u x) := by
  unfold goS
  by_cases c : 1 ≤ x ∧ x ≤ (rowAt W u).length
  · obtain ⟨e, rfl⟩ : ∃ e, x = e + 1 := ⟨x - 1, by omega⟩
    have he : (rowAt W u)[e]? = some (rowAt W u)[e] := List.getElem?_eq_getElem (by omega)
    rw [ledTo_in rfl he]
    split
    · rename_i h
      exact .inr ⟨h, _, List.mem_of_getElem? he, rfl⟩
    · exact .inl rfl
  · rw [ledTo_out c]
    split <;> exact .inl rfl
theorem Rch.mono {W : Ways} {S T : List Nat} (h : ∀ x ∈ S, x ∈ T) {a b : Nat} (r : Rch W S a b) : Rch W T a b := by
  obtain ⟨w, hw, e⟩ := r
  induction w generalizing a with
  | nil => exact ⟨[], hw, e⟩
  | cons x w ih =>
    have r2 := ih (a := goS W S a x) (fun y hy => hw y (List.mem_cons_of_mem _ hy)) e
    rcases goS_cases W S a x with c | ⟨c1, q, hq, c2⟩
    · rw [c] at r2
      exact r2
    · rw [← c2] at c1 r2
      exact (Rch.step hq (h _ c1)).trans r2
theorem Rch.symm {W : Ways} (sym : WSym W) (ok : WOk W) {S : List Nat} {a b : Nat} (ha : a ∈ S) (hl : a < W.length) (r : Rch W S a b) : Rch W S b a := by
  obtain ⟨w, hw, e⟩ := r
  induction w generalizing a with
  | nil =>
    have e : a = b := e
    subst e
    exact Rch.refl W S a
  | cons x w ih =>
    have hw' := fun y hy => hw y (List.mem_cons_of_mem _ hy)
    rcases goS_cases W S a x with c | ⟨c1, q, hq, c2⟩
    · refine ih ha hl hw' ?_
      have e : run (goS W S) (goS W S a x) w = b := e
      rw [c] at e
      exact e
    · have e : run (goS W S) (goS W S a x) w = b := e
      rw [← c2] at e c1
      have r2 := ih c1 (row_lt ok hl q hq) hw' e
      obtain ⟨p, hp, ep⟩ := sym a hl q hq
      refine r2.trans ?_
      have r3 := Rch.step (S := S) hp (by rw [ep]; exact ha)
      rw [ep] at r3
      exact r3
/-- all of S hang together by S -/
def Conn (W : Ways) (S : List Nat) : Prop := ∀ a ∈ S, ∀ b ∈ S, Rch W S a b
theorem Conn.one (W : Ways) (h : Nat) : Conn W [h] := fun a ha b hb => by
  simp only [List.mem_singleton] at ha hb
  subst ha hb
  exact Rch.refl _ _ _
theorem Conn.more {W : Ways} (sym : WSym W) (ok : WOk W) {S : List Nat} (hS : ∀ x ∈ S, x < W.length) (h : Conn W S) {x : Nat} (hx : x < W.length) {q : Nat × Nat} (hq : q ∈ rowAt W x) (hqS : q.1 ∈ S) : Conn W (S ++ [x]) := by
  have sub : ∀ y ∈ S, y ∈ S ++ [x] := fun y hy => List.mem_append_left _ hy
  have x1 : Rch W (S ++ [x]) x q.1 := Rch.step hq (sub _ hqS)
  have x2 : Rch W (S ++ [x]) q.1 x := x1.symm sym ok (List.mem_append_right _ List.mem_cons_self) hx
  have key : ∀ a ∈ S ++ [x], Rch W (S ++ [x]) a q.1 ∧ Rch W (S ++ [x]) q.1 a := fun a ha => by
    rcases List.mem_append.mp ha with ha | ha
    · exact ⟨(h a ha _ hqS).mono sub, (h _ hqS a ha).mono sub⟩
    · simp only [List.mem_singleton] at ha
      subst ha
      exact ⟨x1, x2⟩
  exact fun a ha b hb => (key a ha).1.trans (key b hb).2
theorem far_of_rch {W : Ways} (ok : WOk W) {S : List Nat} {a b : Nat} (ha : a < W.length) (hb : b < W.length) (h : Rch W S a b) : ∃ d, (farW W S a).getD b none = some d := by
  cases e : (farW W S a).getD b none with
  | some d => exact ⟨d, rfl⟩
  | none =>
    obtain ⟨w, hw, ew⟩ := h
    exact absurd ew ((far_none ok ha hb (Nat.le_refl _)).mp e w hw)
def farD (W : Ways) (S : List Nat) (a b : Nat) : Nat := ((farW W S a).getD b none).getD 0
/-- the safe places beside x, with how far they are -/
def beside (W : Ways) (S : List Nat) (here x : Nat) : List (Nat × Nat) := ((rowAt W x).filter fun q => decide (q.1 ∈ S)).map fun q => (farD W S here q.1, q.1)
def pLt (p q : Nat × Nat) : Prop := p.1 < q.1 ∨ (p.1 = q.1 ∧ p.2 < q.2)
instance (p q : Nat × Nat) : Decidable (pLt p q) := inferInstanceAs (Decidable (_ ∨ _))
def minP : List (Nat × Nat) → Option (Nat × Nat)
  | [] => none
  | p :: l => some (l.foldl (fun a y => if pLt y a then y else a) p)
def lookW (W : Ways) (S : List Nat) (here x : Nat) : Option (Nat × Nat) := minP (beside W S here x)
theorem minP_mem : ∀ {l : List (Nat × Nat)} {p : Nat × Nat}, minP l = some p → p ∈ l
  | [], _, h => by cases h
  | q :: l, p, h => by
    have key : ∀ (l : List (Nat × Nat)) (a : Nat × Nat), l.foldl (fun a y => if pLt y a then y else a) a ∈ a :: l := by
      intro l
      induction l with
      | nil => exact fun a => List.mem_cons_self
      | cons y l ih =>
        intro a
        rw [List.foldl_cons]
        have := ih (if pLt y a then y else a)
        rcases List.mem_cons.mp this with e | e
        · rw [e]
          split
          · exact List.mem_cons_of_mem _ List.mem_cons_self
          · exact List.mem_cons_self
        · exact List.mem_cons_of_mem _ (List.mem_cons_of_mem _ e)
    cases h
    exact key l q
structure KSt where
  safe : List Nat
  here : Nat
  steps : Nat
  known : List Nat
def stepK (W : Ways) (x : Nat) (s : KSt) : Option KSt := (lookW W s.safe s.here x).map fun p => ⟨s.safe ++ [x], p.2, s.steps + p.1 + 2, s.known ++ [s.steps + p.1 + 2]⟩
def knownSt (W : Ways) (home : Nat) (l : List Nat) : Option KSt := l.foldl (fun o x => o.bind (stepK W x)) (some ⟨[home], home, 0, []⟩)
def knownW (W : Ways) (home : Nat) (order : List Nat) : Option (List Nat) := (knownSt W home order.dropLast).map fun s => if order = [] then s.known else s.known ++ [s.steps]
structure KOk (W : Ways) (s : KSt) : Prop where
  lt : ∀ x ∈ s.safe, x < W.length
  here : s.here ∈ s.safe
  conn : Conn W s.safe
theorem lookW_mem {W : Ways} {S : List Nat} {here x : Nat} {p : Nat × Nat} (h : lookW W S here x = some p) : ∃ q ∈ rowAt W x, q.1 ∈ S ∧ p = (farD W S here q.1, q.1) := by
  have := minP_mem h
  unfold beside at this
  obtain ⟨q, hq, e⟩ := List.mem_map.mp this
  obtain ⟨h1, h2⟩ := List.mem_filter.mp hq
  exact ⟨q, h1, of_decide_eq_true h2, e.symm⟩
theorem stepK_ok {W : Ways} (sym : WSym W) (ok : WOk W) {x : Nat} {s t : KSt} (hx : x < W.length) (h : KOk W s) (e : stepK W x s = some t) : KOk W t := by
  unfold stepK at e
  obtain ⟨p, hp, rfl⟩ := Option.map_eq_some_iff.mp e
  obtain ⟨q, hq, hS, rfl⟩ := lookW_mem hp
  refine ⟨fun y hy => ?_, List.mem_append_left _ hS, h.conn.more sym ok h.lt hx hq hS⟩
  rcases List.mem_append.mp hy with hy | hy
  · exact h.lt y hy
  · simp only [List.mem_singleton] at hy
    subst hy
    exact hx
theorem knownSt_none (W : Ways) (l : List Nat) : l.foldl (fun o x => o.bind (stepK W x)) none = none := by
  induction l with
  | nil => rfl
  | cons x l ih => exact ih
theorem knownSt_more {W : Ways} {home : Nat} {l : List Nat} {i x : Nat} (h : l[i]? = some x) : knownSt W home (l.take (i + 1)) = (knownSt W home (l.take i)).bind (stepK W x) := by
  unfold knownSt
  rw [take_more h, List.foldl_append]
  rfl
theorem knownSt_stop {W : Ways} {home : Nat} {l : List Nat} {i : Nat} (h : knownSt W home (l.take i) = none) : knownSt W home l = none := by
  unfold knownSt at h ⊢
  rw [← List.take_append_drop i l, List.foldl_append, h]
  exact knownSt_none W _
theorem KOk.first {W : Ways} {home : Nat} (hh : home < W.length) : KOk W ⟨[home], home, 0, []⟩ := ⟨fun x hx => by
  simp only [List.mem_singleton] at hx
  subst hx
  exact hh, List.mem_cons_self, Conn.one W home⟩
def allBut (n h : Nat) : List Nat := (List.range n).filter fun p => decide (p ≠ h)
def longerO (ps : List Nat) (o : List Nat) : List (List Nat) := (ps.filter fun p => decide (p ∉ o)).map fun p => o ++ [p]
def ordersO (ps : List Nat) : Nat → List (List Nat)
  | 0 => [[]]
  | k + 1 => (ordersO ps k).flatMap (longerO ps)
def worstL (l : List Nat) : Nat := l.foldl max 0
end Nw
end
section
namespace Nw
abbrev NSt := List (Nat × Nat)
def valN (st : NSt) (p : Nat) : Option Nat := (st.find? fun r => decide (r.1 = p)).map (·.2)
def nvisit (st : NSt) (pr : (Nat × Nat) × (Nat × Nat)) : Option NSt := match valN st pr.1.1 with
  | none => some (st ++ [(pr.1.1, pr.2.1)])
  | some k => if k = pr.2.1 then some st else none
def nfold (l : List ((Nat × Nat) × (Nat × Nat))) (o : Option NSt) : Option NSt := l.foldl (fun o pr => o.bind fun st => nvisit st pr) o
def entries (W : Ways) (u : Nat) : List Nat := (rowAt W u).map (·.2)
def nproc (W : Ways) (st : NSt) (p : Nat × Nat) : Option NSt := if entries W p.1 = entries W p.2 then nfold ((rowAt W p.1).zip (rowAt W p.2)) (some st) else none
def NQ (W : Ways) (u v : Nat) : Nat → Option NSt
  | 0 => some [(u, v)]
  | j + 1 => (NQ W u v j).bind fun st => match st[j]? with
    | none => some st
    | some p => nproc W st p
def namingW (W : Ways) (u v : Nat) : Option (List Nat) := (NQ W u v W.length).map fun st => (List.range W.length).map fun p => (valN st p).getD 0
theorem valN_none {st : NSt} {p : Nat} : valN st p = none ↔ ∀ r ∈ st, r.1 ≠ p := by
  unfold valN
  rw [Option.map_eq_none_iff, List.find?_eq_none]
  constructor
  · intro h r hr e
    exact h r hr (decide_eq_true e)
  · intro h r hr z
    exact h r hr (of_decide_eq_true z)
theorem valN_some {st : NSt} {p k : Nat} (h : valN st p = some k) : (p, k) ∈ st := by
  unfold valN at h
  obtain ⟨r, hr, rfl⟩ := Option.map_eq_some_iff.mp h
  have h1 := List.find?_some hr
  have h2 := List.mem_of_find?_eq_some hr
  have e : r.1 = p := of_decide_eq_true h1
  rw [← e]
  exact h2
theorem valN_isSome {st : NSt} {p : Nat} : (valN st p).isSome = true ↔ ∃ r ∈ st, r.1 = p := by
  constructor
  · intro h
    obtain ⟨k, hk⟩ := Option.isSome_iff_exists.mp h
    exact ⟨(p, k), valN_some hk, rfl⟩
  · rintro ⟨r, hr, e⟩
    cases q : valN st p with
    | some k => rfl
    | none => exact absurd e (valN_none.mp q r hr)
theorem valN_app_new {st : NSt} {p k : Nat} (h : valN st p = none) : valN (st ++ [(p, k)]) p = some k := by
  unfold valN at h ⊢
  rw [Option.map_eq_none_iff] at h
  rw [List.find?_append, h]
  simp
theorem valN_app {st t : NSt} {p k : Nat} (h : valN st p = some k) : valN (st ++ t) p = some k := by
  unfold valN at h ⊢
  obtain ⟨r, hr, rfl⟩ := Option.map_eq_some_iff.mp h
  rw [List.find?_append, hr]
  rfl
theorem valN_mono {st st' : NSt} (pre : st <+: st') {p k : Nat} (h : valN st p = some k) : valN st' p = some k := by
  obtain ⟨t, rfl⟩ := pre
  exact valN_app h
structure NInv (n : Nat) (st : NSt) : Prop where
  nd : (st.map (·.1)).Nodup
  lt : ∀ r ∈ st, r.1 < n ∧ r.2 < n
theorem NInv.le {n : Nat} {st : NSt} (h : NInv n st) : st.length ≤ n := by
  have := nodup_le (st.map (·.1)) (List.range n) h.nd fun x hx => by
    obtain ⟨r, hr, rfl⟩ := List.mem_map.mp hx
    exact List.mem_range.mpr (h.lt r hr).1
  simpa using this
theorem NInv.visit {n : Nat} {st st' : NSt} {pr : (Nat × Nat) × (Nat × Nat)} (h : NInv n st) (h1 : pr.1.1 < n) (h2 : pr.2.1 < n) (e : nvisit st pr = some st') : NInv n st' ∧ st <+: st' ∧ valN st' pr.1.1 = some pr.2.1 := by
  unfold nvisit at e
  cases q : valN st pr.1.1 with
  | none =>
    rw [q] at e
    cases e
    refine ⟨⟨?_, fun r hr => ?_⟩, List.prefix_append _ _, valN_app_new q⟩
    · rw [List.map_append, List.nodup_append]
      refine ⟨h.nd, by simp, fun a ha b hb e => ?_⟩
      obtain ⟨r, hr, rfl⟩ := List.mem_map.mp ha
      simp only [List.map_cons, List.map_nil, List.mem_singleton] at hb
      subst hb
      exact valN_none.mp q r hr e
    · rcases List.mem_append.mp hr with hr | hr
      · exact h.lt r hr
      · simp only [List.mem_singleton] at hr
        subst hr
        exact ⟨h1, h2⟩
  | some k =>
    rw [q] at e
    have e : (if k = pr.2.1 then some st else none) = some st' := e
    split at e
    · rename_i c
      cases e
      exact ⟨h, List.prefix_refl _, by rw [q, c]⟩
    · cases e
theorem nfold_none : ∀ l, nfold l none = none
  | [] => rfl
  | _ :: l => nfold_none l
theorem nfold_more {l : List ((Nat × Nat) × (Nat × Nat))} {i : Nat} {pr : (Nat × Nat) × (Nat × Nat)} {o : Option NSt} (h : l[i]? = some pr) : nfold (l.take (i + 1)) o = (nfold (l.take i) o).bind fun st => nvisit st pr := by
  unfold nfold
  rw [take_more h, List.foldl_append]
  rfl
theorem nfold_stop {l : List ((Nat × Nat) × (Nat × Nat))} {i : Nat} {o : Option NSt} (h : nfold (l.take i) o = none) : nfold l o = none := by
  unfold nfold at h ⊢
  rw [← List.take_append_drop i l, List.foldl_append, h]
  exact nfold_none _
theorem NInv.fold {n : Nat} : ∀ (l : List ((Nat × Nat) × (Nat × Nat))) {st st' : NSt}, NInv n st → (∀ pr ∈ l, pr.1.1 < n ∧ pr.2.1 < n) → nfold l (some st) = some st' → NInv n st' ∧ st <+: st' ∧ ∀ pr ∈ l, valN st' pr.1.1 = some pr.2.1
  | [], st, st', h, _, e => by
    cases e
    exact ⟨h, List.prefix_refl _, (fun pr hpr => nomatch hpr)⟩
  | pr :: l, st, st', h, hl, e => by
    have e : nfold l (nvisit st pr) = some st' := e
    cases q : nvisit st pr with
    | none => rw [q, nfold_none] at e; cases e
    | some s1 =>
      rw [q] at e
      obtain ⟨a1, a2, a3⟩ := h.visit (hl pr List.mem_cons_self).1 (hl pr List.mem_cons_self).2 q
      obtain ⟨b1, b2, b3⟩ := NInv.fold l a1 (fun x hx => hl x (List.mem_cons_of_mem _ hx)) e
      refine ⟨b1, a2.trans b2, fun x hx => ?_⟩
      rcases List.mem_cons.mp hx with hx | hx
      · subst hx
        exact valN_mono b2 a3
      · exact b3 x hx
theorem zip_lt {W : Ways} (ok : WOk W) {p : Nat × Nat} (h1 : p.1 < W.length) (h2 : p.2 < W.length) : ∀ pr ∈ (rowAt W p.1).zip (rowAt W p.2), pr.1.1 < W.length ∧ pr.2.1 < W.length := fun pr hpr =>
  ⟨row_lt ok h1 _ (List.of_mem_zip hpr).1, row_lt ok h2 _ (List.of_mem_zip hpr).2⟩
theorem NInv.proc {W : Ways} (ok : WOk W) {st st' : NSt} {p : Nat × Nat} (h : NInv W.length st) (hp : p ∈ st) (e : nproc W st p = some st') : NInv W.length st' ∧ st <+: st' ∧ entries W p.1 = entries W p.2 ∧ ∀ pr ∈ (rowAt W p.1).zip (rowAt W p.2), valN st' pr.1.1 = some pr.2.1 := by
  unfold nproc at e
  split at e
  · rename_i c
    obtain ⟨a, b, d⟩ := h.fold _ (zip_lt ok (h.lt p hp).1 (h.lt p hp).2) e
    exact ⟨a, b, c, d⟩
  · cases e
theorem NQ_succ {W : Ways} {u v j : Nat} {st : NSt} (h : NQ W u v j = some st) : NQ W u v (j + 1) = match st[j]? with | none => some st | some p => nproc W st p := by
  rw [NQ, h]
  rfl
theorem NQ_stop {W : Ways} {u v j : Nat} {st : NSt} (h : NQ W u v j = some st) (hl : st.length ≤ j) : ∀ {k}, j ≤ k → NQ W u v k = some st
  | 0, hk => by
    have : j = 0 := by omega
    subst this
    exact h
  | k + 1, hk => by
    rcases Nat.lt_or_ge j (k + 1) with c | c
    · have e := NQ_stop h hl (k := k) (by omega)
      rw [NQ_succ e, List.getElem?_eq_none (by omega)]
    · have : j = k + 1 := by omega
      subst this
      exact h
theorem NQ_dead {W : Ways} {u v j : Nat} (h : NQ W u v j = none) : ∀ {k}, j ≤ k → NQ W u v k = none
  | 0, hk => by
    have : j = 0 := by omega
    subst this
    exact h
  | k + 1, hk => by
    rcases Nat.lt_or_ge j (k + 1) with c | c
    · rw [NQ, NQ_dead h (k := k) (by omega)]
      rfl
    · have : j = k + 1 := by omega
      subst this
      exact h
/-- what holds of the names: those of processed places tell their exits -/
structure NOkay (W : Ways) (u v j : Nat) (st : NSt) : Prop where
  inv : NInv W.length st
  first : [(u, v)] <+: st
  done : ∀ i, i < j → ∀ p, st[i]? = some p → entries W p.1 = entries W p.2 ∧ ∀ pr ∈ (rowAt W p.1).zip (rowAt W p.2), valN st pr.1.1 = some pr.2.1
theorem pre_get {α : Type} {l r : List α} (h : l <+: r) {i : Nat} {x : α} (hi : i < l.length) (e : r[i]? = some x) : l[i]? = some x := by
  obtain ⟨t, rfl⟩ := h
  rw [List.getElem?_append_left hi] at e
  exact e
theorem NQ_ok {W : Ways} (ok : WOk W) {u v : Nat} (hu : u < W.length) (hv : v < W.length) : ∀ {j : Nat} {st : NSt}, NQ W u v j = some st → NOkay W u v j st
  | 0, st, h => by
    cases h
    refine ⟨⟨by simp, fun r hr => ?_⟩, List.prefix_refl _, fun i hi => absurd hi (Nat.not_lt_zero _)⟩
    simp only [List.mem_singleton] at hr
    subst hr
    exact ⟨hu, hv⟩
  | j + 1, st, h => by
    cases e : NQ W u v j with
    | none => rw [NQ, e] at h; cases h
    | some s1 =>
      have h1 := NQ_ok ok hu hv e
      rw [NQ_succ e] at h
      cases q : s1[j]? with
      | none =>
        rw [q] at h
        cases h
        refine ⟨h1.inv, h1.first, fun i hi p hp => ?_⟩
        have : i < j := by
          have a := (List.getElem?_eq_some_iff.mp hp).1
          have b := List.getElem?_eq_none_iff.mp q
          omega
        exact h1.done i this p hp
      | some p0 =>
        rw [q] at h
        have h : nproc W s1 p0 = some st := h
        obtain ⟨a1, a2, a3, a4⟩ := h1.inv.proc ok (List.mem_of_getElem? q) h
        refine ⟨a1, h1.first.trans a2, fun i hi p hp => ?_⟩
        have hj := (List.getElem?_eq_some_iff.mp q).1
        have hp1 := pre_get a2 (by omega) hp
        rcases Nat.lt_or_ge i j with c | c
        · obtain ⟨b1, b2⟩ := h1.done i c p hp1
          exact ⟨b1, fun pr hpr => valN_mono a2 (b2 pr hpr)⟩
        · have : i = j := by omega
          subst this
          rw [q] at hp1
          cases hp1
          exact ⟨a3, a4⟩
theorem NQ_closed {W : Ways} (ok : WOk W) {u v : Nat} (hu : u < W.length) (hv : v < W.length) {st : NSt} (h : NQ W u v W.length = some st) {p : Nat × Nat} (hp : p ∈ st) {q : Nat × Nat} (hq : q ∈ rowAt W p.1) : (valN st q.1).isSome = true := by
  have k := NQ_ok ok hu hv h
  obtain ⟨i, hi⟩ := List.mem_iff_getElem?.mp hp
  have hil : i < W.length := Nat.lt_of_lt_of_le (List.getElem?_eq_some_iff.mp hi).1 k.inv.le
  obtain ⟨e1, e2⟩ := k.done i hil p hi
  have hlen : (rowAt W p.1).length = (rowAt W p.2).length := by
    have := congrArg List.length e1
    unfold entries at this
    simpa using this
  obtain ⟨x, hx⟩ := List.mem_iff_getElem?.mp hq
  have hxl := (List.getElem?_eq_some_iff.mp hx).1
  obtain ⟨q2, hq2⟩ : ∃ q2, (rowAt W p.2)[x]? = some q2 := ⟨_, List.getElem?_eq_getElem (by omega)⟩
  have hz : ((rowAt W p.1).zip (rowAt W p.2))[x]? = some (q, q2) := by
    rw [List.getElem?_zip_eq_some]
    exact ⟨hx, hq2⟩
  rw [e2 (q, q2) (List.mem_of_getElem? hz)]
  rfl
/-- all to which one comes are named -/
theorem NQ_all {W : Ways} (ok : WOk W) {u v : Nat} (hu : u < W.length) (hv : v < W.length) {st : NSt} (h : NQ W u v W.length = some st) {S : List Nat} {p : Nat} (hr : Rch W S u p) : (valN st p).isSome = true := by
  have k := NQ_ok ok hu hv h
  obtain ⟨w, _, rfl⟩ := hr
  have key : ∀ (w : List Nat) (a : Nat), (valN st a).isSome = true → (valN st (run (goS W S) a w)).isSome = true := by
    intro w
    induction w with
    | nil => exact fun a h => h
    | cons x w ih =>
      intro a ha
      refine ih _ ?_
      rcases goS_cases W S a x with c | ⟨_, q, hq, c⟩
      · rw [c]
        exact ha
      · rw [← c]
        obtain ⟨r, hr, e⟩ := valN_isSome.mp ha
        exact NQ_closed ok hu hv h hr (by rw [e]; exact hq)
  exact key w u (valN_isSome.mpr ⟨(u, v), k.first.subset List.mem_cons_self, rfl⟩)
end Nw
end
section
namespace Nw
open Ks536 (Net)
def Ends (n : Nat) (l : List (Nat × Nat)) : Prop := ∀ p ∈ l, p.1 < n ∧ p.2 < n ∧ p.1 ≠ p.2
theorem snoc_ind {α : Type} {P : List α → Prop} (h0 : P []) (h1 : ∀ l x, P l → P (l ++ [x])) (l : List α) : P l := by
  rw [← List.reverse_reverse l]
  induction l.reverse with
  | nil => exact h0
  | cons x l ih =>
    rw [List.reverse_cons]
    exact h1 _ _ ih
theorem exits_snoc (n : Nat) (l : List (Nat × Nat)) (p : Nat × Nat) (u : Nat) : Ks536.exits ⟨n, l ++ [p]⟩ u = Ks536.exits ⟨n, l⟩ u ++ if (p.1 == u || p.2 == u) = true then [l.length] else [] := by
  unfold Ks536.exits
  show ((List.range (l ++ [p]).length).filter _) = _
  rw [List.length_append, List.length_singleton, List.range_succ, List.filter_append]
  congr 1
  · refine List.filter_congr fun i hi => ?_
    have := List.mem_range.mp hi
    show (match (l ++ [p])[i]? with | some p => p.1 == u || p.2 == u | none => false) = (match l[i]? with | some p => p.1 == u || p.2 == u | none => false)
    rw [List.getElem?_append_left this]
  · rw [List.filter_cons, List.filter_nil]
    show (if (match (l ++ [p])[l.length]? with | some p => p.1 == u || p.2 == u | none => false) = true then [l.length] else []) = _
    rw [List.getElem?_append_right (Nat.le_refl _), Nat.sub_self]
    rfl
theorem exits_mem {n : Nat} {l : List (Nat × Nat)} {u i : Nat} : i ∈ Ks536.exits ⟨n, l⟩ u ↔ ∃ p, l[i]? = some p ∧ (p.1 = u ∨ p.2 = u) := by
  unfold Ks536.exits
  rw [List.mem_filter, List.mem_range]
  show i < l.length ∧ (match l[i]? with | some p => p.1 == u || p.2 == u | none => false) = true ↔ _
  constructor
  · rintro ⟨h1, h2⟩
    rw [List.getElem?_eq_getElem h1] at h2 ⊢
    refine ⟨_, rfl, ?_⟩
    simpa using h2
  · rintro ⟨p, hp, h⟩
    refine ⟨(List.getElem?_eq_some_iff.mp hp).1, ?_⟩
    rw [hp]
    simpa using h
theorem exits_lt {n : Nat} {l : List (Nat × Nat)} {u i : Nat} (h : i ∈ Ks536.exits ⟨n, l⟩ u) : i < l.length := by
  obtain ⟨p, hp, _⟩ := exits_mem.mp h
  exact (List.getElem?_eq_some_iff.mp hp).1
def rowS (t : Net) (u : Nat) : List (Nat × Nat) := (Ks536.exits t u).map fun i => (Ks536.end_ t i u, ((Ks536.exits t (Ks536.end_ t i u)).takeWhile fun j => j != i).length)
theorem out_row (t : Net) (u e : Nat) : Ks536.out t u e = (rowS t u)[e]? := by
  unfold Ks536.out rowS
  rw [List.getElem?_map]
  cases (Ks536.exits t u)[e]? <;> rfl
theorem end_old {n : Nat} {l : List (Nat × Nat)} {p : Nat × Nat} {i u : Nat} (h : i < l.length) : Ks536.end_ ⟨n, l ++ [p]⟩ i u = Ks536.end_ ⟨n, l⟩ i u := by
  show (match (l ++ [p])[i]? with | some p => if p.1 = u then p.2 else p.1 | none => u) = (match l[i]? with | some p => if p.1 = u then p.2 else p.1 | none => u)
  rw [List.getElem?_append_left h]
theorem end_new (n : Nat) (l : List (Nat × Nat)) (p : Nat × Nat) (u : Nat) : Ks536.end_ ⟨n, l ++ [p]⟩ l.length u = if p.1 = u then p.2 else p.1 := by
  show (match (l ++ [p])[l.length]? with | some p => if p.1 = u then p.2 else p.1 | none => u) = _
  rw [List.getElem?_append_right (Nat.le_refl _), Nat.sub_self]
  rfl
theorem takeWhile_app {α : Type} {p : α → Bool} : ∀ {l r : List α}, (∃ x ∈ l, p x = false) → (l ++ r).takeWhile p = l.takeWhile p
  | [], _, h => by
    obtain ⟨x, hx, _⟩ := h
    cases hx
  | a :: l, r, h => by
    rw [List.cons_append, List.takeWhile_cons, List.takeWhile_cons]
    cases c : p a with
    | false => rfl
    | true =>
      obtain ⟨x, hx, hp⟩ := h
      rcases List.mem_cons.mp hx with e | hx
      · subst e
        rw [c] at hp
        cases hp
      · simp only [if_true]
        rw [takeWhile_app ⟨x, hx, hp⟩]
theorem takeWhile_all {α : Type} {p : α → Bool} : ∀ {l r : List α} {x : α}, (∀ y ∈ l, p y = true) → p x = false → (l ++ x :: r).takeWhile p = l
  | [], r, x, _, h => by
    rw [List.nil_append, List.takeWhile_cons, h]
    rfl
  | a :: l, r, x, hl, h => by
    rw [List.cons_append, List.takeWhile_cons, hl a List.mem_cons_self, if_pos rfl, takeWhile_all (fun y hy => hl y (List.mem_cons_of_mem _ hy)) h]
theorem rowS_snoc (n : Nat) (l : List (Nat × Nat)) (p : Nat × Nat) (u : Nat) : rowS ⟨n, l ++ [p]⟩ u = rowS ⟨n, l⟩ u ++ if (p.1 == u || p.2 == u) = true then [(if p.1 = u then p.2 else p.1, (Ks536.exits ⟨n, l⟩ (if p.1 = u then p.2 else p.1)).length)] else [] := by
  unfold rowS
  rw [exits_snoc, List.map_append]
  congr 1
  · refine List.map_congr_left fun i hi => ?_
    have hl := exits_lt hi
    rw [end_old hl, exits_snoc, takeWhile_app]
    refine ⟨i, ?_, by simp⟩
    obtain ⟨q, hq, h⟩ := exits_mem.mp hi
    refine exits_mem.mpr ⟨q, hq, ?_⟩
    show q.1 = (match l[i]? with | some p => if p.1 = u then p.2 else p.1 | none => u) ∨ q.2 = (match l[i]? with | some p => if p.1 = u then p.2 else p.1 | none => u)
    rw [hq]
    show q.1 = (if q.1 = u then q.2 else q.1) ∨ q.2 = (if q.1 = u then q.2 else q.1)
    split
    · exact .inr rfl
    · exact .inl rfl
  · split
    · rename_i c
      rw [List.map_cons, List.map_nil, end_new]
      have hz : p.1 = (if p.1 = u then p.2 else p.1) ∨ p.2 = (if p.1 = u then p.2 else p.1) := by
        split
        · exact .inr rfl
        · exact .inl rfl
      generalize (if p.1 = u then p.2 else p.1) = z at hz
      rw [exits_snoc, if_pos (c := (p.1 == z || p.2 == z) = true) (by rcases hz with e | e <;> simp [e]), takeWhile_all (fun y hy => ?_) (by simp)]
      have := exits_lt hy
      simp
      omega
    · rfl
theorem rowS_len (t : Net) (u : Nat) : (rowS t u).length = Ks536.degree t u := List.length_map ..
theorem waysOf_snoc (n : Nat) (l : List (Nat × Nat)) (p : Nat × Nat) : waysOf n (l ++ [p]) = addLink (waysOf n l) p := by
  unfold waysOf
  rw [List.foldl_append]
  rfl
theorem rowAt_ways {n : Nat} {l : List (Nat × Nat)} (h : Ends n l) (u : Nat) : rowAt (waysOf n l) u = rowS ⟨n, l⟩ u := by
  revert h u
  refine snoc_ind (P := fun l => Ends n l → ∀ u, rowAt (waysOf n l) u = rowS ⟨n, l⟩ u) (fun _ u => ?_) (fun l p ih h u => ?_) l
  · rw [waysOf, List.foldl_nil, rowAt_rep]
    rfl
  · have h0 : Ends n l := fun q hq => h q (List.mem_append_left _ hq)
    have hp := h p (List.mem_append_right _ List.mem_cons_self)
    have ih := ih h0
    rw [waysOf_snoc, rowAt_addLink (by rw [waysOf_len]; exact hp.1) (by rw [waysOf_len]; exact hp.2.1), rowS_snoc, ih, ih, ih, rowS_len, rowS_len]
    by_cases c2 : u = p.2
    · subst c2
      rw [if_pos rfl, if_pos (by simp), if_neg hp.2.2]
      rfl
    · rw [if_neg c2]
      by_cases c1 : u = p.1
      · subst c1
        rw [if_pos rfl, if_pos (by simp), if_pos rfl]
        rfl
      · rw [if_neg c1, if_neg, List.append_nil]
        simp
        exact ⟨fun z => c1 z.symm, fun z => c2 z.symm⟩
section
variable {n : Nat} {l : List (Nat × Nat)} (h : Ends n l)
include h
theorem out_is (u e : Nat) : Ks536.out ⟨n, l⟩ u e = (rowAt (waysOf n l) u)[e]? := by rw [rowAt_ways h, out_row]
theorem degree_is (u : Nat) : Ks536.degree ⟨n, l⟩ u = (rowAt (waysOf n l) u).length := by rw [rowAt_ways h, rowS_len]
theorem go_is (u x : Nat) : Ks536.go ⟨n, l⟩ u x = ledTo (waysOf n l) u x := by
  cases x with
  | zero => rfl
  | succ e =>
    show (match Ks536.out ⟨n, l⟩ u e with | some p => p.1 | none => u) = (match (rowAt (waysOf n l) u)[e]? with | some p => p.1 | none => u)
    rw [out_is h]
theorem came_is (u x : Nat) : Ks536.came ⟨n, l⟩ u x = cameIn (waysOf n l) u x := by
  cases x with
  | zero => rfl
  | succ e =>
    show (match Ks536.out ⟨n, l⟩ u e with | some p => p.2 + 1 | none => 0) = (match (rowAt (waysOf n l) u)[e]? with | some p => p.2 + 1 | none => 0)
    rw [out_is h]
theorem walk_is : ∀ (w : List Nat) (u : Nat), Ks536.walk ⟨n, l⟩ u w = walkedW (waysOf n l) u w
  | [], _ => rfl
  | x :: w, u => by
    show u :: Ks536.walk ⟨n, l⟩ (Ks536.go ⟨n, l⟩ u x) w = u :: walkedW (waysOf n l) (ledTo (waysOf n l) u x) w
    rw [walk_is w, go_is h]
theorem ways_map : (waysOf n l).map List.length = (List.range n).map (Ks536.degree ⟨n, l⟩) := by
  apply List.ext_getElem?
  intro i
  rw [List.getElem?_map, List.getElem?_map]
  rcases Nat.lt_or_ge i n with c | c
  · rw [row_some (by rw [waysOf_len]; exact c), List.getElem?_range c]
    simp only [Option.map_some]
    rw [degree_is h]
  · rw [List.getElem?_eq_none (by rw [waysOf_len]; exact c), List.getElem?_eq_none (by simpa using c)]
    rfl
theorem letters_is : Ks537.letters ⟨n, l⟩ = mostW (waysOf n l) + 1 := by
  unfold Ks537.letters mostW
  rw [ways_map h]
theorem near_is (g x : Nat) : Ks538.near ⟨n, l⟩ g x = true ↔ ∃ q ∈ rowAt (waysOf n l) x, q.1 = g := by
  rw [rowAt_ways h]
  unfold Ks538.near
  rw [List.any_eq_true]
  constructor
  · rintro ⟨p, hp, hq⟩
    obtain ⟨i, hi⟩ := List.mem_iff_getElem?.mp hp
    have ends := h p hp
    have hq : (p.1 = g ∧ p.2 = x) ∨ (p.1 = x ∧ p.2 = g) := by simpa using hq
    have hm : i ∈ Ks536.exits ⟨n, l⟩ x := exits_mem.mpr ⟨p, hi, by rcases hq with c | c; exact .inr c.2; exact .inl c.1⟩
    refine ⟨_, List.mem_map.mpr ⟨i, hm, rfl⟩, ?_⟩
    show (match l[i]? with | some p => if p.1 = x then p.2 else p.1 | none => x) = g
    rw [hi]
    show (if p.1 = x then p.2 else p.1) = g
    rcases hq with ⟨c1, c2⟩ | ⟨c1, c2⟩
    · rw [if_neg fun z => ends.2.2 (by rw [z, c2]), c1]
    · rw [if_pos c1, c2]
  · rintro ⟨q, hq, e⟩
    obtain ⟨i, hi, rfl⟩ := List.mem_map.mp hq
    obtain ⟨p, hp, hx⟩ := exits_mem.mp hi
    refine ⟨p, List.mem_of_getElem? hp, ?_⟩
    have e : (match l[i]? with | some p => if p.1 = x then p.2 else p.1 | none => x) = g := e
    rw [hp] at e
    have e : (if p.1 = x then p.2 else p.1) = g := e
    split at e
    · rename_i c
      simp [c, e]
    · rename_i c
      rcases hx with z | z
      · exact absurd z c
      · simp [z, e]
end
end Nw
end
section
namespace Nw
open Ks536 (Net)
theorem getD_map_range {α : Type} {n u : Nat} (f : Nat → α) (d : α) (h : u < n) : ((List.range n).map f).getD u d = f u := by
  rw [List.getD_eq_getElem?_getD, List.getElem?_map, List.getElem?_range h]
  rfl
theorem map_eq_iff {α β : Type} {f : α → β} {r q : List α} : r.map f = q.map f ↔ r.length = q.length ∧ ∀ (e : Nat) (a b : α), r[e]? = some a → q[e]? = some b → f a = f b := by
  constructor
  · intro h
    refine ⟨by have := congrArg List.length h; simpa using this, fun e a b ha hb => ?_⟩
    have : (r.map f)[e]? = (q.map f)[e]? := by rw [h]
    rw [List.getElem?_map, List.getElem?_map, ha, hb] at this
    exact Option.some.inj this
  · rintro ⟨h1, h2⟩
    apply List.ext_getElem?
    intro e
    rw [List.getElem?_map, List.getElem?_map]
    rcases Nat.lt_or_ge e r.length with c | c
    · have ha : r[e]? = some r[e] := List.getElem?_eq_getElem c
      have hb : q[e]? = some (q[e]'(by omega)) := List.getElem?_eq_getElem _
      rw [ha, hb]
      exact congrArg some (h2 e _ _ ha hb)
    · rw [List.getElem?_eq_none c, List.getElem?_eq_none (by omega)]
theorem like_is {n : Nat} {l : List (Nat × Nat)} (h : Ends n l) (ok : WOk (waysOf n l)) : ∀ (k u v : Nat), u < n → v < n → (Ks536.like ⟨n, l⟩ ⟨n, l⟩ k u v = true ↔ (cls (waysOf n l) k).getD u 0 = (cls (waysOf n l) k).getD v 0)
  | 0, u, v, hu, hv => by
    have lu : u < (waysOf n l).length := by rw [waysOf_len]; exact hu
    have lv : v < (waysOf n l).length := by rw [waysOf_len]; exact hv
    rw [cls_eq_iff lu lv]
    unfold Ks536.like Ks536.table
    show (((List.range n).map fun u => (List.range n).map fun v => Ks536.degree ⟨n, l⟩ u == Ks536.degree ⟨n, l⟩ v).getD u []).getD v false = true ↔ ((waysOf n l).map fun r => r.map fun _ => ((0, 0) : Nat × Nat))[u]? = ((waysOf n l).map fun r => r.map fun _ => ((0, 0) : Nat × Nat))[v]?
    rw [getD_map_range _ _ hu, getD_map_range _ _ hv, List.getElem?_map, List.getElem?_map, row_some lu, row_some lv, degree_is h, degree_is h]
    simp only [Option.map_some, Option.some.injEq, beq_iff_eq]
    rw [map_eq_iff]
    exact ⟨fun e => ⟨e, fun _ _ _ _ _ => rfl⟩, fun e => e.1⟩
  | k + 1, u, v, hu, hv => by
    have lu : u < (waysOf n l).length := by rw [waysOf_len]; exact hu
    have lv : v < (waysOf n l).length := by rw [waysOf_len]; exact hv
    rw [cls_eq_iff lu lv, marks_succ, List.getElem?_map, List.getElem?_map, row_some lu, row_some lv]
    simp only [Option.map_some, Option.some.injEq]
    unfold markW
    rw [map_eq_iff]
    unfold Ks536.like
    show (((List.range n).map fun u => (List.range n).map fun v => Ks536.degree ⟨n, l⟩ u == Ks536.degree ⟨n, l⟩ v && (List.range (Ks536.degree ⟨n, l⟩ u)).all fun e => match Ks536.out ⟨n, l⟩ u e, Ks536.out ⟨n, l⟩ v e with
      | some a, some b => a.2 == b.2 && ((Ks536.table ⟨n, l⟩ ⟨n, l⟩ k).getD a.1 []).getD b.1 false
      | _, _ => false).getD u []).getD v false = true ↔ _
    rw [getD_map_range _ _ hu, getD_map_range _ _ hv, Bool.and_eq_true, beq_iff_eq, List.all_eq_true, degree_is h, degree_is h]
    refine and_congr_right fun hl => ?_
    have key : ∀ (a b : Nat × Nat), a ∈ rowAt (waysOf n l) u → b ∈ rowAt (waysOf n l) v → (((Ks536.table ⟨n, l⟩ ⟨n, l⟩ k).getD a.1 []).getD b.1 false = true ↔ (cls (waysOf n l) k).getD a.1 0 = (cls (waysOf n l) k).getD b.1 0) := fun a b ha hb => by
      have h1 := row_lt ok lu a ha
      have h2 := row_lt ok lv b hb
      rw [waysOf_len] at h1 h2
      exact like_is h ok k a.1 b.1 h1 h2
    constructor
    · intro H e a b ha hb
      have := H e (List.mem_range.mpr (List.getElem?_eq_some_iff.mp ha).1)
      rw [out_is h, out_is h, ha, hb] at this
      have this : (a.2 == b.2 && ((Ks536.table ⟨n, l⟩ ⟨n, l⟩ k).getD a.1 []).getD b.1 false) = true := this
      rw [Bool.and_eq_true, beq_iff_eq, key a b (List.mem_of_getElem? ha) (List.mem_of_getElem? hb)] at this
      rw [this.1, this.2]
    · intro H e he
      have he := List.mem_range.mp he
      have ha : (rowAt (waysOf n l) u)[e]? = some (rowAt (waysOf n l) u)[e] := List.getElem?_eq_getElem he
      have hb : (rowAt (waysOf n l) v)[e]? = some ((rowAt (waysOf n l) v)[e]'(by omega)) := List.getElem?_eq_getElem _
      have hh := H e _ _ ha hb
      rw [out_is h, out_is h, ha, hb]
      generalize (rowAt (waysOf n l) u)[e] = a at ha hh
      generalize (rowAt (waysOf n l) v)[e]'(by omega) = b at hb hh
      show (a.2 == b.2 && ((Ks536.table ⟨n, l⟩ ⟨n, l⟩ k).getD a.1 []).getD b.1 false) = true
      injection hh with e1 e2
      rw [Bool.and_eq_true, beq_iff_eq, key a b (List.mem_of_getElem? ha) (List.mem_of_getElem? hb)]
      exact ⟨e1, e2⟩
theorem cls_still {W : Ways} {k : Nat} (h : cls W (k + 1) = cls W k) : ∀ j, cls W (k + j) = cls W k
  | 0 => rfl
  | j + 1 => by
    have e := cls_still h j
    rw [show k + (j + 1) = k + j + 1 by omega, cls, marks_succ, e, ← marks_succ]
    exact h
theorem cls_getD {W : Ways} {k i : Nat} (hi : i < W.length) : (cls W k)[i]? = some ((cls W k).getD i 0) := by
  rw [List.getD_eq_getElem?_getD, List.getElem?_eq_getElem (by rw [cls_len]; exact hi)]
  rfl
/-- the class is the least alike -/
theorem cls_least {W : Ways} {k i : Nat} (hi : i < W.length) : (cls W k).getD i 0 ≤ i ∧ (cls W k).getD ((cls W k).getD i 0) 0 = (cls W k).getD i 0 ∧ ∀ m, m < (cls W k).getD i 0 → (cls W k).getD m 0 ≠ (cls W k).getD i 0 := by
  have li : i < (marks W k).length := by rw [marks_len]; exact hi
  have a : (marks W k)[i]? = some (marks W k)[i] := List.getElem?_eq_getElem li
  obtain ⟨j, e, hle, hj, hno⟩ := first_is a
  have ej : (cls W k).getD i 0 = j := by
    have := leastL_get a
    rw [e] at this
    exact getD_of this
  rw [ej]
  have hjl : j < W.length := by omega
  refine ⟨hle, ?_, fun m hm => ?_⟩
  · rw [(cls_eq_iff hjl hi).mpr (by rw [hj, a]), ej]
  · intro z
    have hml : m < W.length := by omega
    have := (cls_eq_iff hml hi).mp (by rw [z, ej])
    have lm : m < (marks W k).length := by rw [marks_len]; exact hml
    rw [a, List.getElem?_eq_getElem lm] at this
    exact hno m _ hm (List.getElem?_eq_getElem lm) (Option.some.inj this)
def leads (W : Ways) (k : Nat) : List Nat := (List.range W.length).filter fun i => decide ((cls W k).getD i 0 = i)
theorem leads_mem {W : Ways} {k i : Nat} : i ∈ leads W k ↔ i < W.length ∧ (cls W k).getD i 0 = i := by
  unfold leads
  rw [List.mem_filter, List.mem_range, decide_eq_true_iff]
theorem leads_nodup (W : Ways) (k : Nat) : (leads W k).Nodup := List.nodup_range.filter _
theorem leads_more {W : Ways} (ok : WOk W) {k i : Nat} (h : i ∈ leads W k) : i ∈ leads W (k + 1) := by
  obtain ⟨h1, h2⟩ := leads_mem.mp h
  refine leads_mem.mpr ⟨h1, Nat.le_antisymm (cls_least h1).1 ?_⟩
  have := cls_mono ok k (cls_getD h1) (cls_getD h1)
  rw [h2] at this
  exact this
theorem leads_rise {W : Ways} (ok : WOk W) {k : Nat} (h : cls W (k + 1) ≠ cls W k) : (leads W k).length < (leads W (k + 1)).length := by
  have h1 := nodup_le (leads W k) (leads W (k + 1)) (leads_nodup W k) fun x hx => leads_more ok hx
  rcases Nat.lt_or_ge (leads W k).length (leads W (k + 1)).length with c | c
  · exact c
  · exfalso
    apply h
    -- no new one: each of the new ones is an old one
    have back : ∀ x ∈ leads W (k + 1), x ∈ leads W k := fun x hx => by
      by_cases z : x ∈ leads W k
      · exact z
      · have nd : (x :: leads W k).Nodup := List.nodup_cons.mpr ⟨z, leads_nodup W k⟩
        have := nodup_le (x :: leads W k) (leads W (k + 1)) nd fun y hy => by
          rcases List.mem_cons.mp hy with e | hy
          · rw [e]; exact hx
          · exact leads_more ok hy
        simp only [List.length_cons] at this
        omega
    apply List.ext_getElem?
    intro i
    rcases Nat.lt_or_ge i W.length with hi | hi
    · rw [cls_getD hi, cls_getD hi]
      congr 1
      obtain ⟨a1, a2, a3⟩ := cls_least (k := k + 1) hi
      generalize ej : (cls W (k + 1)).getD i 0 = j at a1 a2 a3
      have hj : j < W.length := by omega
      have hl := (leads_mem.mp (back j (leads_mem.mpr ⟨hj, a2⟩))).2
      rw [← hl]
      -- alike in one more, so alike
      have hm := (cls_eq_iff (k := k + 1) hj hi).mp (by rw [a2, ej])
      have l1 : j < (marks W (k + 1)).length := by rw [marks_len]; exact hj
      have l2 : i < (marks W (k + 1)).length := by rw [marks_len]; exact hi
      have l3 : j < (marks W k).length := by rw [marks_len]; exact hj
      have l4 : i < (marks W k).length := by rw [marks_len]; exact hi
      rw [List.getElem?_eq_getElem l1, List.getElem?_eq_getElem l2] at hm
      have := marks_fine ok k j i _ _ _ _ (List.getElem?_eq_getElem l3) (List.getElem?_eq_getElem l4) (List.getElem?_eq_getElem l1) (List.getElem?_eq_getElem l2) (Option.some.inj hm)
      exact (cls_eq_iff hj hi).mpr (by rw [List.getElem?_eq_getElem l3, List.getElem?_eq_getElem l4, this])
    · rw [List.getElem?_eq_none (by rw [cls_len]; exact hi), List.getElem?_eq_none (by rw [cls_len]; exact hi)]
theorem leads_all {W : Ways} (ok : WOk W) (h0 : 0 < W.length) : ∀ k, (∀ i, i < k → cls W (i + 1) ≠ cls W i) → k + 1 ≤ (leads W k).length
  | 0, _ => by
    have : 0 ∈ leads W 0 := leads_mem.mpr ⟨h0, Nat.le_zero.mp (cls_least h0).1⟩
    exact List.length_pos_of_mem this
  | k + 1, h => by
    have := leads_all ok h0 k fun i hi => h i (by omega)
    have := leads_rise ok (h k (by omega))
    omega
theorem cls_end {W : Ways} (ok : WOk W) (h0 : 0 < W.length) {j : Nat} (hj : W.length - 1 ≤ j) : cls W j = cls W (W.length - 1) := by
  have ex : ∃ i, i < W.length ∧ cls W (i + 1) = cls W i := by
    apply Classical.byContradiction
    intro z
    have h1 := leads_all ok h0 W.length fun i hi e => z ⟨i, hi, e⟩
    have h2 : (leads W W.length).length ≤ W.length := by
      have := List.length_filter_le (fun i => decide ((cls W W.length).getD i 0 = i)) (List.range W.length)
      rw [List.length_range] at this
      exact this
    omega
  obtain ⟨i, hi, e⟩ := ex
  have e1 := cls_still e (j - i)
  have e2 := cls_still e (W.length - 1 - i)
  rw [show i + (j - i) = j by omega] at e1
  rw [show i + (W.length - 1 - i) = W.length - 1 by omega] at e2
  rw [e1, e2]
theorem find_range {n N : Nat} {p : Nat → Bool} (h : n ≤ N) (hn : 0 < n) (st : ∀ j, n - 1 ≤ j → p j = p (n - 1)) : (List.range N).find? p = (List.range n).find? p := by
  cases e : (List.range n).find? p with
  | some i =>
    rw [List.find?_range_eq_some] at e ⊢
    exact ⟨e.1, List.mem_range.mpr (Nat.lt_of_lt_of_le (List.mem_range.mp e.2.1) h), e.2.2⟩
  | none =>
    rw [List.find?_eq_none] at e ⊢
    intro j hj
    rcases Nat.lt_or_ge j n with c | c
    · exact e j (List.mem_range.mpr c)
    · rw [st j (by omega)]
      exact e (n - 1) (List.mem_range.mpr (by omega))
theorem apart_is {n : Nat} {l : List (Nat × Nat)} (h : Ends n l) (ok : WOk (waysOf n l)) {u v : Nat} (hu : u < n) (hv : v < n) {N : Nat} (hN : n ≤ N) : Ks536.apart ⟨n, l⟩ ⟨n, l⟩ u v = (List.range N).find? fun i => decide ((cls (waysOf n l) i).getD u 0 ≠ (cls (waysOf n l) i).getD v 0) := by
  have h0 : 0 < n := by omega
  have hl := waysOf_len n l
  have st : ∀ j, n - 1 ≤ j → decide ((cls (waysOf n l) j).getD u 0 ≠ (cls (waysOf n l) j).getD v 0) = decide ((cls (waysOf n l) (n - 1)).getD u 0 ≠ (cls (waysOf n l) (n - 1)).getD v 0) := fun j hj => by
    have := cls_end ok (by rw [hl]; exact h0) (j := j) (by rw [hl]; exact hj)
    rw [hl] at this
    rw [this]
  rw [find_range hN h0 st]
  unfold Ks536.apart
  rw [← find_range (N := n + n) (by omega) h0 st]
  show (List.range (n + n)).find? _ = _
  congr 1
  funext k
  have := like_is h ok k u v hu hv
  cases c : Ks536.like ⟨n, l⟩ ⟨n, l⟩ k u v with
  | true =>
    rw [c] at this
    have := this.mp rfl
    rw [decide_eq_false (fun z => z this)]
    rfl
  | false =>
    rw [c] at this
    symm
    rw [Bool.not_false, decide_eq_true_iff]
    exact fun z => Bool.noConfusion (this.mpr z)
theorem classes_is {n : Nat} {l : List (Nat × Nat)} (h : Ends n l) (ok : WOk (waysOf n l)) (h0 : 0 < n) {N : Nat} (hN : n - 1 ≤ N) : Ks536.classes ⟨n, l⟩ = cls (waysOf n l) N := by
  have hl := waysOf_len n l
  unfold Ks536.classes
  apply List.ext_getElem?
  intro u
  show ((List.range n).map fun u => ((List.range n).find? fun v => ((Ks536.table ⟨n, l⟩ ⟨n, l⟩ (n + n - 1)).getD v []).getD u false).getD u)[u]? = _
  rw [List.getElem?_map]
  rcases Nat.lt_or_ge u n with hu | hu
  · have lu : u < (waysOf n l).length := by rw [hl]; exact hu
    rw [List.getElem?_range hu, cls_getD lu]
    have e1 : cls (waysOf n l) N = cls (waysOf n l) (n + n - 1) := by
      rw [cls_end ok (by rw [hl]; exact h0) (j := N) (by rw [hl]; exact hN), cls_end ok (by rw [hl]; exact h0) (j := n + n - 1) (by rw [hl]; omega)]
    rw [e1]
    obtain ⟨a1, a2, a3⟩ := cls_least (k := n + n - 1) lu
    generalize ej : (cls (waysOf n l) (n + n - 1)).getD u 0 = j at a1 a2 a3 ⊢
    have key : ∀ v, v < n → (((Ks536.table ⟨n, l⟩ ⟨n, l⟩ (n + n - 1)).getD v []).getD u false = true ↔ (cls (waysOf n l) (n + n - 1)).getD v 0 = j) := fun v hv => by
      have := like_is h ok (n + n - 1) v u hv hu
      rw [ej] at this
      exact this
    have e : (List.range n).find? (fun v => ((Ks536.table ⟨n, l⟩ ⟨n, l⟩ (n + n - 1)).getD v []).getD u false) = some j := by
      rw [List.find?_range_eq_some]
      refine ⟨(key j (by omega)).mpr a2, List.mem_range.mpr (by omega), fun m hm => ?_⟩
      have := key m (by omega)
      cases c : ((Ks536.table ⟨n, l⟩ ⟨n, l⟩ (n + n - 1)).getD m []).getD u false with
      | false => rfl
      | true => exact absurd (this.mp c) (a3 m hm)
    rw [Option.map_some, e]
    rfl
  · rw [List.getElem?_eq_none (by simpa using hu), List.getElem?_eq_none (by rw [cls_len, hl]; exact hu)]
    rfl
end Nw
end
section
namespace Nw
open Ks536 (Net)
def dG (G : List Nat → List Nat) : Nat → List Nat → Nat → Option Nat
  | 0, l, v => if l.contains v then some 0 else none
  | f + 1, l, v => if l.contains v then some 0 else (dG G f (G l) v).map (· + 1)
def itG (G : List Nat → List Nat) : Nat → List Nat → List Nat
  | 0, l => l
  | k + 1, l => itG G k (G l)
theorem itG_succ (G : List Nat → List Nat) : ∀ (k : Nat) (l : List Nat), itG G (k + 1) l = G (itG G k l)
  | 0, _ => rfl
  | k + 1, l => itG_succ G k (G l)
theorem dG_some {G : List Nat → List Nat} : ∀ {f : Nat} {l : List Nat} {v d : Nat}, dG G f l v = some d ↔ d ≤ f ∧ v ∈ itG G d l ∧ ∀ e, e < d → v ∉ itG G e l
  | 0, l, v, d => by
    unfold dG
    constructor
    · intro h
      split at h
      · rename_i c
        cases h
        exact ⟨Nat.le_refl _, List.contains_iff_mem.mp c, fun e he => absurd he (Nat.not_lt_zero _)⟩
      · cases h
    · rintro ⟨h1, h2, _⟩
      have : d = 0 := by omega
      subst this
      rw [if_pos (by simpa [itG] using h2)]
  | f + 1, l, v, d => by
    unfold dG
    split
    · rename_i c
      have c : v ∈ l := by simpa using c
      constructor
      · intro h
        cases h
        exact ⟨Nat.zero_le _, c, fun e he => absurd he (Nat.not_lt_zero _)⟩
      · rintro ⟨_, _, h3⟩
        cases d with
        | zero => rfl
        | succ d => exact absurd c (h3 0 (by omega))
    · rename_i c
      have c : v ∉ l := by simpa using c
      rw [Option.map_eq_some_iff]
      constructor
      · rintro ⟨d', hd, rfl⟩
        obtain ⟨h1, h2, h3⟩ := dG_some.mp hd
        refine ⟨by omega, h2, fun e he => ?_⟩
        cases e with
        | zero => exact c
        | succ e => exact h3 e (by omega)
      · rintro ⟨h1, h2, h3⟩
        cases d with
        | zero => exact absurd h2 c
        | succ d => exact ⟨d, dG_some.mpr ⟨by omega, h2, fun e he => h3 (e + 1) (by omega)⟩, rfl⟩
theorem dG_none {G : List Nat → List Nat} {f : Nat} {l : List Nat} {v : Nat} (h : dG G f l v = none) : ∀ e, e ≤ f → v ∉ itG G e l := by
  intro e
  induction e using Nat.strongRecOn with
  | ind e ih =>
    intro he hv
    have : dG G f l v = some e := dG_some.mpr ⟨he, hv, fun e' h' => ih e' h' (by omega)⟩
    rw [h] at this
    cases this
/-- what one comes to by words of at most k letters -/
theorem itG_words {W : Ways} {S : List Nat} {s : Nat} (hs : s ∈ S) {G : List Nat → List Nat} (hG : ∀ L v, v ∈ G L ↔ v ∈ S ∧ (v ∈ L ∨ ∃ u ∈ L, ∃ q ∈ rowAt W u, q.1 = v)) : ∀ k v, v ∈ itG G k [s] ↔ ∃ w : List Nat, w.length ≤ k ∧ (∀ x ∈ w, x < mostW W + 1) ∧ run (goS W S) s w = v
  | 0, v => by
    constructor
    · intro h
      have : v = s := by simpa [itG] using h
      subst this
      exact ⟨[], Nat.le_refl _, (fun x hx => nomatch hx), rfl⟩
    · rintro ⟨w, hw, _, e⟩
      have : w = [] := List.length_eq_zero_iff.mp (by omega)
      subst this
      have e : s = v := e
      rw [← e]
      exact List.mem_cons_self
  | k + 1, v => by
    have ih := itG_words hs hG k
    rw [itG_succ, hG]
    constructor
    · rintro ⟨hv, h | ⟨u, hu, q, hq, rfl⟩⟩
      · obtain ⟨w, h1, h2⟩ := (ih v).mp h
        exact ⟨w, by omega, h2⟩
      · obtain ⟨w, h1, h2, rfl⟩ := (ih u).mp hu
        obtain ⟨e, he⟩ := List.mem_iff_getElem?.mp hq
        refine ⟨w ++ [e + 1], by simpa using h1, fun x hx => ?_, ?_⟩
        · rcases List.mem_append.mp hx with hx | hx
          · exact h2 x hx
          · simp only [List.mem_singleton] at hx
            subst hx
            have a := (List.getElem?_eq_some_iff.mp he).1
            have b := mostW_le W (run (goS W S) s w)
            omega
        · rw [run_snoc]
          show (if ledTo W (run (goS W S) s w) (e + 1) ∈ S then ledTo W (run (goS W S) s w) (e + 1) else run (goS W S) s w) = q.1
          rw [ledTo_in rfl he, if_pos hv]
    · rintro ⟨w, h1, h2, e⟩
      have inS : ∀ (w : List Nat) (a : Nat), a ∈ S → run (goS W S) a w ∈ S := by
        intro w
        induction w with
        | nil => exact fun a ha => ha
        | cons x w ih =>
          intro a ha
          refine ih _ ?_
          rcases goS_cases W S a x with c | ⟨c, _⟩
          · rw [c]; exact ha
          · exact c
      refine ⟨by rw [← e]; exact inS w s hs, ?_⟩
      rcases Nat.lt_or_ge k w.length with c | c
      · have hne : w ≠ [] := fun z => by subst z; simp at c
        obtain ⟨p, x, rfl⟩ : ∃ p x, w = p ++ [x] := ⟨w.dropLast, w.getLast hne, (List.dropLast_concat_getLast hne).symm⟩
        have hl : p.length ≤ k := by simpa using h1
        have hu := (ih _).mpr ⟨p, hl, fun y hy => h2 y (List.mem_append_left _ hy), rfl⟩
        rw [run_snoc] at e
        rcases goS_cases W S (run (goS W S) s p) x with c | ⟨_, q, hq, c⟩
        · rw [c] at e
          rw [← e]
          exact .inl hu
        · exact .inr ⟨_, hu, q, hq, by rw [c, e]⟩
      · exact .inl ((ih v).mpr ⟨w, c, h2, e⟩)
theorem far_lt {W : Ways} (ok : WOk W) {S : List Nat} {s v d : Nat} (hs : s < W.length) (hv : v < W.length) (h : (farW W S s).getD v none = some d) : d < W.length := by
  obtain ⟨⟨w, h1, h2, h3⟩, h4⟩ := (far_some ok hs hv (Nat.le_refl _)).mp h
  obtain ⟨r, hr, e1, e2⟩ := Q_best (goS W S) (mostW W + 1) s (Qfar_le ok hs (Nat.le_refl _) W.length) w h2
  obtain ⟨i, hi⟩ := List.mem_iff_getElem?.mp hr
  have a := Q_index (goS W S) (mostW W + 1) s _ _ _ hi
  have b := (List.getElem?_eq_some_iff.mp hi).1
  have c := Qfar_le ok (S := S) hs (Nat.le_refl _) W.length
  obtain ⟨r1, r2⟩ := Q_run (goS W S) (mostW W + 1) s _ r hr
  have := h4 r.2 r2 (by rw [r1, e1, h3])
  omega
theorem dG_far {W : Ways} (ok : WOk W) {S : List Nat} {s v : Nat} (hS : s ∈ S) (hs : s < W.length) (hv : v < W.length) {G : List Nat → List Nat} (hG : ∀ L v, v ∈ G L ↔ v ∈ S ∧ (v ∈ L ∨ ∃ u ∈ L, ∃ q ∈ rowAt W u, q.1 = v)) : dG G W.length [s] v = (farW W S s).getD v none := by
  have key := itG_words hS hG
  cases e : (farW W S s).getD v none with
  | some d =>
    have hd := far_lt ok hs hv e
    obtain ⟨⟨w, h1, h2, h3⟩, h4⟩ := (far_some ok hs hv (Nat.le_refl _)).mp e
    refine dG_some.mpr ⟨by omega, (key d v).mpr ⟨w, by omega, h2, h3⟩, fun k hk z => ?_⟩
    obtain ⟨w', a1, a2, a3⟩ := (key k v).mp z
    have := h4 w' a2 a3
    omega
  | none =>
    have hno := (far_none ok hs hv (Nat.le_refl _)).mp e
    cases c : dG G W.length [s] v with
    | none => rfl
    | some d =>
      obtain ⟨_, h2, _⟩ := dG_some.mp c
      obtain ⟨w, _, a2, a3⟩ := (key d v).mp h2
      exact absurd a3 (hno w a2)
/-- by the same places it's as far -/
theorem far_congr {W : Ways} (ok : WOk W) {S T : List Nat} {s v : Nat} (hs : s < W.length) (hv : v < W.length) (h : ∀ x, x ∈ S ↔ x ∈ T) : (farW W S s).getD v none = (farW W T s).getD v none := by
  have e : goS W S = goS W T := by
    funext u x
    unfold goS
    by_cases c : ledTo W u x ∈ S
    · rw [if_pos c, if_pos ((h _).mp c)]
    · rw [if_neg c, if_neg fun z => c ((h _).mpr z)]
  cases q : (farW W T s).getD v none with
  | none =>
    rw [far_none ok hs hv (Nat.le_refl _)] at q ⊢
    rw [e]
    exact q
  | some d =>
    rw [far_some ok hs hv (Nat.le_refl _)] at q ⊢
    rw [e]
    exact q
section
variable {n : Nat} {l : List (Nat × Nat)} (h : Ends n l) (ok : WOk (waysOf n l))
include h ok
theorem distance_is {u v : Nat} (hu : u < n) (hv : v < n) : Ks536.distance ⟨n, l⟩ u v = (farW (waysOf n l) (List.range (waysOf n l).length) u).getD v none := by
  have hl := waysOf_len n l
  rw [← dG_far ok (G := fun L => (List.range n).filter fun w => L.contains w || L.any fun u => (List.range (Ks536.degree ⟨n, l⟩ u)).any fun e => Ks536.go ⟨n, l⟩ u (e + 1) == w) (List.mem_range.mpr (by rw [hl]; exact hu)) (by rw [hl]; exact hu) (by rw [hl]; exact hv), hl]
  · unfold Ks536.distance
    have key : ∀ (f : Nat) (L : List Nat), Ks536.dist ⟨n, l⟩ f L v = dG (fun L => (List.range n).filter fun w => L.contains w || L.any fun u => (List.range (Ks536.degree ⟨n, l⟩ u)).any fun e => Ks536.go ⟨n, l⟩ u (e + 1) == w) f L v := by
      intro f
      induction f with
      | zero => exact fun L => rfl
      | succ f ih =>
        intro L
        unfold Ks536.dist dG
        rw [ih]
    exact key n [u]
  · intro L w
    rw [List.mem_filter, hl, Bool.or_eq_true, List.any_eq_true, List.contains_iff_mem]
    refine and_congr_right fun hw => or_congr_right ⟨?_, ?_⟩
    · rintro ⟨a, ha, hq⟩
      obtain ⟨e, he, hg⟩ := List.any_eq_true.mp hq
      have he := List.mem_range.mp he
      rw [degree_is h] at he
      have hr : (rowAt (waysOf n l) a)[e]? = some (rowAt (waysOf n l) a)[e] := List.getElem?_eq_getElem he
      refine ⟨a, ha, _, List.mem_of_getElem? hr, ?_⟩
      rw [go_is h, ledTo_in rfl hr, beq_iff_eq] at hg
      exact hg
    · rintro ⟨a, ha, q, hq, rfl⟩
      obtain ⟨e, he⟩ := List.mem_iff_getElem?.mp hq
      refine ⟨a, ha, List.any_eq_true.mpr ⟨e, List.mem_range.mpr ?_, ?_⟩⟩
      · rw [degree_is h]
        exact (List.getElem?_eq_some_iff.mp he).1
      · rw [go_is h, ledTo_in rfl he, beq_iff_eq]
theorem joined_is (h0 : 0 < n) : Ks536.joined ⟨n, l⟩ = true ↔ ∀ v, v < n → (farW (waysOf n l) (List.range (waysOf n l).length) 0).getD v none ≠ none := by
  unfold Ks536.joined
  show (List.range n).all _ = true ↔ _
  rw [List.all_eq_true]
  constructor
  · intro H v hv
    have := H v (List.mem_range.mpr hv)
    rw [distance_is h ok h0 hv] at this
    intro z
    rw [z] at this
    cases this
  · intro H v hv
    have hv := List.mem_range.mp hv
    rw [distance_is h ok h0 hv]
    exact Option.isSome_iff_ne_none.mpr (H v hv)
theorem near_sym (u v : Nat) : Ks538.near ⟨n, l⟩ u v = Ks538.near ⟨n, l⟩ v u := by
  unfold Ks538.near
  congr 1
  funext p
  rw [Bool.or_comm]
theorem way_is {S : List Nat} {u v : Nat} (hS : ∀ x ∈ S, x < n) (hu : u ∈ S) (hv : v < n) : Ks538.way ⟨n, l⟩ S u v = (farW (waysOf n l) S u).getD v none := by
  have hl := waysOf_len n l
  rw [← dG_far ok (G := fun L => S.filter fun w => L.contains w || L.any fun u => Ks538.near ⟨n, l⟩ u w) hu (by rw [hl]; exact hS u hu) (by rw [hl]; exact hv), hl]
  · unfold Ks538.way
    have key : ∀ (f : Nat) (L : List Nat), Ks538.distIn ⟨n, l⟩ S f L v = dG (fun L => S.filter fun w => L.contains w || L.any fun u => Ks538.near ⟨n, l⟩ u w) f L v := by
      intro f
      induction f with
      | zero => exact fun L => rfl
      | succ f ih =>
        intro L
        unfold Ks538.distIn dG
        rw [ih]
    exact key n [u]
  · intro L w
    rw [List.mem_filter, Bool.or_eq_true, List.any_eq_true, List.contains_iff_mem]
    refine and_congr_right fun hw => or_congr_right ⟨?_, ?_⟩
    · rintro ⟨a, ha, hq⟩
      rw [near_sym h ok, near_is h] at hq
      exact ⟨a, ha, hq⟩
    · rintro ⟨a, ha, hq⟩
      refine ⟨a, ha, ?_⟩
      rw [near_sym h ok, near_is h]
      exact hq
end
end Nw
end
section
namespace Nw
open Ks536 (Net)
abbrev Lt (m : Nat) (w : List Nat) : Prop := ∀ x ∈ w, x < m
/-- of the words of letters below m of which P holds the first -/
def IsFirst (m : Nat) (P : List Nat → Prop) : Option (List Nat) → Prop
  | some w => Lt m w ∧ P w ∧ ∀ v, Lt m v → P v → Se w v
  | none => ∀ v, Lt m v → ¬ P v
theorem IsFirst.uniq {m : Nat} {P : List Nat → Prop} : ∀ {a b : Option (List Nat)}, IsFirst m P a → IsFirst m P b → a = b
  | none, none, _, _ => rfl
  | none, some w, h, k => absurd k.2.1 (h w k.1)
  | some w, none, h, k => absurd h.2.1 (k w h.1)
  | some w, some v, h, k => by rw [(h.2.2 v k.1 k.2.1).anti (k.2.2 w h.1 h.2.1)]
theorem IsFirst.congr {m : Nat} {P R : List Nat → Prop} (e : ∀ w, Lt m w → (P w ↔ R w)) : ∀ {a : Option (List Nat)}, IsFirst m P a → IsFirst m R a
  | none, h => fun v hv z => h v hv ((e v hv).mpr z)
  | some w, h => ⟨h.1, (e w h.1).mp h.2.1, fun v hv z => h.2.2 v hv ((e v hv).mpr z)⟩
section
variable {S : Type} [DecidableEq S] (go : S → Nat → S) (m : Nat) (s0 : S)
def QF (isE : S → Bool) (N : Nat) : Option (List Nat) := ((Q go m s0 N).find? fun r => isE r.1).map (·.2)
theorem QF_first {isE : S → Bool} {N : Nat} (hc : (Q go m s0 N).length ≤ N) : IsFirst m (fun w => isE (run go s0 w) = true) (QF go m s0 isE N) := by
  unfold QF
  cases e : (Q go m s0 N).find? fun r => isE r.1 with
  | none =>
    intro v hv z
    have := Q_nowhere go m s0 hc e v hv
    rw [this] at z
    cases z
  | some r =>
    obtain ⟨h1, h2, h3⟩ := Q_least go m s0 hc e
    exact ⟨h2, h1, h3⟩
/-- all of a list gone on from -/
theorem Q_fold (j : Nat) : ∀ i, i ≤ (Q go m s0 j).length → ((Q go m s0 j).take i).foldl (proc go m) (Q go m s0 j) = Q go m s0 (max i j)
  | 0, _ => by
    rw [List.take_zero, Nat.zero_max]
    rfl
  | i + 1, hi => by
    have hp : (Q go m s0 j)[i]? = some ((Q go m s0 j)[i]'(by omega)) := List.getElem?_eq_getElem _
    generalize (Q go m s0 j)[i]'(by omega) = p at hp
    rw [take_more hp, List.foldl_append, Q_fold j i (by omega)]
    show proc go m (Q go m s0 (max i j)) p = _
    rcases Nat.lt_or_ge i j with c | c
    · rw [Nat.max_eq_right (by omega), Nat.max_eq_right (by omega)]
      exact procTo_old go p _ m fun y hy => Q_closed go m s0 c hp hy
    · rw [Nat.max_eq_left c, Nat.max_eq_left (by omega)]
      exact (Q_some go m s0 (Q_get go m s0 c hp)).symm
theorem Q_fold_all {j : Nat} (h : j ≤ (Q go m s0 j).length) : (Q go m s0 j).foldl (proc go m) (Q go m s0 j) = Q go m s0 (Q go m s0 j).length := by
  have := Q_fold go m s0 j _ (Nat.le_refl _)
  rw [List.take_length, Nat.max_eq_left h] at this
  exact this
theorem Q_fold_rest {j : Nat} (h : j ≤ (Q go m s0 j).length) : ((Q go m s0 j).drop j).foldl (proc go m) (Q go m s0 j) = Q go m s0 (Q go m s0 j).length := by
  have h1 := Q_fold_all go m s0 h
  have h2 := Q_fold go m s0 j j h
  rw [Nat.max_self] at h2
  rw [← List.take_append_drop j (Q go m s0 j), List.foldl_append] at h1
  rw [List.take_append_drop] at h1
  rw [h2] at h1
  exact h1
theorem Q_same {i j : Nat} (hi : (Q go m s0 i).length ≤ i) (hj : (Q go m s0 j).length ≤ j) : Q go m s0 i = Q go m s0 j := by
  rcases Nat.le_total i j with c | c
  · exact (Q_stop go m s0 hi c).symm
  · exact Q_stop go m s0 hj c
theorem Q_into {i N : Nat} (hN : (Q go m s0 N).length ≤ N) : Q go m s0 i <+: Q go m s0 N := by
  rcases Nat.le_total i N with c | c
  · exact Q_mono go m s0 c
  · rw [Q_stop go m s0 hN c]
    exact List.prefix_refl _
/-- the new ones are a letter behind the old ones -/
theorem fold_mem : ∀ (ps : List (It S)) (l : List (It S)) (r : It S), r ∈ ps.foldl (proc go m) l → r ∈ l ∨ ∃ p ∈ ps, ∃ y, r.2 = p.2 ++ [y]
  | [], l, r, h => .inl h
  | p :: ps, l, r, h => by
    rw [List.foldl_cons] at h
    rcases fold_mem ps _ r h with h | ⟨q, hq, y, e⟩
    · rcases procTo_mem go p l h with h | ⟨y, _, e⟩
      · exact .inl h
      · exact .inr ⟨p, List.mem_cons_self, y, by rw [e]⟩
    · exact .inr ⟨q, List.mem_cons_of_mem _ hq, y, e⟩
/-- a search by levels, an end looked for in each -/
structure Lev (growL : List (It S) → List S → List (It S) × List S) (srch : Nat → List (It S) → List S → Option (List Nat)) (isE : S → Bool) : Prop where
  grow : ∀ (L : List (It S)) (i : Nat), i ≤ L.length → L ++ (growL (L.drop i) (L.map (·.1))).1 = (L.drop i).foldl (proc go m) L ∧ (growL (L.drop i) (L.map (·.1))).2 = ((L.drop i).foldl (proc go m) L).map (·.1)
  zero : ∀ l s, srch 0 l s = none
  succ : ∀ f l s, srch (f + 1) l s = match l.find? fun p => isE p.1 with
    | some p => some p.2
    | none => if l.isEmpty then none else srch f (growL l s).1 (growL l s).2
theorem lev_is {growL : List (It S) → List S → List (It S) × List S} {srch : Nat → List (It S) → List S → Option (List Nat)} {isE : S → Bool} (V : Lev go m growL srch isE) {N : Nat} (hN : (Q go m s0 N).length ≤ N) :
    ∀ (f i k : Nat), i ≤ (Q go m s0 i).length → (∀ r ∈ (Q go m s0 i).take i, isE r.1 = false) → (∀ r ∈ (Q go m s0 i).drop i, k ≤ r.2.length) → (∀ w, QF go m s0 isE N = some w → w.length < k + f) → srch f ((Q go m s0 i).drop i) ((Q go m s0 i).map (·.1)) = QF go m s0 isE N
  | 0, i, k, hi, hno, hk, hw => by
    rw [V.zero]
    cases e : QF go m s0 isE N with
    | none => rfl
    | some w =>
      exfalso
      have hl := hw w e
      unfold QF at e
      obtain ⟨r, hr, rfl⟩ := Option.map_eq_some_iff.mp e
      have hE : isE r.1 = true := List.find?_some (p := fun r : It S => isE r.1) hr
      obtain ⟨a, ha⟩ := List.mem_iff_getElem?.mp (List.mem_of_find?_eq_some hr)
      rcases Nat.lt_or_ge a i with c | c
      · -- among the first
        have h1 : (Q go m s0 i)[a]? = some ((Q go m s0 i)[a]'(by omega)) := List.getElem?_eq_getElem _
        have h2 : (Q go m s0 N)[a]? = some ((Q go m s0 i)[a]'(by omega)) := by
          obtain ⟨t, et⟩ := Q_into go m s0 (i := i) hN
          rw [← et, List.getElem?_append_left (by omega)]
          exact h1
        rw [ha] at h2
        have e2 := Option.some.inj h2
        have := hno r (by rw [e2]; exact List.mem_of_getElem? (i := a) (by rw [List.getElem?_take_of_lt c]; exact h1))
        rw [hE] at this
        cases this
      · -- later: no shorter
        rcases Nat.lt_or_ge i (Q go m s0 i).length with c2 | c2
        · have h1 : (Q go m s0 i)[i]? = some (Q go m s0 i)[i] := List.getElem?_eq_getElem c2
          have h2 : (Q go m s0 N)[i]? = some (Q go m s0 i)[i] := by
            obtain ⟨t, et⟩ := Q_into go m s0 (i := i) hN
            rw [← et, List.getElem?_append_left c2]
            exact h1
          have h3 := hk _ (List.mem_of_getElem? (i := 0) (by rw [List.getElem?_drop, Nat.add_zero]; exact h1))
          rcases Nat.lt_or_ge i a with c3 | c3
          · have := (Q_sorted go m s0 N c3 h2 ha).len
            omega
          · have : a = i := by omega
            subst this
            rw [ha] at h2
            rw [Option.some.inj h2] at hl
            omega
        · have h1 : (Q go m s0 i).length ≤ i := c2
          rw [← Q_same go m s0 h1 hN] at ha
          have := (List.getElem?_eq_some_iff.mp ha).1
          omega
  | f + 1, i, k, hi, hno, hk, hw => by
    rw [V.succ]
    cases e : ((Q go m s0 i).drop i).find? fun p => isE p.1 with
    | some p =>
      have e2 : (Q go m s0 i).find? (fun p => isE p.1) = some p := by
        rw [← List.take_append_drop i (Q go m s0 i), List.find?_append, List.find?_eq_none.mpr (fun r hr => by rw [hno r hr]; exact Bool.false_ne_true), e]
        rfl
      obtain ⟨t, et⟩ := Q_into go m s0 (i := i) hN
      have e3 : (Q go m s0 N).find? (fun p => isE p.1) = some p := by
        rw [← et, List.find?_append, e2]
        rfl
      unfold QF
      rw [e3]
      rfl
    | none =>
      have hno2 : ∀ r ∈ Q go m s0 i, isE r.1 = false := fun r hr => by
        rw [← List.take_append_drop i (Q go m s0 i)] at hr
        rcases List.mem_append.mp hr with hr | hr
        · exact hno r hr
        · have := List.find?_eq_none.mp e r hr
          simpa using this
      show (if ((Q go m s0 i).drop i).isEmpty = true then none else _) = _
      by_cases c : (Q go m s0 i).length ≤ i
      · rw [if_pos (by rw [List.isEmpty_iff, List.drop_eq_nil_iff]; exact c)]
        unfold QF
        rw [← Q_same go m s0 c hN, List.find?_eq_none.mpr fun r hr => by rw [hno2 r hr]; exact Bool.false_ne_true]
        rfl
      · rw [if_neg (by rw [List.isEmpty_iff, List.drop_eq_nil_iff]; exact c)]
        obtain ⟨g1, g2⟩ := V.grow (Q go m s0 i) i hi
        have g3 := Q_fold_rest go m s0 hi
        rw [g3] at g1 g2
        have hd : (growL ((Q go m s0 i).drop i) ((Q go m s0 i).map (·.1))).1 = (Q go m s0 (Q go m s0 i).length).drop (Q go m s0 i).length := by
          rw [← g1, List.drop_left]
        rw [hd, g2]
        refine lev_is V hN f (Q go m s0 i).length (k + 1) ?_ (fun r hr => ?_) (fun r hr => ?_) fun w hw2 => by have := hw w hw2; omega
        · rw [← g1, List.length_append]
          omega
        · rw [← g1, List.take_left] at hr
          exact hno2 r hr
        · have hin : r ∈ ((Q go m s0 i).drop i).foldl (proc go m) (Q go m s0 i) := by
            rw [g3]
            exact List.mem_of_mem_drop hr
          rcases fold_mem go m _ _ r hin with h | ⟨p, hp, y, e⟩
          · -- an old one again: it would stand twice
            exfalso
            obtain ⟨a, ha⟩ := List.mem_iff_getElem?.mp h
            have hal := (List.getElem?_eq_some_iff.mp ha).1
            obtain ⟨b, hb⟩ := List.mem_iff_getElem?.mp hr
            rw [List.getElem?_drop] at hb
            have ha2 : (Q go m s0 (Q go m s0 i).length)[a]? = some r := by
              rw [← g1, List.getElem?_append_left hal]
              exact ha
            have n1 : ((Q go m s0 (Q go m s0 i).length).map (·.1))[a]? = some r.1 := by rw [List.getElem?_map, ha2]; rfl
            have n2 : ((Q go m s0 (Q go m s0 i).length).map (·.1))[(Q go m s0 i).length + b]? = some r.1 := by rw [List.getElem?_map, hb]; rfl
            have := (List.getElem?_inj (List.getElem?_eq_some_iff.mp n1).1 (Q_nodup go m s0 _)).mp (n1.trans n2.symm)
            omega
          · rw [e, List.length_append, List.length_singleton]
            have := hk p hp
            omega
end
end Nw
end
section
namespace Nw
open Ks536 (Net)
section
variable {t : Net} {n : Nat}
def goPr (t : Net) (p : Nat × Nat) (x : Nat) : Nat × Nat := (Ks536.go t p.1 x, Ks536.go t p.2 x)
abbrev runG (t : Net) (u : Nat) (w : List Nat) : Nat := run (Ks536.go t) u w
theorem runPr (t : Net) : ∀ (w : List Nat) (u v : Nat), run (goPr t) (u, v) w = (runG t u w, runG t v w)
  | [], _, _ => rfl
  | x :: w, u, v => runPr t w (Ks536.go t u x) (Ks536.go t v x)
theorem any_beq {S : Type} [DecidableEq S] [b : BEq S] [LawfulBEq S] (l : List (It S)) (q : S) : (l.any fun r => r.1 == q) = (l.any fun r => @BEq.beq S instBEqOfDecidableEq r.1 q) := by
  congr 1
  funext r
  by_cases c : r.1 = q
  · rw [beq_iff_eq.mpr c]
    symm
    simpa using c
  · have : (r.1 == q) = false := by simpa using c
    rw [this]
    symm
    simpa using c
theorem spread_is (t : Net) (old : List (It (Nat × Nat))) : Ks537.spread t old = old.foldl (proc (goPr t) (Ks537.letters t)) old := by
  unfold Ks537.spread
  congr 1
  funext l p
  show _ = (List.range (Ks537.letters t)).foldl (fun l x => add l (goPr t p.1 x, p.2 ++ [x])) l
  congr 1
  funext l x
  show (if (l.any fun r => r.1 == (Ks536.go t p.1.1 x, Ks536.go t p.1.2 x)) = true then l else l ++ [((Ks536.go t p.1.1 x, Ks536.go t p.1.2 x), p.2 ++ [x])]) = _
  rw [any_beq]
  rfl
theorem pairs_is (t : Net) (u v : Nat) : ∀ k, ∃ j, Ks537.pairs t u v k = Q (goPr t) (Ks537.letters t) (u, v) j ∧ j ≤ (Q (goPr t) (Ks537.letters t) (u, v) j).length ∧ (k ≤ j ∨ (Q (goPr t) (Ks537.letters t) (u, v) j).length ≤ j)
  | 0 => ⟨0, rfl, Nat.zero_le _, .inl (Nat.le_refl _)⟩
  | k + 1 => by
    obtain ⟨j, e, h1, h2⟩ := pairs_is t u v k
    have e2 : Ks537.pairs t u v (k + 1) = Q (goPr t) (Ks537.letters t) (u, v) (Q (goPr t) (Ks537.letters t) (u, v) j).length := by
      show Ks537.spread t (Ks537.pairs t u v k) = _
      rw [e, spread_is, Q_fold_all _ _ _ h1]
    rcases Nat.lt_or_ge j (Q (goPr t) (Ks537.letters t) (u, v) j).length with c | c
    · refine ⟨_, e2, (Q_mono _ _ _ h1).length_le, .inl ?_⟩
      rcases h2 with h2 | h2 <;> omega
    · have : (Q (goPr t) (Ks537.letters t) (u, v) j).length = j := by omega
      rw [this] at e2
      exact ⟨j, e2, h1, .inr c⟩
def allPr (n : Nat) : List (Nat × Nat) := (List.range n).flatMap fun a => (List.range n).map fun b => (a, b)
theorem allPr_len (n : Nat) : (allPr n).length = n * n := by
  unfold allPr
  rw [List.length_flatMap]
  simp [List.map_const', List.sum_replicate_nat]
theorem allPr_mem {n a b : Nat} (ha : a < n) (hb : b < n) : (a, b) ∈ allPr n := List.mem_flatMap.mpr ⟨a, List.mem_range.mpr ha, List.mem_map.mpr ⟨b, List.mem_range.mpr hb, rfl⟩⟩
theorem allPr_lt {n : Nat} {p : Nat × Nat} (h : p ∈ allPr n) : p.1 < n ∧ p.2 < n := by
  obtain ⟨a, ha, h⟩ := List.mem_flatMap.mp h
  obtain ⟨b, hb, rfl⟩ := List.mem_map.mp h
  exact ⟨List.mem_range.mp ha, List.mem_range.mp hb⟩
theorem few_pr (hg : ∀ u x, u < n → Ks536.go t u x < n) {u v m : Nat} (hu : u < n) (hv : v < n) (j : Nat) : (Q (goPr t) m (u, v) j).length ≤ n * n := by
  have := Q_le (goPr t) m (u, v) (u := allPr n) (allPr_mem hu hv) (fun s x hs _ => allPr_mem (hg _ _ (allPr_lt hs).1) (hg _ _ (allPr_lt hs).2)) j
  rw [allPr_len] at this
  exact this
theorem fold_min {α : Type} (far len : α → Nat) : ∀ (rest as bs : List α) (b : α), (∀ a ∈ as, far b < far a) → (∀ c ∈ bs, far b ≤ far c) → (b :: rest).Pairwise (fun x y => len x ≤ len y) →
    ∃ as' b' bs', as' ++ b' :: bs' = as ++ b :: bs ++ rest ∧ (∀ a ∈ as', far b' < far a) ∧ (∀ c ∈ bs', far b' ≤ far c) ∧ rest.foldl (fun b r => if far r < far b ∨ (far r = far b ∧ len r < len b) then r else b) b = b'
  | [], as, bs, b, h1, h2, _ => ⟨as, b, bs, by rw [List.append_nil], h1, h2, rfl⟩
  | r :: rest, as, bs, b, h1, h2, hp => by
    rw [List.pairwise_cons] at hp
    have hbr := hp.1 r List.mem_cons_self
    rw [List.foldl_cons]
    by_cases c : far r < far b
    · rw [if_pos (.inl c)]
      have key : ∀ a ∈ as ++ b :: bs, far r < far a := fun a ha => by
        rcases List.mem_append.mp ha with ha | ha
        · have := h1 a ha
          omega
        · rcases List.mem_cons.mp ha with ha | ha
          · rw [ha]; exact c
          · have := h2 a ha
            omega
      obtain ⟨as', b', bs', e, k1, k2, k3⟩ := fold_min far len rest (as ++ b :: bs) [] r key ((fun c hc => nomatch hc)) hp.2
      exact ⟨as', b', bs', by rw [e]; simp, k1, k2, k3⟩
    · rw [if_neg (fun z => by rcases z with z | ⟨_, z⟩ <;> omega)]
      have key : ∀ c ∈ bs ++ [r], far b ≤ far c := fun a ha => by
        rcases List.mem_append.mp ha with ha | ha
        · exact h2 a ha
        · simp only [List.mem_singleton] at ha
          subst ha
          omega
      have key2 : (b :: rest).Pairwise (fun x y => len x ≤ len y) := by
        rw [List.pairwise_cons]
        exact ⟨fun y hy => hp.1 y (List.mem_cons_of_mem _ hy), (List.pairwise_cons.mp hp.2).2⟩
      obtain ⟨as', b', bs', e, k1, k2, k3⟩ := fold_min far len rest as (bs ++ [r]) b h1 key key2
      exact ⟨as', b', bs', by rw [e]; simp, k1, k2, k3⟩
/-- how near they come, and the first word -/
theorem shrink_is (hn : t.n = n) (hg : ∀ u x, u < n → Ks536.go t u x < n) {u v : Nat} (hu : u < n) (hv : v < n) :
    IsFirst (Ks537.letters t) (fun w => Ks537.far t (runG t u w, runG t v w) = (Ks537.shrink t u v).1) (some (Ks537.shrink t u v).2) ∧ ∀ w, Lt (Ks537.letters t) w → (Ks537.shrink t u v).1 ≤ Ks537.far t (runG t u w, runG t v w) := by
  obtain ⟨j, e, h1, h2⟩ := pairs_is t u v (n * n)
  have hc := few_pr hg (m := Ks537.letters t) hu hv j
  have hj : (Q (goPr t) (Ks537.letters t) (u, v) j).length ≤ j := by
    rcases h2 with h2 | h2 <;> omega
  have hs : Ks537.shrink t u v = match Ks537.pairs t u v (n * n) with
      | [] => (Ks537.far t (u, v), [])
      | p :: l => (l.foldl (fun b r => if Ks537.far t r.1 < Ks537.far t b.1 ∨ (Ks537.far t r.1 = Ks537.far t b.1 ∧ r.2.length < b.2.length) then r else b) p) |> fun r => (Ks537.far t r.1, r.2) := by
    rw [← hn]
    rfl
  rw [e] at hs
  have hsort : (Q (goPr t) (Ks537.letters t) (u, v) j).Pairwise fun x y => x.2.length ≤ y.2.length := by
    have := (Q_rise (goPr t) (Ks537.letters t) (u, v) j).1
    rw [List.pairwise_map] at this
    exact this.imp fun h => h.len
  have hpos := Q_pos (goPr t) (Ks537.letters t) (u, v) j
  have hb := Q_best (goPr t) (Ks537.letters t) (u, v) hj
  have hr := Q_run (goPr t) (Ks537.letters t) (u, v) j
  have hso := fun (a b : Nat) (p q : It (Nat × Nat)) => Q_sorted (goPr t) (Ks537.letters t) (u, v) j (a := a) (b := b) (p := p) (q := q)
  generalize Q (goPr t) (Ks537.letters t) (u, v) j = L at hs hsort hpos hb hr hso
  cases L with
  | nil => simp at hpos
  | cons p l =>
    obtain ⟨as, b, bs, eL, k1, k2, k3⟩ := fold_min (fun r : It (Nat × Nat) => Ks537.far t r.1) (fun r => r.2.length) l [] [] p ((fun a ha => nomatch ha)) ((fun a ha => nomatch ha)) hsort
    have eL : as ++ b :: bs = p :: l := eL
    have hs : Ks537.shrink t u v = (Ks537.far t b.1, b.2) := by
      rw [hs, ← k3]
    rw [hs]
    have hbm : b ∈ p :: l := by
      rw [← eL]
      exact List.mem_append_right _ List.mem_cons_self
    obtain ⟨b1, b2⟩ := hr b hbm
    rw [runPr] at b1
    have least : ∀ r ∈ p :: l, Ks537.far t b.1 ≤ Ks537.far t r.1 := fun r hr => by
      rw [← eL] at hr
      rcases List.mem_append.mp hr with hr | hr
      · exact Nat.le_of_lt (k1 r hr)
      · rcases List.mem_cons.mp hr with hr | hr
        · rw [hr]; exact Nat.le_refl _
        · exact k2 r hr
    refine ⟨⟨b2, ?_, fun w hw hP => ?_⟩, fun w hw => ?_⟩
    · show Ks537.far t (runG t u b.2, runG t v b.2) = Ks537.far t b.1
      rw [b1]
    · obtain ⟨r, hrm, r1, r2⟩ := hb w hw
      rw [runPr] at r1
      have hf : Ks537.far t r.1 = Ks537.far t b.1 := by rw [r1]; exact hP
      refine Se.trans ?_ r2
      rw [← eL] at hrm
      rcases List.mem_append.mp hrm with h | h
      · have := k1 r h
        omega
      · rcases List.mem_cons.mp h with h | h
        · rw [h]; exact .inl rfl
        · obtain ⟨i, hi⟩ := List.mem_iff_getElem?.mp h
          refine .inr (hso as.length (as.length + 1 + i) b r (by omega) ?_ ?_)
          · rw [← eL]
            simp
          · rw [← eL, List.getElem?_append_right (by omega)]
            have : as.length + 1 + i - as.length = i + 1 := by omega
            rw [this, List.getElem?_cons_succ]
            exact hi
    · obtain ⟨r, hrm, r1, _⟩ := hb w hw
      rw [runPr] at r1
      rw [← r1]
      exact least r hrm
theorem run_take_succ {w : List Nat} {u j x : Nat} (h : w[j]? = some x) : runG t u (w.take (j + 1)) = Ks536.go t (runG t u (w.take j)) x := by
  rw [take_more h]
  exact run_snoc _ _ _ _
theorem runSt (t : Net) (d u v : Nat) (w : List Nat) : run (Ks537.step t d) ⟨u, v, []⟩ w = ⟨runG t u w, runG t v (w.take (w.length - d)), w.drop (w.length - d)⟩ := by
  refine snoc_ind (P := fun w => run (Ks537.step t d) ⟨u, v, []⟩ w = ⟨runG t u w, runG t v (w.take (w.length - d)), w.drop (w.length - d)⟩) ?_ (fun w x ih => ?_) w
  · simp [run, runG]
  · rw [run_snoc, ih]
    have hlen : (w ++ [x]).length = w.length + 1 := by simp
    have e0 : runG t u (w ++ [x]) = Ks536.go t (runG t u w) x := run_snoc _ _ _ _
    unfold Ks537.step
    have hq : (w.drop (w.length - d) ++ [x]).length = min w.length d + 1 := by
      rw [List.length_append, List.length_drop, List.length_singleton]
      omega
    show (if (w.drop (w.length - d) ++ [x]).length ≤ d then ({ a := Ks536.go t (runG t u w) x, b := runG t v (w.take (w.length - d)), due := w.drop (w.length - d) ++ [x] } : Ks537.Stand) else { a := Ks536.go t (runG t u w) x, b := Ks536.go t (runG t v (w.take (w.length - d))) ((w.drop (w.length - d) ++ [x]).headD 0), due := (w.drop (w.length - d) ++ [x]).tail }) = _
    rw [hlen, e0, hq]
    by_cases c : w.length + 1 ≤ d
    · rw [if_pos (by omega), show w.length - d = 0 by omega, show w.length + 1 - d = 0 by omega]
      simp
    · rw [if_neg (by omega)]
      have hd : w.drop (w.length - d) ++ [x] = (w ++ [x]).drop (w.length - d) := by rw [List.drop_append_of_le_length (by omega)]
      have hj : w.length - d < (w ++ [x]).length := by omega
      have hx : (w ++ [x])[w.length - d]? = some (w ++ [x])[w.length - d] := List.getElem?_eq_getElem hj
      have ht : w.take (w.length - d) = (w ++ [x]).take (w.length - d) := by rw [List.take_append_of_le_length (by omega)]
      rw [hd, show w.length + 1 - d = w.length - d + 1 by omega, ht, run_take_succ hx, List.tail_drop]
      have hh : ((w ++ [x]).drop (w.length - d)).headD 0 = (w ++ [x])[w.length - d] := by
        rw [List.headD_eq_head?_getD, List.head?_drop, hx]
        rfl
      rw [hh]
def wordsLe (m : Nat) : Nat → List (List Nat)
  | 0 => [[]]
  | d + 1 => [] :: (List.range m).flatMap fun x => (wordsLe m d).map (x :: ·)
theorem wordsLe_mem {m : Nat} : ∀ {d : Nat} {l : List Nat}, l ∈ wordsLe m d ↔ l.length ≤ d ∧ Lt m l
  | 0, l => by
    constructor
    · intro h
      have : l = [] := by simpa [wordsLe] using h
      subst this
      exact ⟨Nat.le_refl _, (fun x hx => nomatch hx)⟩
    · rintro ⟨h, _⟩
      have : l = [] := List.length_eq_zero_iff.mp (by omega)
      subst this
      simp [wordsLe]
  | d + 1, l => by
    unfold wordsLe
    constructor
    · intro h
      rcases List.mem_cons.mp h with h | h
      · subst h
        exact ⟨Nat.zero_le _, (fun x hx => nomatch hx)⟩
      · obtain ⟨x, hx, h⟩ := List.mem_flatMap.mp h
        obtain ⟨r, hr, rfl⟩ := List.mem_map.mp h
        obtain ⟨h1, h2⟩ := wordsLe_mem.mp hr
        refine ⟨by simpa using h1, fun y hy => ?_⟩
        rcases List.mem_cons.mp hy with e | hy
        · rw [e]; exact List.mem_range.mp hx
        · exact h2 y hy
    · rintro ⟨h1, h2⟩
      cases l with
      | nil => exact List.mem_cons_self
      | cons x l =>
        refine List.mem_cons_of_mem _ (List.mem_flatMap.mpr ⟨x, List.mem_range.mpr (h2 x List.mem_cons_self), List.mem_map.mpr ⟨l, wordsLe_mem.mpr ⟨by simpa using h1, fun y hy => h2 y (List.mem_cons_of_mem _ hy)⟩, rfl⟩⟩)
def allSt (n m d : Nat) : List Ks537.Stand := (allPr n).flatMap fun p => (wordsLe m d).map fun l => ⟨p.1, p.2, l⟩
theorem allSt_mem {n m d : Nat} {s : Ks537.Stand} : s ∈ allSt n m d ↔ s.a < n ∧ s.b < n ∧ s.due.length ≤ d ∧ Lt m s.due := by
  unfold allSt
  constructor
  · intro h
    obtain ⟨p, hp, h⟩ := List.mem_flatMap.mp h
    obtain ⟨l, hl, rfl⟩ := List.mem_map.mp h
    exact ⟨(allPr_lt hp).1, (allPr_lt hp).2, (wordsLe_mem.mp hl).1, (wordsLe_mem.mp hl).2⟩
  · rintro ⟨h1, h2, h3, h4⟩
    exact List.mem_flatMap.mpr ⟨(s.a, s.b), allPr_mem h1 h2, List.mem_map.mpr ⟨s.due, wordsLe_mem.mpr ⟨h3, h4⟩, rfl⟩⟩
theorem step_in (hg : ∀ u x, u < n → Ks536.go t u x < n) {m d : Nat} {s : Ks537.Stand} {x : Nat} (hs : s ∈ allSt n m d) (hx : x < m) : Ks537.step t d s x ∈ allSt n m d := by
  obtain ⟨h1, h2, h3, h4⟩ := allSt_mem.mp hs
  have hq : Lt m (s.due ++ [x]) := fun y hy => by
    rcases List.mem_append.mp hy with hy | hy
    · exact h4 y hy
    · simp only [List.mem_singleton] at hy
      rw [hy]; exact hx
  unfold Ks537.step
  show (if (s.due ++ [x]).length ≤ d then ({ a := Ks536.go t s.a x, b := s.b, due := s.due ++ [x] } : Ks537.Stand) else { a := Ks536.go t s.a x, b := Ks536.go t s.b ((s.due ++ [x]).headD 0), due := (s.due ++ [x]).tail }) ∈ _
  split
  · rename_i c
    exact allSt_mem.mpr ⟨hg _ _ h1, h2, c, hq⟩
  · refine allSt_mem.mpr ⟨hg _ _ h1, hg _ _ h2, ?_, fun y hy => hq y (List.mem_of_mem_tail hy)⟩
    rw [List.length_tail, List.length_append, List.length_singleton]
    omega
theorem contains_map {S : Type} [DecidableEq S] (A : List (It S)) (s : S) : (A.map (·.1)).contains s = A.any fun r => r.1 == s := by
  rw [Bool.eq_iff_iff, List.contains_iff_mem, List.mem_map, List.any_eq_true]
  constructor
  · rintro ⟨r, hr, e⟩
    exact ⟨r, hr, by simpa using e⟩
  · rintro ⟨r, hr, e⟩
    exact ⟨r, hr, by simpa using e⟩
theorem grow_lev (t : Net) (d : Nat) : Lev (Ks537.step t d) (Ks537.letters t) (Ks537.grow t d) (Ks537.search t d) (fun s => s.a == s.b) where
  grow L i hi := by
    have inner : ∀ (xs : List Nat) (p : It Ks537.Stand) (A : List (It Ks537.Stand)) (r : List (It Ks537.Stand) × List Ks537.Stand), L ++ r.1 = A → r.2 = A.map (·.1) →
        L ++ (xs.foldl (fun r x => let s := Ks537.step t d p.1 x
          if r.2.contains s then r else (r.1 ++ [(s, p.2 ++ [x])], r.2 ++ [s])) r).1 = xs.foldl (fun l x => add l (Ks537.step t d p.1 x, p.2 ++ [x])) A ∧
        (xs.foldl (fun r x => let s := Ks537.step t d p.1 x
          if r.2.contains s then r else (r.1 ++ [(s, p.2 ++ [x])], r.2 ++ [s])) r).2 = (xs.foldl (fun l x => add l (Ks537.step t d p.1 x, p.2 ++ [x])) A).map (·.1) := by
      intro xs p
      induction xs with
      | nil => exact fun A r h1 h2 => ⟨h1, h2⟩
      | cons x xs ih =>
        intro A r h1 h2
        rw [List.foldl_cons, List.foldl_cons]
        have key : ((let s := Ks537.step t d p.1 x; if r.2.contains s then r else (r.1 ++ [(s, p.2 ++ [x])], r.2 ++ [s])) : List (It Ks537.Stand) × List Ks537.Stand) = if (A.any fun r => r.1 == Ks537.step t d p.1 x) = true then r else (r.1 ++ [(Ks537.step t d p.1 x, p.2 ++ [x])], r.2 ++ [Ks537.step t d p.1 x]) := by
          show (if r.2.contains (Ks537.step t d p.1 x) = true then r else _) = _
          rw [h2, contains_map]
        rw [key]
        have key2 : add A (Ks537.step t d p.1 x, p.2 ++ [x]) = if (A.any fun r => r.1 == Ks537.step t d p.1 x) = true then A else A ++ [(Ks537.step t d p.1 x, p.2 ++ [x])] := rfl
        rw [key2]
        split
        · exact ih A r h1 h2
        · refine ih _ _ ?_ ?_
          · show L ++ (r.1 ++ _) = _
            rw [← List.append_assoc, h1]
          · show r.2 ++ _ = _
            rw [h2, List.map_append]
            rfl
    have outer : ∀ (ps : List (It Ks537.Stand)) (A : List (It Ks537.Stand)) (r : List (It Ks537.Stand) × List Ks537.Stand), L ++ r.1 = A → r.2 = A.map (·.1) →
        L ++ (ps.foldl (fun r p => (List.range (Ks537.letters t)).foldl (fun r x => let s := Ks537.step t d p.1 x
          if r.2.contains s then r else (r.1 ++ [(s, p.2 ++ [x])], r.2 ++ [s])) r) r).1 = ps.foldl (proc (Ks537.step t d) (Ks537.letters t)) A ∧
        (ps.foldl (fun r p => (List.range (Ks537.letters t)).foldl (fun r x => let s := Ks537.step t d p.1 x
          if r.2.contains s then r else (r.1 ++ [(s, p.2 ++ [x])], r.2 ++ [s])) r) r).2 = (ps.foldl (proc (Ks537.step t d) (Ks537.letters t)) A).map (·.1) := by
      intro ps
      induction ps with
      | nil => exact fun A r h1 h2 => ⟨h1, h2⟩
      | cons p ps ih =>
        intro A r h1 h2
        rw [List.foldl_cons, List.foldl_cons]
        obtain ⟨k1, k2⟩ := inner (List.range (Ks537.letters t)) p A r h1 h2
        exact ih _ _ k1 k2
    exact outer (L.drop i) L ([], L.map (·.1)) (List.append_nil _) rfl
  zero l s := rfl
  succ f l s := by
    cases e : l.find? fun p => p.1.a == p.1.b with
    | none =>
      simp only [Ks537.search, e]
    | some p => simp only [Ks537.search, e]
theorem found_is (hn : t.n = n) (hg : ∀ u x, u < n → Ks536.go t u x < n) (h7 : n ≤ 7) {u v d : Nat} (hu : u < n) (hv : v < n) (hd : d ≤ 2) :
    IsFirst (Ks537.letters t) (fun w => runG t u w = runG t v (w.take (w.length - d))) (Ks537.found t u v d) := by
  have h0 : (⟨u, v, []⟩ : Ks537.Stand) ∈ allSt n (Ks537.letters t) d := allSt_mem.mpr ⟨hu, hv, Nat.zero_le _, (fun x hx => nomatch hx)⟩
  have hN := Q_le (Ks537.step t d) (Ks537.letters t) ⟨u, v, []⟩ (u := allSt n (Ks537.letters t) d) h0 (fun s x hs hx => step_in hg hs hx) (allSt n (Ks537.letters t) d).length
  have first := (QF_first (Ks537.step t d) (Ks537.letters t) ⟨u, v, []⟩ (isE := fun s => s.a == s.b) hN).congr (R := fun w => runG t u w = runG t v (w.take (w.length - d))) fun w _ => by
    rw [runSt, beq_iff_eq]
  have e := lev_is (Ks537.step t d) (Ks537.letters t) ⟨u, v, []⟩ (grow_lev t d) hN Ks537.MOST 0 0 (Nat.zero_le _) (fun r hr => by cases hr) (fun r _ => Nat.zero_le _) (fun w hw => ?_)
  · unfold Ks537.found
    have e : Ks537.search t d Ks537.MOST [(⟨u, v, []⟩, [])] [⟨u, v, []⟩] = _ := e
    rw [e]
    exact first
  · -- it's short
    rw [hw] at first
    obtain ⟨f1, f2, f3⟩ := first
    show w.length < 0 + 400
    rcases Nat.lt_or_ge w.length d with c | c
    · omega
    · have hc := few_pr hg (m := Ks537.letters t) hu hv (n * n)
      obtain ⟨r, hr, r1, _⟩ := Q_best (goPr t) (Ks537.letters t) (u, v) hc (w.take (w.length - d)) fun x hx => f1 x (List.mem_of_mem_take hx)
      obtain ⟨i, hi⟩ := List.mem_iff_getElem?.mp hr
      have hi1 := Q_index _ _ _ _ _ _ hi
      have hi2 := (List.getElem?_eq_some_iff.mp hi).1
      obtain ⟨q1, q2⟩ := Q_run (goPr t) (Ks537.letters t) (u, v) _ r hr
      rw [runPr] at q1 r1
      rw [r1] at q1
      have ea : runG t u r.2 = runG t u (w.take (w.length - d)) := congrArg Prod.fst q1
      have eb : runG t v r.2 = runG t v (w.take (w.length - d)) := congrArg Prod.snd q1
      have hyl : (w.drop (w.length - d)).length = d := by
        rw [List.length_drop]
        omega
      have hlt : Lt (Ks537.letters t) (r.2 ++ w.drop (w.length - d)) := fun x hx => by
        rcases List.mem_append.mp hx with hx | hx
        · exact q2 x hx
        · exact f1 x (List.mem_of_mem_drop hx)
      have hP : runG t u (r.2 ++ w.drop (w.length - d)) = runG t v ((r.2 ++ w.drop (w.length - d)).take ((r.2 ++ w.drop (w.length - d)).length - d)) := by
        rw [List.length_append, hyl, Nat.add_sub_cancel, List.take_left, eb]
        unfold runG at *
        rw [run_app, ea, ← run_app, List.take_append_drop]
        exact f2
      have := (f3 _ hlt hP).len
      rw [List.length_append, hyl] at this
      have : n * n ≤ 7 * 7 := Nat.mul_le_mul h7 h7
      omega
end
end Nw
end
section
namespace Nw
open Ks536 (Net)
abbrev Two := Ks539.Two
/-- both at once; none, once something else is seen -/
def goO (t : Net) : Option Two → Nat → Option Two
  | none, _ => none
  | some p, x => if (Ks539.in_ t p.1 x != Ks539.in_ t p.2 x || Ks539.differ t t (Ks539.step t p.1 x, Ks539.step t p.2 x)) = true then none else some (Ks539.step t p.1 x, Ks539.step t p.2 x)
abbrev emb (r : Two × List Nat) : It (Option Two) := (some r.1, r.2)
abbrev GS := Sum (List Nat) (List (Two × List Nat) × List Two)
def RelG (L : List (It (Option Two))) (r : GS) (A : List (It (Option Two))) : Prop := match r with
  | .inl w => ∃ pre, (pre ++ [(none, w)]) <+: A ∧ ∀ y ∈ pre, y.1.isNone = false
  | .inr z => L ++ z.1.map emb = A ∧ z.2.map some = A.map (·.1)
def inG (t : Net) (p : Two × List Nat) (r : GS) (x : Nat) : GS := match r with
  | .inl w => .inl w
  | .inr z => if (Ks539.in_ t p.1.1 x != Ks539.in_ t p.1.2 x || Ks539.differ t t (Ks539.step t p.1.1 x, Ks539.step t p.1.2 x)) = true then .inl (p.2 ++ [x]) else if z.2.contains (Ks539.step t p.1.1 x, Ks539.step t p.1.2 x) = true then .inr z else .inr (z.1 ++ [((Ks539.step t p.1.1 x, Ks539.step t p.1.2 x), p.2 ++ [x])], z.2 ++ [(Ks539.step t p.1.1 x, Ks539.step t p.1.2 x)])
def outG (t : Net) (m : Nat) (r : GS) (p : Two × List Nat) : GS := match r with
  | .inl w => .inl w
  | .inr z => (List.range m).foldl (inG t p) (.inr z)
theorem grow_is (t : Net) (old : List (Two × List Nat)) (done : List Two) : Ks539.grow t t old done = old.foldl (outG t (Ks539.letters t t)) (.inr ([], done)) := by
  unfold Ks539.grow
  rfl
theorem goO_some (t : Net) (p : Two) (x : Nat) : goO t (some p) x = if (Ks539.in_ t p.1 x != Ks539.in_ t p.2 x || Ks539.differ t t (Ks539.step t p.1 x, Ks539.step t p.2 x)) = true then none else some (Ks539.step t p.1 x, Ks539.step t p.2 x) := rfl
theorem inG_inl (t : Net) (p : Two × List Nat) (w : List Nat) : ∀ xs : List Nat, xs.foldl (inG t p) (.inl w) = .inl w
  | [] => rfl
  | _ :: xs => inG_inl t p w xs
theorem rel_in {t : Net} {L : List (It (Option Two))} (p : Two × List Nat) {r : GS} {A : List (It (Option Two))} (x : Nat) (h : RelG L r A) : RelG L (inG t p r x) (add A (goO t (some p.1) x, p.2 ++ [x])) := by
  cases r with
  | inl w =>
    obtain ⟨pre, h1, h2⟩ := h
    exact ⟨pre, h1.trans (add_prefix _ _), h2⟩
  | inr z =>
    obtain ⟨h1, h2⟩ := h
    have hsome : ∀ y ∈ A, y.1.isNone = false := fun y hy => by
      have : y.1 ∈ A.map (·.1) := List.mem_map.mpr ⟨y, hy, rfl⟩
      rw [← h2] at this
      obtain ⟨s, _, e⟩ := List.mem_map.mp this
      rw [← e]
      rfl
    rw [goO_some]
    unfold inG
    show RelG L (if _ then _ else _) _
    split
    · -- something else is seen
      rename_i c
      refine ⟨A, ?_, hsome⟩
      rw [add_new]
      · exact List.prefix_refl _
      · intro y hy e
        have := hsome y hy
        rw [e] at this
        cases this
    · rename_i c
      have hc : (z.2.contains (Ks539.step t p.1.1 x, Ks539.step t p.1.2 x) = true) ↔ ∃ y ∈ A, y.1 = some (Ks539.step t p.1.1 x, Ks539.step t p.1.2 x) := by
        rw [List.contains_iff_mem]
        constructor
        · intro hz
          have : some (Ks539.step t p.1.1 x, Ks539.step t p.1.2 x) ∈ A.map (·.1) := by
            rw [← h2]
            exact List.mem_map.mpr ⟨_, hz, rfl⟩
          obtain ⟨y, hy, e⟩ := List.mem_map.mp this
          exact ⟨y, hy, e⟩
        · rintro ⟨y, hy, e⟩
          have : some (Ks539.step t p.1.1 x, Ks539.step t p.1.2 x) ∈ z.2.map some := by
            rw [h2, ← e]
            exact List.mem_map.mpr ⟨y, hy, rfl⟩
          obtain ⟨s, hs, e⟩ := List.mem_map.mp this
          cases e
          exact hs
      split
      · rename_i c2
        rw [add_old (hc.mp c2)]
        exact ⟨h1, h2⟩
      · rename_i c2
        rw [add_new fun y hy e => c2 (hc.mpr ⟨y, hy, e⟩)]
        refine ⟨?_, ?_⟩
        · rw [← h1]
          simp
        · rw [List.map_append, h2, List.map_append]
          rfl
theorem rel_out {t : Net} {L : List (It (Option Two))} {m : Nat} (p : Two × List Nat) {r : GS} {A : List (It (Option Two))} (h : RelG L r A) : RelG L (outG t m r p) (proc (goO t) m A (emb p)) := by
  have key : ∀ (xs : List Nat) (r : GS) (A : List (It (Option Two))), RelG L r A → RelG L (xs.foldl (inG t p) r) (xs.foldl (fun l x => add l (goO t (some p.1) x, p.2 ++ [x])) A) := by
    intro xs
    induction xs with
    | nil => exact fun r A h => h
    | cons x xs ih => exact fun r A h => ih _ _ (rel_in p x h)
  have h2 := key (List.range m) r A h
  cases r with
  | inl w =>
    rw [inG_inl] at h2
    exact h2
  | inr z => exact h2
theorem rel_fold {t : Net} {L : List (It (Option Two))} {m : Nat} : ∀ (ps : List (Two × List Nat)) {r : GS} {A : List (It (Option Two))}, RelG L r A → RelG L (ps.foldl (outG t m) r) ((ps.map emb).foldl (proc (goO t) m) A)
  | [], _, _, h => h
  | p :: ps, _, _, h => rel_fold ps (rel_out p h)
theorem pb_is {t : Net} {s0 : Option Two} {N : Nat} (hN : (Q (goO t) (Ks539.letters t t) s0 N).length ≤ N) :
    ∀ (f i : Nat) (level : List (Two × List Nat)) (done : List Two), i ≤ (Q (goO t) (Ks539.letters t t) s0 i).length → level.map emb = (Q (goO t) (Ks539.letters t t) s0 i).drop i → done.map some = (Q (goO t) (Ks539.letters t t) s0 i).map (·.1) → N + 1 ≤ f + i →
      Ks539.search t t f level done = QF (goO t) (Ks539.letters t t) s0 (·.isNone) N
  | 0, i, level, done, hi, _, _, hf => by
    have := (Q_into (goO t) (Ks539.letters t t) s0 (i := i) hN).length_le
    omega
  | f + 1, i, level, done, hi, hl, hd, hf => by
    have hsome : ∀ y ∈ Q (goO t) (Ks539.letters t t) s0 i, y.1.isNone = false := fun y hy => by
      have : y.1 ∈ (Q (goO t) (Ks539.letters t t) s0 i).map (·.1) := List.mem_map.mpr ⟨y, hy, rfl⟩
      rw [← hd] at this
      obtain ⟨s, _, e⟩ := List.mem_map.mp this
      rw [← e]
      rfl
    rw [Ks539.search]
    by_cases c : (Q (goO t) (Ks539.letters t t) s0 i).length ≤ i
    · have he : level = [] := by
        have := congrArg List.length hl
        rw [List.length_map, List.length_drop] at this
        exact List.length_eq_zero_iff.mp (by omega)
      subst he
      unfold QF
      rw [← Q_same _ _ _ c hN, List.find?_eq_none.mpr fun y hy => by show ¬ y.1.isNone = true; rw [hsome y hy]; exact Bool.false_ne_true]
      rfl
    · have he : level.isEmpty = false := by
        cases level with
        | nil =>
          have := congrArg List.length hl
          rw [List.length_map, List.length_drop, List.length_nil] at this
          omega
        | cons a l => rfl
      rw [he, if_neg Bool.false_ne_true]
      have R := rel_fold (t := t) (L := Q (goO t) (Ks539.letters t t) s0 i) (m := Ks539.letters t t) level (r := .inr ([], done)) (A := Q (goO t) (Ks539.letters t t) s0 i) ⟨by simp, hd⟩
      rw [← grow_is, hl, Q_fold_rest _ _ _ hi] at R
      cases g : Ks539.grow t t level done with
      | inl w =>
        rw [g] at R
        obtain ⟨pre, h1, h2⟩ := R
        unfold QF
        rw [find_prefix (p := fun r : It (Option Two) => r.1.isNone) (h1.trans (Q_into _ _ _ hN)) h2 rfl]
        rfl
      | inr z =>
        rw [g] at R
        obtain ⟨h1, h2⟩ := R
        refine pb_is hN f (Q (goO t) (Ks539.letters t t) s0 i).length z.1 z.2 ?_ ?_ h2 (by omega)
        · exact (Q_mono _ _ _ hi).length_le
        · rw [← h1, List.drop_left]
theorem Se_nil (v : List Nat) : Se [] v := by
  cases v with
  | nil => exact .inl rfl
  | cons x v => exact .inr (.inl (by simp))
def startO (t : Net) (u v : Nat) : Option Two := if Ks539.differ t t (Ks539.start u, Ks539.start v) = true then none else some (Ks539.start u, Ks539.start v)
def allOnes (n : Nat) : List Ks539.Stand := (List.range n).flatMap fun u => (none :: (List.range n).map some).map fun p => ⟨u, p⟩
theorem allOnes_len (n : Nat) : (allOnes n).length = n * (n + 1) := by
  unfold allOnes
  rw [List.length_flatMap]
  simp [List.map_const', List.sum_replicate_nat]
abbrev StOk (n : Nat) (s : Ks539.Stand) : Prop := s.u < n ∧ ∀ q, s.p = some q → q < n
theorem allOnes_mem {n : Nat} {s : Ks539.Stand} : s ∈ allOnes n ↔ StOk n s := by
  unfold allOnes
  constructor
  · intro h
    obtain ⟨u, hu, h⟩ := List.mem_flatMap.mp h
    obtain ⟨p, hp, rfl⟩ := List.mem_map.mp h
    refine ⟨List.mem_range.mp hu, fun q e => ?_⟩
    have e : p = some q := e
    subst e
    rcases List.mem_cons.mp hp with h | h
    · cases h
    · obtain ⟨a, ha, e⟩ := List.mem_map.mp h
      cases e
      exact List.mem_range.mp ha
  · rintro ⟨h1, h2⟩
    refine List.mem_flatMap.mpr ⟨s.u, List.mem_range.mpr h1, List.mem_map.mpr ⟨s.p, ?_, rfl⟩⟩
    cases e : s.p with
    | none => exact List.mem_cons_self
    | some q => exact List.mem_cons_of_mem _ (List.mem_map.mpr ⟨q, List.mem_range.mpr (h2 q e), rfl⟩)
def allTwo (n : Nat) : List (Option Two) := none :: (allOnes n).flatMap fun a => (allOnes n).map fun b => some (a, b)
theorem allTwo_len (n : Nat) : (allTwo n).length = n * (n + 1) * (n * (n + 1)) + 1 := by
  unfold allTwo
  rw [List.length_cons, List.length_flatMap]
  simp [List.map_const', List.sum_replicate_nat, allOnes_len]
theorem allTwo_mem {n : Nat} {s : Option Two} : s ∈ allTwo n ↔ ∀ p, s = some p → StOk n p.1 ∧ StOk n p.2 := by
  unfold allTwo
  constructor
  · intro h p e
    rcases List.mem_cons.mp h with h | h
    · rw [h] at e
      cases e
    · obtain ⟨a, ha, h⟩ := List.mem_flatMap.mp h
      obtain ⟨b, hb, rfl⟩ := List.mem_map.mp h
      cases e
      exact ⟨allOnes_mem.mp ha, allOnes_mem.mp hb⟩
  · intro h
    cases s with
    | none => exact List.mem_cons_self
    | some p => exact List.mem_cons_of_mem _ (List.mem_flatMap.mpr ⟨p.1, allOnes_mem.mpr (h p rfl).1, List.mem_map.mpr ⟨p.2, allOnes_mem.mpr (h p rfl).2, rfl⟩⟩)
section
variable {t : Net} {n : Nat} (hg : ∀ u x, u < n → Ks536.go t u x < n)
include hg
theorem step_stOk {s : Ks539.Stand} (x : Nat) (h : StOk n s) : StOk n (Ks539.step t s x) := by
  unfold Ks539.step
  split
  · exact h
  · split
    · exact ⟨h.1, fun q e => by cases e; exact h.1⟩
    · exact h
  · split
    · exact ⟨h.1, fun q e => by cases e⟩
    · exact h
  · rename_i e
    exact ⟨show Ks536.go t s.u (e + 1) < n from hg _ _ h.1, h.2⟩
theorem goO_in {s : Option Two} {x : Nat} (h : s ∈ allTwo n) : goO t s x ∈ allTwo n := by
  rw [allTwo_mem] at h ⊢
  intro p e
  cases s with
  | none => cases e
  | some q =>
    rw [goO_some] at e
    split at e
    · cases e
    · cases e
      exact ⟨step_stOk hg x (h q rfl).1, step_stOk hg x (h q rfl).2⟩
theorem pebble_is {u v : Nat} (hn : n ≤ 5) (hu : u < n) (hv : v < n) : IsFirst (Ks539.letters t t) (fun w => (run (goO t) (startO t u v) w).isNone = true) (Ks539.apart t t u v) := by
  unfold Ks539.apart startO
  by_cases c : Ks539.differ t t (Ks539.start u, Ks539.start v) = true
  · rw [if_pos c, if_pos c]
    exact ⟨(fun x hx => nomatch hx), rfl, fun w _ _ => Se_nil w⟩
  · rw [if_neg c, if_neg c]
    have h0 : (some (Ks539.start u, Ks539.start v) : Option Two) ∈ allTwo n := allTwo_mem.mpr fun p e => by
      cases e
      exact ⟨⟨hu, fun q e => by cases e⟩, ⟨hv, fun q e => by cases e⟩⟩
    have hN := Q_le (goO t) (Ks539.letters t t) (some (Ks539.start u, Ks539.start v)) (u := allTwo n) h0 (fun s x hs _ => goO_in hg hs) (allTwo n).length
    have hl : (allTwo n).length ≤ 901 := by
      rw [allTwo_len]
      have h1 : n * (n + 1) ≤ 5 * 6 := Nat.mul_le_mul hn (by omega)
      have h2 := Nat.mul_le_mul h1 h1
      omega
    have e := pb_is hN 4000 0 [((Ks539.start u, Ks539.start v), [])] [(Ks539.start u, Ks539.start v)] (Nat.zero_le _) rfl rfl (by omega)
    rw [e]
    exact QF_first (goO t) (Ks539.letters t t) (some (Ks539.start u, Ks539.start v)) (isE := (·.isNone)) hN
end
end Nw
end
section
namespace Nw
open Ks536 (Net)
/-- the least pair of which C holds -/
def IsMin (C : Nat × Nat → Prop) : Option (Nat × Nat) → Prop
  | none => ∀ p, ¬ C p
  | some p => C p ∧ ∀ q, C q → ¬ pLt q p
theorem pLt_anti {p q : Nat × Nat} (h1 : ¬ pLt p q) (h2 : ¬ pLt q p) : p = q := by
  unfold pLt at h1 h2
  obtain ⟨a, b⟩ := p
  obtain ⟨c, d⟩ := q
  simp only at h1 h2
  have : a = c := by omega
  subst this
  have : b = d := by omega
  subst this
  rfl
theorem pLt_trans {p q r : Nat × Nat} (h1 : ¬ pLt q p) (h2 : ¬ pLt r q) : ¬ pLt r p := by
  unfold pLt at *
  omega
theorem pLt_asym {p q : Nat × Nat} (h : pLt p q) : ¬ pLt q p := by
  unfold pLt at *
  omega
theorem IsMin.uniq {C : Nat × Nat → Prop} : ∀ {a b : Option (Nat × Nat)}, IsMin C a → IsMin C b → a = b
  | none, none, _, _ => rfl
  | none, some p, h, k => absurd k.1 (h p)
  | some p, none, h, k => absurd h.1 (k p)
  | some p, some q, h, k => by rw [pLt_anti (p := p) (q := q) (k.2 p h.1) (h.2 q k.1)]
theorem IsMin.congr {C D : Nat × Nat → Prop} (e : ∀ p, C p ↔ D p) : ∀ {a : Option (Nat × Nat)}, IsMin C a → IsMin D a
  | none, h => fun p z => h p ((e p).mpr z)
  | some p, h => ⟨(e p).mp h.1, fun q z => h.2 q ((e q).mpr z)⟩
theorem minP_is : ∀ l : List (Nat × Nat), IsMin (· ∈ l) (minP l)
  | [] => fun p h => nomatch h
  | p :: l => by
    refine ⟨minP_mem rfl, ?_⟩
    have key : ∀ (l : List (Nat × Nat)) (a : Nat × Nat), ¬ pLt a (l.foldl (fun a y => if pLt y a then y else a) a) ∧ ∀ q ∈ l, ¬ pLt q (l.foldl (fun a y => if pLt y a then y else a) a) := by
      intro l
      induction l with
      | nil => exact fun a => ⟨fun z => by unfold pLt at z; simp at z, (fun q hq => nomatch hq)⟩
      | cons y l ih =>
        intro a
        rw [List.foldl_cons]
        obtain ⟨k1, k2⟩ := ih (if pLt y a then y else a)
        by_cases c : pLt y a
        · rw [if_pos c] at k1 k2 ⊢
          refine ⟨pLt_trans k1 (pLt_asym c), fun q hq => ?_⟩
          rcases List.mem_cons.mp hq with e | hq
          · rw [e]; exact k1
          · exact k2 q hq
        · rw [if_neg c] at k1 k2 ⊢
          refine ⟨k1, fun q hq => ?_⟩
          rcases List.mem_cons.mp hq with e | hq
          · rw [e]; exact pLt_trans k1 c
          · exact k2 q hq
    intro q hq
    rcases List.mem_cons.mp hq with e | hq
    · rw [e]; exact (key l p).1
    · exact (key l p).2 q hq
theorem gate_is (t : Net) (safe : List Nat) (u x : Nat) : IsMin (fun p => p.2 ∈ safe ∧ Ks538.near t p.2 x = true ∧ Ks538.way t safe u p.2 = some p.1) (Ks538.gate t safe u x) := by
  unfold Ks538.gate
  have key : ∀ (l done : List Nat) (b : Option (Nat × Nat)), IsMin (fun p => p.2 ∈ done ∧ Ks538.near t p.2 x = true ∧ Ks538.way t safe u p.2 = some p.1) b →
      IsMin (fun p => p.2 ∈ done ++ l ∧ Ks538.near t p.2 x = true ∧ Ks538.way t safe u p.2 = some p.1) (l.foldl (fun b g => if Ks538.near t g x then (match Ks538.way t safe u g, b with
        | some d, none => some (d, g)
        | some d, some (e, h) => if d < e ∨ (d = e ∧ g < h) then some (d, g) else some (e, h)
        | none, _ => b) else b) b) := by
    intro l
    induction l with
    | nil =>
      intro done b h
      rw [List.append_nil]
      exact h
    | cons g l ih =>
      intro done b h
      rw [List.foldl_cons]
      have e : done ++ g :: l = (done ++ [g]) ++ l := by simp
      rw [e]
      refine ih (done ++ [g]) _ ?_
      have mem : ∀ p : Nat × Nat, p.2 ∈ done ++ [g] ↔ p.2 ∈ done ∨ p.2 = g := fun p => by simp
      by_cases c : Ks538.near t g x = true
      · rw [if_pos c]
        cases hw : Ks538.way t safe u g with
        | none =>
          show IsMin _ b
          refine h.congr fun p => ?_
          rw [mem]
          refine ⟨fun z => ⟨.inl z.1, z.2⟩, fun z => ⟨?_, z.2⟩⟩
          rcases z.1 with h1 | h1
          · exact h1
          · have := z.2.2
            rw [h1, hw] at this
            cases this
        | some d =>
          cases b with
          | none =>
            show IsMin _ (some (d, g))
            refine ⟨⟨(mem _).mpr (.inr rfl), c, hw⟩, fun q hq => ?_⟩
            rcases (mem q).mp hq.1 with h1 | h1
            · exact absurd ⟨h1, hq.2⟩ (h q)
            · have h2 := hq.2.2
              rw [h1, hw] at h2
              have h2 := Option.some.inj h2
              unfold pLt
              show ¬ (q.1 < d ∨ (q.1 = d ∧ q.2 < g))
              omega
          | some p =>
            obtain ⟨e1, h1⟩ := p
            show IsMin _ (if d < e1 ∨ (d = e1 ∧ g < h1) then some (d, g) else some (e1, h1))
            obtain ⟨p1, p2⟩ := h
            have new : ∀ q : Nat × Nat, q.2 = g → Ks538.way t safe u q.2 = some q.1 → q = (d, g) := fun q hq1 hq2 => by
              rw [hq1, hw] at hq2
              exact Prod.ext (Option.some.inj hq2).symm hq1
            by_cases c3 : d < e1 ∨ (d = e1 ∧ g < h1)
            · have c2 : pLt (d, g) (e1, h1) := c3
              rw [if_pos c3]
              refine ⟨⟨(mem _).mpr (.inr rfl), c, hw⟩, fun q hq => ?_⟩
              rcases (mem q).mp hq.1 with a | a
              · exact pLt_trans (pLt_asym c2) (p2 q ⟨a, hq.2⟩)
              · rw [new q a hq.2.2]
                unfold pLt
                simp
            · have c2 : ¬ pLt (d, g) (e1, h1) := c3
              rw [if_neg c3]
              refine ⟨⟨(mem _).mpr (.inl p1.1), p1.2⟩, fun q hq => ?_⟩
              rcases (mem q).mp hq.1 with a | a
              · exact p2 q ⟨a, hq.2⟩
              · rw [new q a hq.2.2]
                exact c2
      · rw [if_neg c]
        refine h.congr fun p => ?_
        rw [mem]
        refine ⟨fun z => ⟨.inl z.1, z.2⟩, fun z => ⟨?_, z.2⟩⟩
        rcases z.1 with h1 | h1
        · exact h1
        · exact absurd (by rw [← h1]; exact z.2.1) c
  have := key safe [] none (fun p z => nomatch z.1)
  rw [List.nil_append] at this
  exact this
section
variable {n : Nat} {l : List (Nat × Nat)} (h : Ends n l) (ok : WOk (waysOf n l)) (sym : WSym (waysOf n l))
include h ok sym
theorem gate_look {safe : List Nat} {s : KSt} (hs : KOk (waysOf n l) s) (hm : ∀ y, y ∈ safe ↔ y ∈ s.safe) {x : Nat} (hx : x < n) : Ks538.gate ⟨n, l⟩ safe s.here x = lookW (waysOf n l) s.safe s.here x := by
  have hl := waysOf_len n l
  refine (gate_is ⟨n, l⟩ safe s.here x).uniq ((minP_is (beside (waysOf n l) s.safe s.here x)).congr fun p => ?_)
  have lt : ∀ y ∈ safe, y < n := fun y hy => by
    have := hs.lt y ((hm y).mp hy)
    rw [hl] at this
    exact this
  have hh : s.here ∈ safe := (hm _).mpr hs.here
  have way : ∀ y ∈ safe, Ks538.way ⟨n, l⟩ safe s.here y = some (farD (waysOf n l) s.safe s.here y) := fun y hy => by
    rw [way_is h ok lt hh (lt y hy), far_congr ok (by rw [hl]; exact lt _ hh) (by rw [hl]; exact lt y hy) hm]
    obtain ⟨d, hd⟩ := far_of_rch ok (by rw [hl]; exact lt _ hh) (by rw [hl]; exact lt y hy) (hs.conn _ hs.here y ((hm y).mp hy))
    unfold farD
    rw [hd]
    rfl
  unfold beside
  rw [List.mem_map]
  constructor
  · rintro ⟨q, hq, rfl⟩
    obtain ⟨h1, h2⟩ := List.mem_filter.mp hq
    have h2 := (hm _).mpr (of_decide_eq_true h2)
    exact ⟨h2, (near_is h _ _).mpr ⟨q, h1, rfl⟩, way _ h2⟩
  · rintro ⟨h1, h2, h3⟩
    obtain ⟨q, hq, e⟩ := (near_is h _ _).mp h2
    refine ⟨q, List.mem_filter.mpr ⟨hq, decide_eq_true (by rw [e]; exact (hm _).mp h1)⟩, ?_⟩
    rw [way _ h1] at h3
    rw [e]
    exact Prod.ext (Option.some.inj h3) rfl
theorem times_is : ∀ (o safe : List Nat) (s : KSt), KOk (waysOf n l) s → (∀ y, y ∈ safe ↔ y ∈ s.safe) → (∀ x ∈ o, x < n) →
    (Ks538.times ⟨n, l⟩ safe s.here s.steps o).map (s.known ++ ·) = (o.dropLast.foldl (fun r x => r.bind (stepK (waysOf n l) x)) (some s)).map fun s => if o = [] then s.known else s.known ++ [s.steps]
  | [], safe, s, hs, hm, ho => by simp [Ks538.times]
  | [x], safe, s, hs, hm, ho => by simp [Ks538.times]
  | x :: y :: o, safe, s, hs, hm, ho => by
    have hl := waysOf_len n l
    have hx := ho x List.mem_cons_self
    rw [Ks538.times, gate_look h ok sym hs hm hx]
    · have ed : (x :: y :: o).dropLast = x :: (y :: o).dropLast := rfl
      rw [ed, List.foldl_cons]
      show _ = Option.map _ ((y :: o).dropLast.foldl _ (stepK (waysOf n l) x s))
      cases e : lookW (waysOf n l) s.safe s.here x with
      | none =>
        have : stepK (waysOf n l) x s = none := by
          unfold stepK
          rw [e]
          rfl
        rw [this, knownSt_none]
        rfl
      | some p =>
        obtain ⟨d, g⟩ := p
        have e2 : stepK (waysOf n l) x s = some ⟨s.safe ++ [x], g, s.steps + d + 2, s.known ++ [s.steps + d + 2]⟩ := by
          unfold stepK
          rw [e]
          rfl
        have hs2 := stepK_ok sym ok (by rw [hl]; exact hx) hs e2
        have ih := times_is (y :: o) (x :: safe) ⟨s.safe ++ [x], g, s.steps + d + 2, s.known ++ [s.steps + d + 2]⟩ hs2 (fun z => by
          rw [List.mem_cons, List.mem_append, List.mem_singleton, hm]
          exact Or.comm) (fun z hz => ho z (List.mem_cons_of_mem _ hz))
        rw [e2]
        show Option.map _ ((Ks538.times ⟨n, l⟩ (x :: safe) g (s.steps + d + 2) (y :: o)).map fun r => (s.steps + d + 2) :: r) = _
        rw [Option.map_map]
        have e3 : (fun r => s.known ++ r) ∘ (fun r => (s.steps + d + 2) :: r) = fun r => (s.known ++ [s.steps + d + 2]) ++ r := by
          funext r
          simp
        rw [e3, ih]
        rfl
    · intro z
      cases z
theorem known_is {home : Nat} {o : List Nat} (hh : home < n) (ho : ∀ x ∈ o, x < n) : Ks538.known ⟨n, l⟩ home o = knownW (waysOf n l) home o := by
  have := times_is h ok sym o [home] ⟨[home], home, 0, []⟩ (KOk.first (by rw [waysOf_len]; exact hh)) (fun y => Iff.rfl) ho
  unfold Ks538.known knownW knownSt
  rw [← this]
  have e : (fun x : List Nat => ([] : List Nat) ++ x) = id := by
    funext x
    rfl
  show Ks538.times ⟨n, l⟩ [home] home 0 o = (Ks538.times ⟨n, l⟩ [home] home 0 o).map (fun x : List Nat => ([] : List Nat) ++ x)
  rw [e, Option.map_id]
  rfl
end
theorem others_is (n h : Nat) (l : List (Nat × Nat)) : Ks538.others ⟨n, l⟩ h = allBut n h := by
  unfold Ks538.others allBut
  refine List.filter_congr fun x _ => ?_
  by_cases c : x = h
  · simp [c]
  · simp [c]
def extO (ps : List Nat) : Nat → List Nat → List (List Nat)
  | 0, o => [o]
  | k + 1, o => (longerO ps o).flatMap (extO ps k)
theorem ext_orders (ps : List Nat) : ∀ (j k : Nat), (ordersO ps j).flatMap (extO ps k) = ordersO ps (j + k)
  | j, 0 => by
    show (ordersO ps j).flatMap (fun o => [o]) = ordersO ps j
    rw [List.flatMap_singleton']
  | j, k + 1 => by
    have e := ext_orders ps (j + 1) k
    rw [show j + (k + 1) = j + 1 + k by omega, ← e]
    show (ordersO ps j).flatMap (fun o => (longerO ps o).flatMap (extO ps k)) = ((ordersO ps j).flatMap (longerO ps)).flatMap (extO ps k)
    rw [List.flatMap_assoc]
theorem ext_is (ps : List Nat) : ∀ (k : Nat) (o : List Nat), extO ps k o = (Ks538.orders k (ps.filter fun p => decide (p ∉ o))).map (o ++ ·)
  | 0, o => by simp [extO, Ks538.orders]
  | k + 1, o => by
    show (longerO ps o).flatMap (extO ps k) = ((ps.filter fun p => decide (p ∉ o)).flatMap fun x => (Ks538.orders k ((ps.filter fun p => decide (p ∉ o)).filter fun y => y != x)).map fun r => x :: r).map (o ++ ·)
    unfold longerO
    rw [List.flatMap_map, List.map_flatMap]
    congr 1
    funext x
    rw [ext_is ps k, List.map_map, List.filter_filter]
    have e1 : (fun p => decide (p ∉ o ++ [x])) = fun a => (a != x) && decide (a ∉ o) := by
      funext a
      rw [Bool.eq_iff_iff]
      simp
      exact And.comm
    have e2 : (fun r => (o ++ [x]) ++ r) = (fun r => o ++ r) ∘ fun r => x :: r := by
      funext r
      simp
    rw [e1]
    show List.map (fun r => (o ++ [x]) ++ r) _ = _
    rw [e2]
theorem orders_is (ps : List Nat) (k : Nat) : Ks538.orders k ps = ordersO ps k := by
  have h1 := ext_orders ps 0 k
  have h2 := ext_is ps k []
  have e : ps.filter (fun p => decide (p ∉ ([] : List Nat))) = ps := List.filter_eq_self.mpr fun a _ => by simp
  rw [e] at h2
  have e2 : (fun r : List Nat => ([] : List Nat) ++ r) = id := by
    funext r
    rfl
  have h2 : extO ps k [] = (Ks538.orders k ps).map (fun r : List Nat => ([] : List Nat) ++ r) := h2
  rw [e2, List.map_id] at h2
  rw [← h2, Nat.zero_add] at *
  rw [← h1]
  show _ = [[]].flatMap (extO ps k)
  simp
theorem orders_has (ps : List Nat) (o : List Nat) : o.Nodup → (∀ x ∈ o, x ∈ ps) → o ∈ ordersO ps o.length := by
  refine snoc_ind (P := fun o => o.Nodup → (∀ x ∈ o, x ∈ ps) → o ∈ ordersO ps o.length) (fun _ _ => by simp [ordersO]) (fun o x ih hn hp => ?_) o
  rw [List.nodup_append] at hn
  rw [List.length_append, List.length_singleton]
  refine List.mem_flatMap.mpr ⟨o, ih hn.1 fun y hy => hp y (List.mem_append_left _ hy), ?_⟩
  unfold longerO
  exact List.mem_map.mpr ⟨x, List.mem_filter.mpr ⟨hp x (by simp), decide_eq_true fun z => hn.2.2 x z x (by simp) rfl⟩, rfl⟩
theorem allBut_len {n h : Nat} (hh : h < n) : (allBut n h).length + 1 = n := by
  have h1 := nodup_le (h :: allBut n h) (List.range n) (List.nodup_cons.mpr ⟨fun z => by
    have := (List.mem_filter.mp z).2
    simp at this, List.nodup_range.filter _⟩) fun x hx => by
      rcases List.mem_cons.mp hx with e | hx
      · rw [e]; exact List.mem_range.mpr hh
      · exact (List.mem_filter.mp hx).1
  have h2 := nodup_le (List.range n) (h :: allBut n h) List.nodup_range fun x hx => by
    by_cases c : x = h
    · rw [c]; exact List.mem_cons_self
    · exact List.mem_cons_of_mem _ (List.mem_filter.mpr ⟨hx, decide_eq_true c⟩)
  rw [List.length_range, List.length_cons] at *
  omega
theorem allBut_mem {n h x : Nat} : x ∈ allBut n h ↔ x < n ∧ x ≠ h := by
  unfold allBut
  rw [List.mem_filter, List.mem_range, decide_eq_true_iff]
theorem perm_of_sub : ∀ (A o : List Nat), A.Nodup → (∀ x ∈ A, x ∈ o) → o.length = A.length → A.Perm o
  | [], o, _, _, h => by
    have : o = [] := List.length_eq_zero_iff.mp h
    rw [this]
  | a :: A, o, hn, hs, hl => by
    have ha := hs a List.mem_cons_self
    have hn' := List.nodup_cons.mp hn
    have ih := perm_of_sub A (o.erase a) hn'.2 (fun x hx => by
      have hne : x ≠ a := fun e => hn'.1 (e ▸ hx)
      exact (List.mem_erase_of_ne hne).mpr (hs x (List.mem_cons_of_mem _ hx))) (by
      rw [List.length_erase_of_mem ha, hl]
      rfl)
    exact (ih.cons a).trans (List.perm_cons_erase ha).symm
theorem isOrder_is {n h : Nat} {l : List (Nat × Nat)} (hh : h < n) (o : List Nat) : Ks538.isOrder ⟨n, l⟩ h o = true ↔ o.mergeSort (· ≤ ·) = allBut n h := by
  have nd : (allBut n h).Nodup := List.nodup_range.filter _
  have sorted : (allBut n h).Pairwise (fun a b => a ≤ b) := (List.pairwise_lt_range.filter _).imp fun h => Nat.le_of_lt h
  have sorted2 : (o.mergeSort (· ≤ ·)).Pairwise (fun a b => a ≤ b) := by
    have := List.pairwise_mergeSort (le := fun a b : Nat => decide (a ≤ b)) (fun a b c h1 h2 => by
      rw [decide_eq_true_iff] at *
      omega) (fun a b => by
      rw [Bool.or_eq_true, decide_eq_true_iff, decide_eq_true_iff]
      omega) o
    exact this.imp fun h => of_decide_eq_true h
  unfold Ks538.isOrder
  rw [others_is, Bool.and_eq_true, beq_iff_eq, List.all_eq_true]
  show o.length + 1 = n ∧ _ ↔ _
  constructor
  · rintro ⟨h1, h2⟩
    have h2 : ∀ x ∈ allBut n h, x ∈ o := fun x hx => by simpa using h2 x hx
    have hlen : o.length = (allBut n h).length := by
      have := allBut_len hh
      omega
    have perm : (allBut n h).Perm o := perm_of_sub _ _ nd h2 hlen
    exact ((List.mergeSort_perm o _).trans perm.symm).eq_of_pairwise (le := fun a b => a ≤ b) (fun a b _ _ h1 h2 => Nat.le_antisymm h1 h2) sorted2 sorted
  · intro e
    have perm := List.mergeSort_perm o (fun a b : Nat => decide (a ≤ b))
    have e : o.mergeSort (fun a b : Nat => decide (a ≤ b)) = allBut n h := e
    rw [e] at perm
    refine ⟨?_, fun x hx => ?_⟩
    · rw [← perm.length_eq]
      exact allBut_len hh
    · have := perm.mem_iff.mp hx
      simpa using this
theorem cross {W : Ways} {T S : List Nat} : ∀ (w : List Nat) (a : Nat), a ∈ S → run (goS W T) a w ∉ S → ∃ b ∈ S, ∃ q ∈ rowAt W b, q.1 ∉ S
  | [], a, ha, hn => absurd ha hn
  | x :: w, a, ha, hn => by
    rcases goS_cases W T a x with c | ⟨_, q, hq, c⟩
    · have hn : run (goS W T) (goS W T a x) w ∉ S := hn
      rw [c] at hn
      exact cross w a ha hn
    · by_cases z : q.1 ∈ S
      · have hn : run (goS W T) (goS W T a x) w ∉ S := hn
        rw [← c] at hn
        exact cross w q.1 z hn
      · exact ⟨a, ha, q, hq, z⟩
theorem order_from {W : Ways} (ok : WOk W) (sym : WSym W) (hr : ∀ a b, a < W.length → b < W.length → ∃ T, Rch W T a b) : ∀ (r : Nat) (s : KSt), KOk W s → ((List.range W.length).filter fun x => decide (x ∉ s.safe)).length = r →
    ∃ o : List Nat, o.Nodup ∧ (∀ x, x ∈ o ↔ x < W.length ∧ x ∉ s.safe) ∧ (o.foldl (fun z x => z.bind (stepK W x)) (some s)).isSome = true
  | 0, s, hs, h0 => by
    refine ⟨[], List.nodup_nil, fun x => ⟨(fun z => nomatch z), fun z => ?_⟩, rfl⟩
    have : x ∈ (List.range W.length).filter fun x => decide (x ∉ s.safe) := List.mem_filter.mpr ⟨List.mem_range.mpr z.1, decide_eq_true z.2⟩
    rw [List.length_eq_zero_iff.mp h0] at this
    exact this
  | r + 1, s, hs, hlen => by
    obtain ⟨y, hy⟩ : ∃ y, y ∈ (List.range W.length).filter fun x => decide (x ∉ s.safe) := by
      cases c : (List.range W.length).filter fun x => decide (x ∉ s.safe) with
      | nil => rw [c] at hlen; cases hlen
      | cons y l => exact ⟨y, List.mem_cons_self⟩
    obtain ⟨hy1, hy2⟩ := List.mem_filter.mp hy
    have hy1 := List.mem_range.mp hy1
    have hy2 := of_decide_eq_true hy2
    obtain ⟨T, w, _, e⟩ := hr s.here y (hs.lt _ hs.here) hy1
    obtain ⟨b, hb, q, hq, hn⟩ := cross (T := T) (S := s.safe) w s.here hs.here (by rw [e]; exact hy2)
    have hbl := hs.lt b hb
    have hql := row_lt ok hbl q hq
    obtain ⟨p, hp, ep⟩ := sym b hbl q hq
    have hmem : (farD W s.safe s.here p.1, p.1) ∈ beside W s.safe s.here q.1 := List.mem_map.mpr ⟨p, List.mem_filter.mpr ⟨hp, decide_eq_true (by rw [ep]; exact hb)⟩, rfl⟩
    obtain ⟨z, hz⟩ : ∃ z, lookW W s.safe s.here q.1 = some z := by
      unfold lookW
      cases c : beside W s.safe s.here q.1 with
      | nil => rw [c] at hmem; cases hmem
      | cons a l => exact ⟨_, rfl⟩
    have e2 : stepK W q.1 s = some ⟨s.safe ++ [q.1], z.2, s.steps + z.1 + 2, s.known ++ [s.steps + z.1 + 2]⟩ := by
      unfold stepK
      rw [hz]
      rfl
    have hs2 := stepK_ok sym ok hql hs e2
    have hlen2 : ((List.range W.length).filter fun x => decide (x ∉ s.safe ++ [q.1])).length = r := by
      have h1 := nodup_le (q.1 :: (List.range W.length).filter fun x => decide (x ∉ s.safe ++ [q.1])) ((List.range W.length).filter fun x => decide (x ∉ s.safe)) (List.nodup_cons.mpr ⟨fun z => by
          have := of_decide_eq_true (List.mem_filter.mp z).2
          simp at this, List.nodup_range.filter _⟩) fun x hx => by
        rcases List.mem_cons.mp hx with e | hx
        · rw [e]
          exact List.mem_filter.mpr ⟨List.mem_range.mpr hql, decide_eq_true hn⟩
        · obtain ⟨a1, a2⟩ := List.mem_filter.mp hx
          have a2 := of_decide_eq_true a2
          exact List.mem_filter.mpr ⟨a1, decide_eq_true fun z => a2 (List.mem_append_left _ z)⟩
      have h2 := nodup_le ((List.range W.length).filter fun x => decide (x ∉ s.safe)) (q.1 :: (List.range W.length).filter fun x => decide (x ∉ s.safe ++ [q.1])) (List.nodup_range.filter _) fun x hx => by
        obtain ⟨a1, a2⟩ := List.mem_filter.mp hx
        have a2 := of_decide_eq_true a2
        by_cases c : x = q.1
        · rw [c]; exact List.mem_cons_self
        · refine List.mem_cons_of_mem _ (List.mem_filter.mpr ⟨a1, decide_eq_true fun z => ?_⟩)
          rcases List.mem_append.mp z with z | z
          · exact a2 z
          · simp only [List.mem_singleton] at z
            exact c z
      rw [List.length_cons] at h1 h2
      omega
    obtain ⟨o, o1, o2, o3⟩ := order_from ok sym hr r _ hs2 hlen2
    have o2 : ∀ x, x ∈ o ↔ x < W.length ∧ x ∉ s.safe ++ [q.1] := o2
    refine ⟨q.1 :: o, List.nodup_cons.mpr ⟨fun z => ((o2 q.1).mp z).2 (by simp), o1⟩, fun x => ?_, ?_⟩
    · rw [List.mem_cons, o2, List.mem_append, List.mem_singleton]
      constructor
      · rintro (e | ⟨h1, h2⟩)
        · rw [e]; exact ⟨hql, hn⟩
        · exact ⟨h1, fun z => h2 (.inl z)⟩
      · rintro ⟨h1, h2⟩
        by_cases c : x = q.1
        · exact .inl c
        · exact .inr ⟨h1, fun z => by
            rcases z with z | z
            · exact h2 z
            · exact c z⟩
    · rw [List.foldl_cons]
      show (o.foldl _ (stepK W q.1 s)).isSome = true
      rw [e2]
      exact o3
theorem order_ex {W : Ways} (ok : WOk W) (sym : WSym W) (hr : ∀ a b, a < W.length → b < W.length → ∃ T, Rch W T a b) {home : Nat} (hh : home < W.length) : ∃ o ∈ ordersO (allBut W.length home) (allBut W.length home).length, (knownW W home o).isSome = true := by
  obtain ⟨o, o1, o2, o3⟩ := order_from ok sym hr _ _ (KOk.first hh) rfl
  have o2 : ∀ x, x ∈ o ↔ x < W.length ∧ x ∉ [home] := o2
  have hm : ∀ x, x ∈ o ↔ x ∈ allBut W.length home := fun x => by
    rw [o2, allBut_mem, List.mem_singleton]
  have hl : o.length = (allBut W.length home).length := Nat.le_antisymm (nodup_le _ _ o1 fun x hx => (hm x).mp hx) (nodup_le _ _ (List.nodup_range.filter _) fun x hx => (hm x).mpr hx)
  refine ⟨o, ?_, ?_⟩
  · rw [← hl]
    exact orders_has _ o o1 fun x hx => (hm x).mp hx
  · unfold knownW
    rw [Option.isSome_map]
    cases c : knownSt W home o.dropLast with
    | some s => rfl
    | none =>
      have : knownSt W home o = none := by
        rw [List.dropLast_eq_take] at c
        exact knownSt_stop c
      have o3 : (knownSt W home o).isSome = true := o3
      rw [this] at o3
      cases o3
end Nw
end
section
namespace Nw
open Ks536 (Net)
/-- one exit more, by the specification -/
def sVisit (o : Option NSt) (pr : (Nat × Nat) × (Nat × Nat)) : Option NSt := o.bind fun z => if pr.1.2 = pr.2.2 then nvisit z pr else none
theorem sVisit_none : ∀ l : List ((Nat × Nat) × (Nat × Nat)), l.foldl sVisit none = none
  | [] => rfl
  | _ :: l => sVisit_none l
theorem sVisit_all : ∀ (l : List ((Nat × Nat) × (Nat × Nat))) (o : Option NSt), (∀ pr ∈ l, pr.1.2 = pr.2.2) → l.foldl sVisit o = nfold l o
  | [], _, _ => rfl
  | pr :: l, o, h => by
    have e : sVisit o pr = o.bind fun st => nvisit st pr := by
      unfold sVisit
      congr 1
      funext z
      rw [if_pos (h pr List.mem_cons_self)]
    show l.foldl sVisit (sVisit o pr) = nfold l (o.bind fun st => nvisit st pr)
    rw [e, sVisit_all l _ fun x hx => h x (List.mem_cons_of_mem _ hx)]
theorem sVisit_not : ∀ (l : List ((Nat × Nat) × (Nat × Nat))) (o : Option NSt), (∃ pr ∈ l, pr.1.2 ≠ pr.2.2) → l.foldl sVisit o = none
  | [], _, h => by
    obtain ⟨_, h, _⟩ := h
    cases h
  | pr :: l, o, h => by
    rw [List.foldl_cons]
    by_cases c : pr.1.2 = pr.2.2
    · refine sVisit_not l _ ?_
      obtain ⟨x, hx, hn⟩ := h
      rcases List.mem_cons.mp hx with e | hx
      · rw [e] at hn
        exact absurd c hn
      · exact ⟨x, hx, hn⟩
    · have e : sVisit o pr = none := by
        unfold sVisit
        cases o with
        | none => rfl
        | some z =>
          show (if pr.1.2 = pr.2.2 then nvisit z pr else none) = none
          rw [if_neg c]
      rw [e, sVisit_none]
section
variable {n : Nat} {l : List (Nat × Nat)} (h : Ends n l) (ok : WOk (waysOf n l))
include h
/-- a pair of the list gone through, by the specification -/
def specP (t : Net) (r : Option NSt) (p : Nat × Nat) : Option NSt := match r with
  | none => none
  | some z => (List.range (Ks536.degree t p.1)).foldl (fun r e => match r with
    | none => none
    | some z => match Ks536.out t p.1 e, Ks536.out t p.2 e with
      | some a, some b => if a.2 != b.2 then none else match z.find? fun y => y.1 == a.1 with
        | some y => if y.2 = b.1 then some z else none
        | none => some (z ++ [(a.1, b.1)])
      | _, _ => none) (if Ks536.degree t p.1 = Ks536.degree t p.2 then some z else none)
omit h in
theorem name_zero (t : Net) (z : NSt) : Ks539.name t t 0 z = some z := rfl
omit h in
theorem name_succ (t : Net) (f : Nat) (z : NSt) : Ks539.name t t (f + 1) z = match z.foldl (specP t) (some z) with
    | none => none
    | some z => Ks539.name t t f z := rfl
omit h in
theorem find_val (z : NSt) (p : Nat) : (z.find? fun y => y.1 == p) = (z.find? fun r => decide (r.1 = p)) := by
  congr 1
omit h in
theorem nvisit_is (z : NSt) (a b : Nat × Nat) : (match z.find? fun y => y.1 == a.1 with
        | some y => if y.2 = b.1 then some z else none
        | none => some (z ++ [(a.1, b.1)])) = nvisit z (a, b) := by
  rw [find_val]
  unfold nvisit valN
  cases z.find? fun r => decide (r.1 = a.1) <;> rfl
theorem specP_is (z : NSt) (p : Nat × Nat) : specP ⟨n, l⟩ (some z) p = nproc (waysOf n l) z p := by
  unfold specP nproc
  show (List.range (Ks536.degree ⟨n, l⟩ p.1)).foldl _ (if Ks536.degree ⟨n, l⟩ p.1 = Ks536.degree ⟨n, l⟩ p.2 then some z else none) = _
  rw [degree_is h, degree_is h]
  generalize h1 : rowAt (waysOf n l) p.1 = r1
  generalize h2 : rowAt (waysOf n l) p.2 = r2
  have e1 : ∀ e, Ks536.out ⟨n, l⟩ p.1 e = r1[e]? := fun e => by rw [out_is h, h1]
  have e2 : ∀ e, Ks536.out ⟨n, l⟩ p.2 e = r2[e]? := fun e => by rw [out_is h, h2]
  have en : entries (waysOf n l) p.1 = r1.map (·.2) ∧ entries (waysOf n l) p.2 = r2.map (·.2) := by
    unfold entries
    rw [h1, h2]
    exact ⟨rfl, rfl⟩
  rw [en.1, en.2]
  by_cases c : r1.length = r2.length
  · rw [if_pos c]
    have key : ∀ k, k ≤ r1.length → (List.range k).foldl (fun r e => match r with
        | none => none
        | some z => match Ks536.out ⟨n, l⟩ p.1 e, Ks536.out ⟨n, l⟩ p.2 e with
          | some a, some b => if a.2 != b.2 then none else match z.find? fun y => y.1 == a.1 with
            | some y => if y.2 = b.1 then some z else none
            | none => some (z ++ [(a.1, b.1)])
          | _, _ => none) (some z) = ((r1.zip r2).take k).foldl sVisit (some z) := by
      intro k
      induction k with
      | zero => exact fun _ => rfl
      | succ k ih =>
        intro hk
        have g1 : r1[k]? = some r1[k] := List.getElem?_eq_getElem (by omega)
        have g2 : r2[k]? = some (r2[k]'(by omega)) := List.getElem?_eq_getElem _
        have g3 : (r1.zip r2)[k]? = some (r1[k], r2[k]'(by omega)) := by
          rw [List.getElem?_zip_eq_some]
          exact ⟨g1, g2⟩
        rw [List.range_succ, List.foldl_append, ih (by omega), take_more g3, List.foldl_append]
        generalize ((r1.zip r2).take k).foldl sVisit (some z) = o
        show (match o with
          | none => none
          | some z => match Ks536.out ⟨n, l⟩ p.1 k, Ks536.out ⟨n, l⟩ p.2 k with
            | some a, some b => if a.2 != b.2 then none else match z.find? fun y => y.1 == a.1 with
              | some y => if y.2 = b.1 then some z else none
              | none => some (z ++ [(a.1, b.1)])
            | _, _ => none) = sVisit o (r1[k], r2[k]'(by omega))
        cases o with
        | none => rfl
        | some z =>
          rw [e1, e2, g1, g2]
          generalize r1[k] = a
          generalize r2[k]'(by omega) = b
          show (if (a.2 != b.2) = true then none else match z.find? fun y => y.1 == a.1 with
              | some y => if y.2 = b.1 then some z else none
              | none => some (z ++ [(a.1, b.1)])) = if a.2 = b.2 then nvisit z (a, b) else none
          rw [nvisit_is]
          by_cases c2 : a.2 = b.2
          · rw [if_pos c2, if_neg (by simp [c2])]
          · rw [if_neg c2, if_pos (by simp [c2])]
    have hz : (r1.zip r2).length = r1.length := by rw [List.length_zip]; omega
    have k1 := key r1.length (Nat.le_refl _)
    rw [← hz, List.take_length] at k1
    rw [hz] at k1
    rw [k1]
    have same : r1.map (·.2) = r2.map (·.2) ↔ ∀ pr ∈ r1.zip r2, pr.1.2 = pr.2.2 := by
      constructor
      · intro e pr hpr
        obtain ⟨i, hi⟩ := List.mem_iff_getElem?.mp hpr
        have hi2 : (r1.zip r2)[i]? = some (pr.1, pr.2) := hi
        rw [List.getElem?_zip_eq_some] at hi2
        have : (r1.map (·.2))[i]? = (r2.map (·.2))[i]? := by rw [e]
        rw [List.getElem?_map, List.getElem?_map, hi2.1, hi2.2] at this
        exact Option.some.inj this
      · intro H
        apply List.ext_getElem?
        intro i
        rw [List.getElem?_map, List.getElem?_map]
        rcases Nat.lt_or_ge i r1.length with q | q
        · have g1 : r1[i]? = some r1[i] := List.getElem?_eq_getElem q
          have g2 : r2[i]? = some (r2[i]'(by omega)) := List.getElem?_eq_getElem _
          have g3 : (r1.zip r2)[i]? = some (r1[i], r2[i]'(by omega)) := by
            rw [List.getElem?_zip_eq_some]
            exact ⟨g1, g2⟩
          rw [g1, g2]
          exact congrArg some (H _ (List.mem_of_getElem? g3))
        · rw [List.getElem?_eq_none q, List.getElem?_eq_none (by omega)]
    by_cases c2 : r1.map (·.2) = r2.map (·.2)
    · rw [if_pos c2, sVisit_all _ _ (same.mp c2)]
    · rw [if_neg c2]
      refine sVisit_not _ _ ?_
      apply Classical.byContradiction
      intro hno
      exact c2 (same.mpr fun pr hpr => Classical.byContradiction fun z => hno ⟨pr, hpr, z⟩)
  · rw [if_neg c, if_neg fun e => c (by have := congrArg List.length e; simpa using this)]
    generalize List.range r1.length = xs
    induction xs with
    | nil => rfl
    | cons x xs ih => exact ih
theorem specP_fold : ∀ (ps : List (Nat × Nat)) (o : Option NSt), ps.foldl (specP ⟨n, l⟩) o = ps.foldl (fun o p => o.bind fun z => nproc (waysOf n l) z p) o
  | [], _ => rfl
  | p :: ps, o => by
    rw [List.foldl_cons, List.foldl_cons]
    have e : specP ⟨n, l⟩ o p = o.bind fun z => nproc (waysOf n l) z p := by
      cases o with
      | none => rfl
      | some z => exact specP_is h z p
    rw [e, specP_fold ps]
omit h in
theorem nfold_done : ∀ (l : List ((Nat × Nat) × (Nat × Nat))) {st : NSt}, (∀ pr ∈ l, valN st pr.1.1 = some pr.2.1) → nfold l (some st) = some st
  | [], _, _ => rfl
  | pr :: l, st, h => by
    show nfold l (nvisit st pr) = some st
    have e : nvisit st pr = some st := by
      unfold nvisit
      rw [h pr List.mem_cons_self]
      exact if_pos rfl
    rw [e, nfold_done l fun x hx => h x (List.mem_cons_of_mem _ hx)]
include ok
theorem round_is {u v : Nat} (hu : u < n) (hv : v < n) {j : Nat} {st : NSt} (e : NQ (waysOf n l) u v j = some st) : ∀ i, i ≤ st.length → (st.take i).foldl (fun o p => o.bind fun z => nproc (waysOf n l) z p) (some st) = NQ (waysOf n l) u v (max i j)
  | 0, _ => by
    rw [List.take_zero, Nat.zero_max, e]
    rfl
  | i + 1, hi => by
    have hl := waysOf_len n l
    have k := NQ_ok ok (by rw [hl]; exact hu) (by rw [hl]; exact hv) e
    have hp : st[i]? = some st[i] := List.getElem?_eq_getElem (by omega)
    rw [take_more hp, List.foldl_append, round_is hu hv e i (by omega)]
    show (NQ (waysOf n l) u v (max i j)).bind (fun z => nproc (waysOf n l) z st[i]) = _
    rcases Nat.lt_or_ge i j with c | c
    · rw [Nat.max_eq_right (by omega), Nat.max_eq_right (by omega), e]
      show nproc (waysOf n l) st st[i] = some st
      obtain ⟨d1, d2⟩ := k.done i c _ hp
      unfold nproc
      rw [if_pos d1]
      exact nfold_done _ d2
    · rw [Nat.max_eq_left c, Nat.max_eq_left (by omega)]
      cases q : NQ (waysOf n l) u v i with
      | none =>
        rw [NQ_dead q (by omega)]
        rfl
      | some s2 =>
        have hpre : st <+: s2 := by
          -- the list only grows
          have mono : ∀ (a : Nat) (s3 : NSt), NQ (waysOf n l) u v (j + a) = some s3 → st <+: s3 := by
            intro a
            induction a with
            | zero =>
              intro s3 h3
              rw [Nat.add_zero, e] at h3
              cases h3
              exact List.prefix_refl _
            | succ a ih =>
              intro s3 h3
              cases q4 : NQ (waysOf n l) u v (j + a) with
              | none =>
                rw [NQ_dead q4 (show j + a ≤ j + (a + 1) by omega)] at h3
                cases h3
              | some s4 =>
                have k4 := NQ_ok ok (by rw [hl]; exact hu) (by rw [hl]; exact hv) q4
                have h3 : NQ (waysOf n l) u v (j + a + 1) = some s3 := h3
                rw [NQ_succ q4] at h3
                cases q5 : s4[j + a]? with
                | none =>
                  rw [q5] at h3
                  cases h3
                  exact ih _ q4
                | some p0 =>
                  rw [q5] at h3
                  have h3 : nproc (waysOf n l) s4 p0 = some s3 := h3
                  exact (ih _ q4).trans (k4.inv.proc ok (List.mem_of_getElem? q5) h3).2.1
          exact mono (i - j) s2 (by rw [show j + (i - j) = i by omega]; exact q)
        have hp2 : s2[i]? = some st[i] := by
          obtain ⟨t, rfl⟩ := hpre
          rw [List.getElem?_append_left (by omega)]
          exact hp
        rw [NQ_succ q, hp2]
        rfl
theorem round_all {u v : Nat} (hu : u < n) (hv : v < n) {j : Nat} {st : NSt} (e : NQ (waysOf n l) u v j = some st) (hj : j ≤ st.length) : st.foldl (specP ⟨n, l⟩) (some st) = NQ (waysOf n l) u v st.length := by
  rw [specP_fold h]
  have := round_is h ok hu hv e st.length (Nat.le_refl _)
  rw [List.take_length, Nat.max_eq_left hj] at this
  exact this
theorem name_stop {u v : Nat} (hu : u < n) (hv : v < n) {j : Nat} {st : NSt} (e : NQ (waysOf n l) u v j = some st) (hj : j = st.length) : ∀ f, Ks539.name ⟨n, l⟩ ⟨n, l⟩ f st = some st
  | 0 => rfl
  | f + 1 => by
    rw [name_succ, round_all h ok hu hv e (by omega), ← hj, e]
    exact name_stop hu hv e hj f
theorem name_is {u v : Nat} (hu : u < n) (hv : v < n) : ∀ (f j : Nat) (st : NSt), NQ (waysOf n l) u v j = some st → j ≤ st.length → n ≤ j + f → Ks539.name ⟨n, l⟩ ⟨n, l⟩ f st = NQ (waysOf n l) u v n
  | 0, j, st, e, hj, hf => by
    have hl := waysOf_len n l
    have hle := (NQ_ok ok (by rw [hl]; exact hu) (by rw [hl]; exact hv) e).inv.le
    rw [hl] at hle
    have : j = n := by omega
    subst this
    rw [name_zero, e]
  | f + 1, j, st, e, hj, hf => by
    have hl := waysOf_len n l
    have hle := (NQ_ok ok (by rw [hl]; exact hu) (by rw [hl]; exact hv) e).inv.le
    rw [hl] at hle
    rcases Nat.lt_or_ge j st.length with c | c
    · rw [name_succ, round_all h ok hu hv e hj]
      cases q : NQ (waysOf n l) u v st.length with
      | none =>
        rw [NQ_dead q hle]
      | some z =>
        have hz : st.length ≤ z.length := by
          have k1 := round_is h ok hu hv e st.length (Nat.le_refl _)
          -- as far as it was gone through
          have mono : ∀ (a : Nat) (s3 : NSt), NQ (waysOf n l) u v (j + a) = some s3 → st.length ≤ s3.length := by
            intro a
            induction a with
            | zero =>
              intro s3 h3
              rw [Nat.add_zero, e] at h3
              cases h3
              exact Nat.le_refl _
            | succ a ih =>
              intro s3 h3
              cases q4 : NQ (waysOf n l) u v (j + a) with
              | none =>
                rw [NQ_dead q4 (show j + a ≤ j + (a + 1) by omega)] at h3
                cases h3
              | some s4 =>
                have k4 := NQ_ok ok (by rw [hl]; exact hu) (by rw [hl]; exact hv) q4
                have h3 : NQ (waysOf n l) u v (j + a + 1) = some s3 := h3
                rw [NQ_succ q4] at h3
                cases q5 : s4[j + a]? with
                | none =>
                  rw [q5] at h3
                  cases h3
                  exact ih _ q4
                | some p0 =>
                  rw [q5] at h3
                  have h3 : nproc (waysOf n l) s4 p0 = some s3 := h3
                  exact Nat.le_trans (ih _ q4) (k4.inv.proc ok (List.mem_of_getElem? q5) h3).2.1.length_le
          exact mono (st.length - j) z (by rw [show j + (st.length - j) = st.length by omega]; exact q)
        exact name_is hu hv f st.length z q hz (by omega)
    · have : j = st.length := by omega
      rw [name_stop h ok hu hv e this, NQ_stop e c (by omega)]
theorem same_is {u v : Nat} (hu : u < n) (hv : v < n) (hr : ∀ a b, a < n → b < n → Rch (waysOf n l) (List.range n) a b) : Ks539.same ⟨n, l⟩ ⟨n, l⟩ u v = namingW (waysOf n l) u v := by
  have hl := waysOf_len n l
  unfold Ks539.same namingW
  show (match Ks539.name ⟨n, l⟩ ⟨n, l⟩ (n + 1) [(u, v)] with
    | none => none
    | some z => let m := (List.range n).map fun x => match z.find? fun (y : Nat × Nat) => y.1 == x with
        | some y => y.2
        | none => n
      if n = n ∧ (List.range n).all (fun y => m.contains y) then some m else none) = _
  rw [name_is h ok hu hv (n + 1) 0 [(u, v)] rfl (Nat.zero_le _) (by omega), hl]
  cases q : NQ (waysOf n l) u v n with
  | none => rfl
  | some st =>
    have q' : NQ (waysOf n l) u v (waysOf n l).length = some st := by rw [hl]; exact q
    have k := NQ_ok ok (by rw [hl]; exact hu) (by rw [hl]; exact hv) q
    have named : ∀ p, p < n → (valN st p).isSome = true := fun p hp => NQ_all ok (by rw [hl]; exact hu) (by rw [hl]; exact hv) q' (hr u p hu hp)
    have em : ((List.range n).map fun x => match st.find? fun y => y.1 == x with
        | some y => y.2
        | none => n) = (List.range n).map fun p => (valN st p).getD 0 := by
      refine List.map_congr_left fun x hx => ?_
      have := named x (List.mem_range.mp hx)
      rw [find_val]
      unfold valN at this ⊢
      cases c : st.find? fun r => decide (r.1 = x) with
      | none =>
        rw [c] at this
        cases this
      | some y => rfl
    show (if n = n ∧ (List.range n).all (fun y => ((List.range n).map fun x => match st.find? fun y => y.1 == x with
        | some y => y.2
        | none => n).contains y) = true then some ((List.range n).map fun x => match st.find? fun y => y.1 == x with
        | some y => y.2
        | none => n) else none) = some ((List.range n).map fun p => (valN st p).getD 0)
    rw [em, if_pos]
    refine ⟨rfl, List.all_eq_true.mpr fun y hy => ?_⟩
    have hy := List.mem_range.mp hy
    -- beside a name stand names
    have closed : ∀ (w : List Nat) (a : Nat), (∃ p, p < n ∧ valN st p = some a) → ∃ p, p < n ∧ valN st p = some (run (goS (waysOf n l) (List.range n)) a w) := by
      intro w
      induction w with
      | nil => exact fun a h => h
      | cons x w ih =>
        intro a ha
        refine ih _ ?_
        rcases goS_cases (waysOf n l) (List.range n) a x with c | ⟨_, q2, hq2, c⟩
        · rw [c]
          exact ha
        · rw [← c]
          obtain ⟨p, hp, hpa⟩ := ha
          have hin := valN_some hpa
          obtain ⟨i, hi⟩ := List.mem_iff_getElem?.mp hin
          have hil := (List.getElem?_eq_some_iff.mp hi).1
          have hle := k.inv.le
          rw [hl] at hle
          obtain ⟨d1, d2⟩ := k.done i (by omega) _ hi
          have hlen : (rowAt (waysOf n l) p).length = (rowAt (waysOf n l) a).length := by
            have := congrArg List.length d1
            unfold entries at this
            simpa using this
          obtain ⟨e, he⟩ := List.mem_iff_getElem?.mp hq2
          have hel := (List.getElem?_eq_some_iff.mp he).1
          obtain ⟨q1, hq1⟩ : ∃ q1, (rowAt (waysOf n l) p)[e]? = some q1 := ⟨_, List.getElem?_eq_getElem (by omega)⟩
          have hz : ((rowAt (waysOf n l) p).zip (rowAt (waysOf n l) a))[e]? = some (q1, q2) := by
            rw [List.getElem?_zip_eq_some]
            exact ⟨hq1, he⟩
          have := row_lt ok (by rw [hl]; exact hp) q1 (List.mem_of_getElem? hq1)
          rw [hl] at this
          exact ⟨q1.1, this, d2 (q1, q2) (List.mem_of_getElem? hz)⟩
    obtain ⟨w, _, ew⟩ := hr v y hv hy
    obtain ⟨p, hp, hpy⟩ := closed w v ⟨u, hu, valN_mono k.first (by unfold valN; simp)⟩
    rw [ew] at hpy
    rw [List.contains_iff_mem]
    exact List.mem_map.mpr ⟨p, List.mem_range.mpr hp, by rw [hpy]; rfl⟩
end
end Nw
end
section
set_option maxRecDepth 100000
set_option maxHeartbeats 2000000
namespace Nw
open PySem PySem.Spec PyProof.Rows L2 LamX NdefX

/-- captured cells, in a heap that stands still -/
structure CellsIn (cl : List (Str × Addr)) (fr : List Str) (ws : List (Option V)) (b : Heap) : Prop where
  len : ws.length = fr.length
  all : ∀ y c, cl.lookup y = some c → ∃ v, b.IsCell c v
  inj : ∀ x y c, cl.lookup x = some c → cl.lookup y = some c → x = y
  has : ∀ (i : Nat) (y : Str), fr[i]? = some y → ∃ c, cl.lookup y = some c ∧ ∀ v, ws[i]? = some (some v) → ∃ u, L2.RelV v u ∧ b.IsCell c (some u)

section
variable {X : Cx} {pins : List (Addr × Obj)} {σ : L2.St} {H : Hp} {s : Shared} {cl : List (Str × Addr)} {fr : List Str} {ws : List (Option V)} {js : List Nat}

theorem CellsIn.here (C : CellsIn cl fr ws X.base) (I : Inv X pins σ H s) : CellsAt cl fr ws s.heap H := by
  have up : ∀ {c : Addr} {v : Option Value}, X.base.IsCell c v → s.heap.IsCell c v ∧ H c = none := fun {c v} z => by
    obtain ⟨o, ho, hd⟩ := z
    obtain ⟨e1, e2⟩ := I.bs c o ho
    exact ⟨⟨o, e1, hd⟩, e2⟩
  constructor
  · exact C.len
  · intro y c e
    obtain ⟨v, z⟩ := C.all y c e
    exact ⟨(up z).2, v, (up z).1⟩
  · exact C.inj
  · intro i y e
    obtain ⟨c, e1, e2⟩ := C.has i y e
    refine ⟨c, e1, fun v hv => ?_⟩
    obtain ⟨u, r, z⟩ := e2 v hv
    exact ⟨u, r, (up z).1⟩

/-- all that is neither tracked nor a running frame -/
def still (X : Cx) (h : Heap) (H : Hp) : Heap := PySem.W.hideAll h (trk h H ++ frs X.stack)
theorem still_of {b : Addr} {o : Obj} (e : (still X s.heap H).get? b = some o) : s.heap.get? b = some o ∧ H b = none := by
  have e1 : s.heap.get? b = some o := PySem.W.of_hideAll _ e
  refine ⟨e1, ?_⟩
  cases q : H b with
  | none => rfl
  | some u =>
    have hm : b ∈ trk s.heap H ++ frs X.stack := List.mem_append_left _ (List.mem_filter.mpr ⟨List.mem_range.mpr (Heap.lt_size e1), by simp [q]⟩)
    have z : (still X s.heap H).get? b = none := PySem.W.hideAll_none _ hm
    rw [z] at e
    cases e
theorem still_get {b : Addr} {o : Obj} (e : s.heap.get? b = some o) (n : H b = none) (f : b ∉ frs X.stack) : (still X s.heap H).get? b = some o := by
  refine PySem.W.hideAll_get _ e fun hm => ?_
  rcases List.mem_append.mp hm with h | h
  · have q : (H b).isSome = true := (List.mem_filter.mp h).2
    rw [n] at q
    cases q
  · exact f h
theorem frames_stay (I : Inv X pins σ H s) {b : Addr} {o : Obj} (e : X.base.get? b = some o) : b ∉ frs X.stack := fun hb => by
  rw [(I.stack.mem hb).1] at e
  cases e
theorem still_base (I : Inv X pins σ H s) : ∀ b o, X.base.get? b = some o → (still X s.heap H).get? b = some o := fun b o e =>
  still_get (I.bs b o e).1 (I.bs b o e).2 (frames_stay I e)
theorem still_mod (I : Inv X pins σ H s) : L2.Mod X.K X.mg (still X s.heap H) := by
  have k := still_base I
  obtain ⟨mb, h1, h2⟩ := I.mod.blt
  exact ⟨I.mod.kin.keeps k, I.mod.glob.keeps k, ⟨mb, h1.keeps k, h2⟩, I.mod.nolimit.keeps k⟩
theorem still_env (I : Inv X pins σ H s) : Env0 X.prog X.w X.K X.mg (still X s.heap H) X.A X.stack s H := by
  have hs : (still X s.heap H).objs.size = s.heap.objs.size := PySem.W.hideAll_size _ _
  refine ⟨I.ok.frames, still_mod I, fun b o e => still_of e, Nat.le_of_eq hs, ?_, I.stkFree, I.hok, I.bare⟩
  refine PySem.W.funFrames_hide I.stack fun env he a ha => ?_
  refine List.mem_append_right _ ?_
  exact List.mem_filterMap.mpr ⟨env, he, ha⟩
theorem still_cells (I : Inv X pins σ H s) (hfn : ∀ y, X.fn y = true) (c : Caps X cl fr js) : CellsIn cl fr (js.map (slotAt σ)) (still X s.heap H) := by
  have C := cells_of I c
  have up : ∀ {y : Str} {a : Addr} {v : Option Value}, cl.lookup y = some a → s.heap.IsCell a v → (still X s.heap H).IsCell a v := fun {y a v} e z => by
    obtain ⟨o, ho, hd⟩ := z
    have ea := c.sub y a e
    refine ⟨o, still_get ho (C.all y a e).1 fun hf => ?_, hd⟩
    rcases List.mem_cons.mp (I.stkSub a hf) with q | q
    · exact I.cne y a ea q
    · obtain ⟨_, o2, h2, _⟩ := I.ok.funs.mem q
      exact absurd (Nat.lt_of_lt_of_le (Heap.lt_size h2) (I.ok.cab y a (hfn y) ea)) (Nat.lt_irrefl _)
  constructor
  · exact C.len
  · intro y a e
    obtain ⟨_, v, z⟩ := C.all y a e
    exact ⟨v, up e z⟩
  · exact C.inj
  · intro i y e
    obtain ⟨a, e1, e2⟩ := C.has i y e
    refine ⟨a, e1, fun v hv => ?_⟩
    obtain ⟨u, r, z⟩ := e2 v hv
    exact ⟨u, r, up e1 z⟩
end

/-- cells of a function made here: those that it captured, their names, the slots where they stand -/
abbrev CloAt := List (Str × Addr) × List Str × List Nat
/-- f(..) where the arguments hold functions made here -/
def tCallStill (cs : List CloAt) (sp : Heap → Sp) (E : XK) (t : TA) : TE := fun σ H Q => t σ H fun vs H1 => ∀ b, (∀ c ∈ cs, CellsIn c.1 c.2.1 (c.2.2.map (slotAt σ)) b) → sp b vs H1 Q E
section
variable {X : Cx} {CX : CXT} {k i : Nat} {f : Addr} {fd : FuncData} {ps : List Str} {x : Str} {p pos : Pos} {e : Expr} {es : List Expr} {t : TA} {E : XK}
theorem pe_callStill {cs : List CloAt} {sp : Heap → Sp} (F : ∀ b, FnOk X.prog X.w X.K X.mg b CX k f fd ps (sp b)) (hr : Room k X.A) (hg : Gl X x) (hm : X.mg x = some (.ref f)) (hk : PySem.W.keepIn X.K (.ref f) = true) (hb : Binds X.K fd ps [])
    (hx : Passes CX X E) (hfn : ∀ y, X.fn y = true) (cp : X.Ok → ∀ c ∈ cs, Caps X c.1 c.2.1 c.2.2) (ha : PA X (e :: es) t) (hdb : (x == ("__debug__" : Str)) = false := by decide)
    (he : starEach (e :: es) X.env = (false, eval e X.env) :: starEach es X.env := by rfl) (hpl : (backTo pos (starEach es X.env)).any (·.1) = false := by rfl) :
    PE X (.Call (.Name x p) (e :: es) [] pos) (tCallStill cs sp E t) := by
  constructor
  intro pins s σ H Q I h
  refine wpAny_Call_Name_kw (ld_glob I hg hm ?_ hdb)
  refine PySem.W.callWith_K (h₀ := X.base) I.ok.mod.kin hk (thn (ha.run pos pins s σ H _ I h) ?_) he hpl
  rintro us s1 ⟨vs, H1, I1, r, q⟩
  refine ⟨I1.kIn, ?_⟩
  have q1 := q (still X s1.heap H1) fun c hc => still_cells I1 hfn (cp I1.ok c hc)
  have hl : us.length = ps.length := by
    rw [← r.length]
    exact (F _).len _ _ _ _ q1
  have hbd := hb s1 us I1.kIn (by rw [List.append_nil]; exact hl)
  rw [List.append_nil] at hbd
  refine wpAny_call (codeAny_mono ((F _).run X.A X.stack s1 H1 ⟨us, []⟩ us vs Q E hr (still_env I1) hbd r q1) ?_)
  intro r' s' hq
  cases r' with
  | error e => exact hx pins σ H1 s1 e s' I1 hq
  | ok fl =>
    cases fl with
    | ret u => exact I1.after hq
    | _ => exact False.elim hq

/-- the function at f, made by a def further out, keeps sp -/
def Clo (P : Program) (w : World) (K : PySem.W.Frag) (mg : Str → Option Value) (base : Heap) (k : Nat) (f : Addr) (H : Hp) (sp : Sp) : Prop :=
  ∃ (F : NF) (ps fr : List Str) (ws : List (Option V)) (spn : List (Option V) → Sp), H f = some (FnO f F) ∧ H F.c = some (CodeO F.c F.qual) ∧ CellsIn F.cl fr ws base ∧ NOk P w K mg base CX0 k f F ps fr spn ∧ ∀ vs H1 Q E, sp vs H1 Q E → spn ws vs H1 Q E
theorem Clo.ext {P : Program} {w : World} {K : PySem.W.Frag} {mg : Str → Option Value} {base : Heap} {k : Nat} {f : Addr} {H H' : Hp} {sp : Sp} (c : Clo P w K mg base k f H sp) (e : ExtN H H') : Clo P w K mg base k f H' sp := by
  obtain ⟨F, ps, fr, ws, spn, h1, h2, h3⟩ := c
  exact ⟨F, ps, fr, ws, spn, e _ _ h1 fnO_ne, e _ _ h2 codeO_ne, h3⟩
/-- g(..), g a name that holds such a function -/
def tCallClo (P : Program) (w : World) (K : PySem.W.Frag) (mg : Str → Option Value) (base : Heap) (k i : Nat) (t : TA) : TE := fun σ H Q => ∃ f sp, σ[i]? = some (some (.ref f)) ∧ Clo P w K mg base k f H sp ∧ t σ H fun vs H1 => Clo P w K mg base k f H1 sp ∧ sp vs H1 Q E0
theorem pe_callClo {j : Nat} (hr : Room j X.A) (hkj : k ≤ j) (hx : Passes CX0 X E0) (hN : X.N[i]? = some x) (hv : Vis X.env.scope x) (ha : PA X (e :: es) t)
    (hd : (x == ("__debug__" : Str)) = false := by decide) (hcd : (x == ("__classdict__" : Str)) = false := by decide)
    (he : starEach (e :: es) X.env = (false, eval e X.env) :: starEach es X.env := by rfl) (hpl : (backTo pos (starEach es X.env)).any (·.1) = false := by rfl) :
    PE X (.Call (.Name x p) (e :: es) [] pos) (tCallClo X.prog X.w X.K X.mg X.base k i t) := by
  constructor
  intro pins s σ H Q I h
  obtain ⟨f, sp, hs, ⟨F0, _, _, _, _, hf0, _⟩, ht⟩ := h
  refine wpAny_Call_Name_kw (thn ((pe_var (pos := p) hN hv hd hcd).run pins s σ H (fun v H1 => v = .ref f ∧ H1 = H) I ⟨.ref f, hs, rfl, rfl⟩) ?_)
  rintro u s1 ⟨v, H1, I1, r1, ev, eH⟩
  subst ev eH
  obtain rfl : u = Value.ref f := r1
  refine PySem.W.callWith_F (first := []) (fnAt_of I1 hf0) (thn (ha.run pos pins s1 σ _ _ I1 ht) ?_) he hpl
  rintro us s2 ⟨vs, H2, I2, r, ⟨F, ps, fr, ws, spn, hf, hc, hC, hN2, imp⟩, q⟩
  refine ⟨fnAt_of I2 hf, ?_⟩
  show wpAny _ _ (call (.ref f) us) _ _ _
  refine wpAny_call (codeAny_mono (hN2.run X.A X.stack s2 H2 us vs ws Q E0 (hr.mono hkj) I2.env0 hf hc (hC.here I2) r (imp _ _ _ _ q)) ?_)
  intro r' s' hq
  cases r' with
  | error e => exact hx pins σ H2 s2 e s' I2 hq
  | ok fl =>
    cases fl with
    | ret u => exact I2.after hq
    | _ => exact False.elim hq
end
end Nw
end
section
set_option maxRecDepth 100000
set_option maxHeartbeats 2000000
namespace Nw
open PySem PySem.Spec PyProof.Rows L2

mutual
/-- the value v is the key k -/
inductive KeyAt (H : Hp) : NestedKey → V → Prop
  | non : KeyAt H .none .non
  | num (i : Int) : KeyAt H (.num i) (.int i)
  | tup {ks vs a} : H a = some (.tup vs) → KeysAt H ks vs → KeyAt H (.tup ks) (.ref a)
inductive KeysAt (H : Hp) : List NestedKey → List V → Prop
  | nil : KeysAt H [] []
  | cons {k v ks vs} : KeyAt H k v → KeysAt H ks vs → KeysAt H (k :: ks) (v :: vs)
end
section
variable {P : Program} {w : World} {H H' : Hp} {h : Heap}
mutual
theorem KeyAt.is (ok : HOk P w H h) : ∀ (k : NestedKey) (v : V) (u : Value), KeyAt H k v → RelV v u → NestedIs h k u
  | .none, _, u, x, r => by
    cases x
    cases r
    exact .none
  | .num i, _, u, x, r => by
    cases x
    obtain ⟨t, e⟩ := r
    subst e
    exact .int i t
  | .text _, _, _, x, _ => by cases x
  | .tup ks, _, u, x, r => by
    cases x with
    | tup e hk =>
      cases r
      obtain ⟨_, its, rv, o, h1, h2, n, h3⟩ := ok _ _ e
      exact .tup h1 h2 h3 (by simpa using KeysAt.is ok ks _ its hk rv)
theorem KeysAt.is (ok : HOk P w H h) : ∀ (ks : List NestedKey) (vs : List V) (us : List Value), KeysAt H ks vs → Vals vs us → NestedAll h ks us
  | [], _, _, x, r => by
    cases x
    cases r
    exact .nil
  | k :: ks, _, _, x, r => by
    cases x with
    | cons x1 x2 =>
      cases r with
      | cons r1 r2 => exact .cons (KeyAt.is ok k _ _ x1 r1) (KeysAt.is ok ks _ _ x2 r2)
end
mutual
theorem KeyAt.up (t : ∀ b xs, H b = some (.tup xs) → H' b = some (.tup xs)) : ∀ (k : NestedKey) (v : V), KeyAt H k v → KeyAt H' k v
  | .none, _, x => by
    cases x
    exact .non
  | .num i, _, x => by
    cases x
    exact .num i
  | .text _, _, x => by cases x
  | .tup ks, _, x => by
    cases x with
    | tup e hk => exact .tup (t _ _ e) (KeysAt.up t ks _ hk)
theorem KeysAt.up (t : ∀ b xs, H b = some (.tup xs) → H' b = some (.tup xs)) : ∀ (ks : List NestedKey) (vs : List V), KeysAt H ks vs → KeysAt H' ks vs
  | [], _, x => by
    cases x
    exact .nil
  | k :: ks, _, x => by
    cases x with
    | cons x1 x2 => exact .cons (KeyAt.up t k _ x1) (KeysAt.up t ks _ x2)
end
end

/-- an entry: its key, where the key's tuple stands, what it holds -/
abbrev WX := NestedKey × Addr × V
def WR (x : WX) (z : NestedKey × Addr × Value) : Prop := x.1 = z.1 ∧ x.2.1 = z.2.1 ∧ RelV x.2.2 z.2.2
def tailE (w : World) : Option Value → List DictEntry
  | none => []
  | some u => [⟨NestedKey.hash w .none, .none, u⟩]
/-- the dict at d: entries by tuples, then maybe what None holds -/
def WDO (P : Program) (w : World) (d : Addr) (xs : List WX) (tl : Option V) : HO := .ext fun h => (d == sysModules) = false ∧ ∃ zs tu o es ep, Paired WR xs zs ∧ RelO tl tu ∧
  h.get? d = some o ∧ o.ExactDict ∧ o.data = .dict es ep ∧ es.toList = zs.map (entryOfKey (nestedKind P w)) ++ tailE w tu
def KeysOk (H : Hp) (xs : List WX) : Prop := (∀ x ∈ xs, KeyAt H x.1 (.ref x.2.1) ∧ x.1.depth ≤ 8) ∧ (xs.map (·.1)).Nodup
def NoColl (w : World) (xs : List WX) : Prop := ∀ x ∈ xs, NestedKey.hash w x.1 ≠ NestedKey.hash w .none

theorem WDO_ne {P : Program} {w : World} {d : Addr} {xs : List WX} {tl : Option V} {ys : List V} : WDO P w d xs tl ≠ .tup ys := fun z => by
  unfold WDO at z
  cases z
theorem wr_mem : ∀ {xs : List WX} {zs : List (NestedKey × Addr × Value)}, Paired WR xs zs → ∀ z ∈ zs, ∃ x ∈ xs, WR x z
  | _, _, .nil, z, hz => by cases hz
  | _, _, .cons r t, z, hz => by
    rcases List.mem_cons.mp hz with e | hz
    · subst e
      exact ⟨_, List.mem_cons_self, r⟩
    · obtain ⟨x, hx, q⟩ := wr_mem t z hz
      exact ⟨x, List.mem_cons_of_mem _ hx, q⟩
theorem wr_keys : ∀ {xs : List WX} {zs : List (NestedKey × Addr × Value)}, Paired WR xs zs → xs.map (·.1) = zs.map (·.1)
  | _, _, .nil => rfl
  | _, _, .cons r t => by rw [List.map_cons, List.map_cons, r.1, wr_keys t]
/-- what stands at a key -/
def valW (xs : List WX) (k : NestedKey) : Option V := (xs.find? fun x => decide (x.1 = k)).map (·.2.2)
theorem wr_val (k : NestedKey) : ∀ {xs : List WX} {zs : List (NestedKey × Addr × Value)}, Paired WR xs zs → RelO (valW xs k) ((atKey zs k).map (·.2))
  | _, _, .nil => True.intro
  | x :: xs, z :: zs, .cons r t => by
    unfold valW atKey
    rw [List.find?_cons, List.find?_cons, ← r.1]
    by_cases e : x.1 = k
    · rw [decide_eq_true e]
      exact r.2.2
    · rw [decide_eq_false e]
      exact wr_val k t
theorem wr_any (k : NestedKey) : ∀ {xs : List WX} {zs : List (NestedKey × Addr × Value)}, Paired WR xs zs → (xs.any fun x => decide (x.1 = k)) = (atKey zs k).isSome
  | _, _, .nil => rfl
  | x :: xs, z :: zs, .cons r t => by
    unfold atKey
    rw [List.any_cons, List.find?_cons, ← r.1]
    by_cases e : x.1 = k
    · rw [decide_eq_true e]
      rfl
    · rw [decide_eq_false e, Bool.false_or, wr_any k t]
      rfl

section
variable {P : Program} {w : World} {A : Around} {E : Value → Shared → Prop} {s : Shared} {d : Addr}
/-- where None stands -/
theorem none_places {zs : List (NestedKey × Addr × Value)} {tu : Option Value} {es : Array DictEntry} (he : es.toList = zs.map (entryOfKey (nestedKind P w)) ++ tailE w tu) (hnc : ∀ z ∈ zs, NestedKey.hash w z.1 ≠ NestedKey.hash w .none) :
    placesWithHash es.size (fun i => es[i]?.map (·.hash)) (NestedKey.hash w .none) = (match tu with | none => [] | some _ => [zs.length]) := by
  have low : ∀ i, i < zs.length → ((es[i]?.map (·.hash)) == some (NestedKey.hash w .none)) = false := fun i hi => by
    rw [← Array.getElem?_toList, he, List.getElem?_append_left (by rw [List.length_map]; exact hi), List.getElem?_map, List.getElem?_eq_getElem hi]
    have q := hnc zs[i] (List.getElem_mem hi)
    simpa [entryOfKey, nestedKind] using q
  have lowF : (List.range zs.length).filter (fun i => (es[i]?.map (·.hash)) == some (NestedKey.hash w .none)) = [] := List.filter_eq_nil_iff.mpr fun i hi => by
    rw [low i (List.mem_range.mp hi)]
    decide
  have sz : es.size = zs.length + (tailE w tu).length := by rw [← Array.length_toList, he, List.length_append, List.length_map]
  unfold placesWithHash
  cases tu with
  | none =>
    have : es.size = zs.length := sz
    rw [this]
    exact lowF
  | some u =>
    have : es.size = zs.length + 1 := sz
    rw [this, List.range_succ, List.filter_append, lowF, List.nil_append]
    have q : ((es[zs.length]?.map (·.hash)) == some (NestedKey.hash w .none)) = true := by
      rw [← Array.getElem?_toList, he, List.getElem?_append_right (by rw [List.length_map]; exact Nat.le_refl _), List.length_map, Nat.sub_self]
      simp [tailE]
    simp [q]
theorem none_at {zs : List (NestedKey × Addr × Value)} {u : Value} {es : Array DictEntry} (he : es.toList = zs.map (entryOfKey (nestedKind P w)) ++ tailE w (some u)) : es[zs.length]? = some ⟨NestedKey.hash w .none, .none, u⟩ := by
  rw [← Array.getElem?_toList, he, List.getElem?_append_right (by rw [List.length_map]; exact Nat.le_refl _), List.length_map, Nat.sub_self]
  rfl
theorem none_find {zs : List (NestedKey × Addr × Value)} {tu : Option Value} {o : Obj} {es : Array DictEntry} {ep : Nat} {Q : Option Nat → Shared → Prop} (ho : s.heap.get? d = some o) (hd : o.data = .dict es ep)
    (he : es.toList = zs.map (entryOfKey (nestedKind P w)) ++ tailE w tu) (hnc : ∀ z ∈ zs, NestedKey.hash w z.1 ≠ NestedKey.hash w .none) (h : Q (match tu with | none => none | some _ => some zs.length) s) :
    wpAny (model P w) A (dictFind d .none (NestedKey.hash w .none)) Q E s := by
  have pl := none_places he hnc
  unfold dictFind
  try with_reducible refine wpAny_holding ?_
  refine wpAny_bind (wpAny_dictEntries ho hd ?_)
  dsimp only
  rw [pl]
  cases tu with
  | none =>
    dsimp only
    rw [if_pos (by rfl)]
    exact wpAny_bind (wpAny_forIn_list _ (fun rest b s' => rest = [] ∧ b = (none, ()) ∧ s' = s) _ (fun x rest b s' z => by cases z.1) (fun b s' z => by
      obtain ⟨_, rfl, rfl⟩ := z
      exact wpAny_pure h) _ _ ⟨rfl, rfl, rfl⟩)
  | some u =>
    have at0 := none_at he
    dsimp only
    have hall : ((Value.none :: [zs.length].filterMap fun i => es[i]?.map (·.key)).all carriedByValue) = true := by
      rw [List.filterMap_cons, at0]
      rfl
    rw [if_pos hall]
    unfold dictWalkPlain
    rw [List.forIn_cons]
    refine wpAny_bind (wpAny_bind ?_)
    rw [at0]
    dsimp only
    rw [if_pos (by simp)]
    refine wpAny_bind (wpAny_dictEpoch ho hd (wpAny_bind ?_))
    refine SeqAt.EqAt.same (Value.none) _ _ _ _ ?_
    refine wpAny_bind (wpAny_dictEpoch ho hd ?_)
    show wpAny _ _ (if (ep != ep) = true then _ else _) _ E _
    rw [if_neg (by simp)]
    exact wpAny_bind (wpAny_rule (wpAny_pure (wpAny_pure (wpAny_pure h))))
end

section
variable {X : Cx} {pins : List (Addr × Obj)} {σ : L2.St} {H : Hp} {s : Shared} {d : Addr} {xs : List WX} {tl : Option V}
theorem wd_at (I : Inv X pins σ H s) (e : H d = some (WDO X.prog X.w d xs tl)) : (d == sysModules) = false ∧ ∃ zs tu o es ep, Paired WR xs zs ∧ RelO tl tu ∧
    s.heap.get? d = some o ∧ o.ExactDict ∧ o.data = .dict es ep ∧ es.toList = zs.map (entryOfKey (nestedKind X.prog X.w)) ++ tailE X.w tu := (I.hok d _ e).1
theorem wd_type (I : Inv X pins σ H s) (e : H d = some (WDO X.prog X.w d xs tl)) : s.TypeIs (.ref d) "dict" := by
  obtain ⟨_, zs, tu, o, es, ep, _, _, ho, hc, _⟩ := wd_at I e
  exact ⟨o, ho, hc.1⟩
/-- without None it is a dict of the library's -/
theorem wd_dict (I : Inv X pins σ H s) (e : H d = some (WDO X.prog X.w d xs none)) (ks : KeysOk H xs) : ∃ zs, Paired WR xs zs ∧ s.heap.DictOfH (nestedKind X.prog X.w) d zs := by
  obtain ⟨_, zs, tu, o, es, ep, pr, rt, ho, hc, hd, he⟩ := wd_at I e
  cases tu with
  | some u => exact False.elim rt
  | none =>
    refine ⟨zs, pr, o, es, ep, ho, hc, hd, by rw [he]; exact List.append_nil _, fun z hz => ?_, ?_⟩
    · obtain ⟨x, hx, r1, r2, _⟩ := wr_mem pr z hz
      obtain ⟨k1, k2⟩ := ks.1 x hx
      rw [← r1, ← r2]
      exact ⟨KeyAt.is I.hok _ _ _ k1 rfl, k2⟩
    · rw [← wr_keys pr]
      exact ks.2
/-- the dict's object with what it holds now -/
theorem wd_new {P : Program} {w : World} {H' : Hp} {h' : Heap} {zs : List (NestedKey × Addr × Value)} {tu : Option Value} {o : Obj} {es : Array DictEntry} {ep : Nat} (hd : (d == sysModules) = false) (pr : Paired WR xs zs) (rt : RelO tl tu) (ho : h'.get? d = some o)
    (hc : o.ExactDict) (hdat : o.data = .dict es ep) (he : es.toList = zs.map (entryOfKey (nestedKind P w)) ++ tailE w tu) : ObjOk P w H' h' d (WDO P w d xs tl) := by
  refine ⟨⟨hd, zs, tu, o, es, ep, pr, rt, ho, hc, hdat, he⟩, ⟨o, ho⟩, ?_⟩
  rintro h1 h2 ⟨a, zs, tu, o, es, ep, b1, b2, b3, b4⟩ st
  exact ⟨a, zs, tu, o, es, ep, b1, b2, st _ b3, b4⟩
theorem wr_snoc : ∀ {xs : List WX} {zs : List (NestedKey × Addr × Value)} {x : WX} {z : NestedKey × Addr × Value}, Paired WR xs zs → WR x z → Paired WR (xs ++ [x]) (zs ++ [z])
  | _, _, _, _, .nil, r => .cons r .nil
  | _, _, _, _, .cons a t, r => .cons a (wr_snoc t r)
theorem wr_nc {w : World} {zs : List (NestedKey × Addr × Value)} (pr : Paired WR xs zs) (nc : NoColl w xs) : ∀ z ∈ zs, NestedKey.hash w z.1 ≠ NestedKey.hash w .none := fun z hz => by
  obtain ⟨x, hx, r1, _⟩ := wr_mem pr z hz
  rw [← r1]
  exact nc x hx

/-- what the dict gives at y -/
def WGet (P : Program) (w : World) (H : Hp) (d : Addr) (y : V) (r : Option V) : Prop := ∃ xs tl, H d = some (WDO P w d xs tl) ∧
  ((∃ k a, y = .ref a ∧ KeyAt H k (.ref a) ∧ k.depth ≤ 8 ∧ KeysOk H xs ∧ tl = none ∧ r = valW xs k) ∨ (y = .non ∧ NoColl w xs ∧ r = tl))
/-- the heap behind a store at a new key -/
def WPut (P : Program) (w : World) (H : Hp) (d : Addr) (y v : V) (H' : Hp) : Prop := ∃ xs, H d = some (WDO P w d xs none) ∧ xs.length < sizeLine ∧
  ((∃ k a, y = .ref a ∧ KeyAt H k (.ref a) ∧ k.depth ≤ 8 ∧ KeysOk H xs ∧ valW xs k = none ∧ H' = upd H d (WDO P w d (xs ++ [(k, a, v)]) none)) ∨ (y = .non ∧ NoColl w xs ∧ H' = upd H d (WDO P w d xs (some v))))
variable {A : Around} {E : Value → Shared → Prop} {y v : V} {u r : Value}
theorem w_none_get {Q : Option Value → Shared → Prop} {zs : List (NestedKey × Addr × Value)} {tu : Option Value} {o : Obj} {es : Array DictEntry} {ep : Nat} {P : Program} {w : World} (hu : A.units < cLine) (ho : s.heap.get? d = some o) (hd : o.data = .dict es ep)
    (he : es.toList = zs.map (entryOfKey (nestedKind P w)) ++ tailE w tu) (hnc : ∀ z ∈ zs, NestedKey.hash w z.1 ≠ NestedKey.hash w .none) (h : Q tu { s with toks := s.toks + 1 }) : wpAny (model P w) A (dictGet d .none) Q E s := by
  unfold dictGet
  try with_reducible refine wpAny_holding ?_
  refine wpAny_bind (pyHash_key .none .none A s _ .none hu ?_)
  refine wpAny_bind (none_find (s := { s with toks := s.toks + NestedKey.none.draws }) ho hd he hnc ?_)
  cases tu with
  | none => exact wpAny_pure h
  | some z =>
    refine wpAny_bind (wpAny_dictEntries (s := { s with toks := s.toks + NestedKey.none.draws }) ho hd ?_)
    rw [none_at he]
    exact wpAny_pure h
theorem w_getItem {Q : Value → Shared → Prop} (hu : A.units + 9 < cLine) (I : Inv X pins σ H s) (g : WGet X.prog X.w H d y (some v)) (ry : RelV y u) (h : ∀ w' s', Inv X pins σ H s' → RelV v w' → Q w' s') :
    wpAny (model X.prog X.w) A (getItem (.ref d) u) Q E s := by
  obtain ⟨xs, tl, e, g⟩ := g
  rcases g with ⟨k, a, ey, hk, dp, ks, et, er⟩ | ⟨ey, nc, er⟩
  · subst ey et
    cases (show u = Value.ref a from ry)
    obtain ⟨zs, pr, dd⟩ := wd_dict I e ks
    obtain ⟨w', hw, rw'⟩ := RelO.some_of (v := v) (o := (atKey zs k).map (·.2)) (by rw [er]; exact wr_val k pr)
    obtain ⟨p, hp, hp2⟩ := Option.map_eq_some_iff.mp hw
    refine wpAny_getItem_heap (knd := nestedKind X.prog X.w) (k := k) (show A.in1.units + 8 < cLine by rw [Around.in1_units]; omega) ⟨KeyAt.is I.hok _ _ _ hk rfl, dp⟩ dd hp ?_
    rw [hp2]
    exact h w' _ (I.tok _) rw'
  · subst ey er
    cases (show u = Value.none from ry)
    have ty := wd_type I e
    obtain ⟨_, zs, tu, o, es, ep, pr, rt, ho, hc, hd, he⟩ := wd_at I e
    obtain ⟨w', hw, rw'⟩ := RelO.some_of rt
    subst hw
    unfold getItem
    try with_reducible refine wpAny_holding ?_
    refine wpAny_bind (wpAny_sequenceKey ty (by decide) ?_)
    refine wpAny_bind (wpAny_callSpecial?_slot (name := Str.ofString "__getitem__") ty slot_dict_getitem (wpAny_call_entry slot_dict_getitem ty entry_dict_getitem ?_ (args_dict_getitem _ _)))
    show wpAny _ _ (dictGet d .none >>= _) _ _ s
    refine wpAny_bind (w_none_get (by rw [Around.in1_units]; omega) ho hd he (wr_nc pr nc) ?_)
    exact wpAny_pure ⟨w', rfl, wpAny_pure (h w' _ (I.tok _) rw')⟩
theorem w_notIn {Q : Value → Shared → Prop} {ov : Option V} (hu : A.units + 9 < cLine) (I : Inv X pins σ H s) (g : WGet X.prog X.w H d y ov) (ry : RelV y u) (h : ∀ s', Inv X pins σ H s' → Q (.bool (!ov.isSome)) s') :
    wpAny (model X.prog X.w) A (compareOp .NotIn u (.ref d)) Q E s := by
  obtain ⟨xs, tl, e, g⟩ := g
  have hd0 := (wd_at I e).1
  rcases g with ⟨k, a, ey, hk, dp, ks, et, er⟩ | ⟨ey, nc, er⟩
  · subst ey et
    cases (show u = Value.ref a from ry)
    obtain ⟨zs, pr, dd⟩ := wd_dict I e ks
    refine wpAny_notIn_heap (knd := nestedKind X.prog X.w) (k := k) (show A.in1.units + 8 < cLine by rw [Around.in1_units]; omega) ⟨KeyAt.is I.hok _ _ _ hk rfl, dp⟩ hd0 dd ?_
    have q := (wr_val k pr).isSome_eq
    rw [Option.isSome_map] at q
    rw [← q, ← er]
    exact h _ (I.tok _)
  · subst ey er
    cases (show u = Value.none from ry)
    have ty := wd_type I e
    obtain ⟨_, zs, tu, o, es, ep, pr, rt, ho, hc, hd, he⟩ := wd_at I e
    show wpAny _ _ (do return .bool (!(← contains (.ref d) .none))) Q E s
    refine wpAny_bind ?_
    unfold contains
    try with_reducible refine wpAny_holding ?_
    refine wpAny_bind (wpAny_specialOf ty slot_dict_contains.lookup ?_)
    show wpAny _ _ (if (some (Value.builtin "dict.__contains__") == some Value.none) = true then _ else _) _ E s
    rw [if_neg (by rw [beq_builtin_none]; exact Bool.false_ne_true)]
    refine wpAny_bind (wpAny_callSpecialUnlessNone?_slot (name := Str.ofString "__contains__") ty slot_dict_contains (wpAny_call_entry slot_dict_contains ty entry_dict_contains ?_ (args_dict_contains _ _)))
    show wpAny _ _ (dictGet d .none >>= _) _ _ s
    refine wpAny_bind (w_none_get (by rw [Around.in1_units]; omega) ho hd he (wr_nc pr nc) ?_)
    have q := rt.isSome_eq
    cases tu with
    | some z =>
      rw [q] at h
      show wpAny _ _ (ret (.bool true)) _ _ _
      exact wpAny_pure ⟨_, rfl, wpAny_truthy_bool (wpAny_pure (h _ (I.tok _)))⟩
    | none =>
      rw [q] at h
      show wpAny _ _ (Builtin.Dict.pendingKey? d .none >>= _) _ _ _
      exact wpAny_bind (wpAny_pendingKey_other hd0 (wpAny_pure ⟨_, rfl, wpAny_truthy_bool (wpAny_pure (h _ (I.tok _)))⟩))
theorem w_dictSet {Q : Unit → Shared → Prop} {H' : Hp} (hu : A.units + 8 < cLine) (I : Inv X pins σ H s) (g : WPut X.prog X.w H d y v H') (ry : RelV y u) (rv : RelV v r) (h : ∀ s', Inv X pins σ H' s' → Q () s') :
    wpAny (model X.prog X.w) A (dictSet d u r) Q E s := by
  obtain ⟨xs, e, hl, g⟩ := g
  have hd0 := (wd_at I e).1
  rcases g with ⟨k, a, ey, hk, dp, ks, hno, eH⟩ | ⟨ey, nc, eH⟩
  · subst ey eH
    cases (show u = Value.ref a from ry)
    obtain ⟨zs, pr, dd⟩ := wd_dict I e ks
    have hz : zs.length ≤ sizeLine := by rw [← Paired.length pr]; omega
    have hn : atKey zs k = none := by
      have q := (wr_val k pr).isSome_eq
      rw [hno, Option.isSome_map] at q
      exact Option.isNone_iff_eq_none.mp (by simpa using q.symm)
    refine wpAny_dictSet_heap (knd := nestedKind X.prog X.w) (k := k) (hsz := hz) hu ⟨KeyAt.is I.hok _ _ _ hk rfl, dp⟩ dd fun h' dd' hs => h _ ?_
    rw [storedH_new hn] at dd'
    obtain ⟨q, es, ep, hq, hc, hdt, he, _, _⟩ := dd'
    refine d_write I (by rw [e]; exact True.intro) hs ⟨q, hq⟩ ?_
    exact wd_new hd0 (wr_snoc (x := (k, a, v)) (z := (k, a, r)) pr ⟨rfl, rfl, rv⟩) (tu := none) True.intro hq hc hdt (by rw [he]; exact (List.append_nil _).symm)
  · subst ey eH
    cases (show u = Value.none from ry)
    obtain ⟨_, zs, tu, o, es, ep, pr, rt, ho, hc, hd, he⟩ := wd_at I e
    cases tu with
    | some z => exact False.elim rt
    | none =>
      unfold dictSet
      try with_reducible refine wpAny_holding ?_
      refine wpAny_bind (pyHash_key .none .none A s _ .none (by show A.units + 0 < cLine; omega) ?_)
      unfold dictSetHashed
      try with_reducible refine wpAny_holding ?_
      refine wpAny_bind (none_find (s := { s with toks := s.toks + NestedKey.none.draws }) ho hd he (wr_nc pr nc) ?_)
      have hsz : es.size ≤ sizeLine := by
        rw [← Array.length_toList, he, List.length_append, List.length_map, ← Paired.length pr]
        show xs.length + 0 ≤ sizeLine
        omega
      refine wpAny_bind (wpAny_rule (wpAny_updateDictKeys (hz := hsz) (s := { s with toks := s.toks + NestedKey.none.draws }) ho hd (h _ ?_)))
      have hq : (s.heap.update d (Obj.mapDictKeys fun q => q.push ⟨NestedKey.hash X.w .none, .none, r⟩)).get? d = some (o.mapDictKeys fun q => q.push ⟨NestedKey.hash X.w .none, .none, r⟩) := Heap.get?_update_self _ ho (Obj.isFreed_of_dict (Obj.data_mapDictKeys hd _))
      refine d_write (I.tok (s.toks + NestedKey.none.draws)) (by rw [e]; exact True.intro) (Heap.SameBut.update ..) ⟨_, hq⟩ ?_
      refine wd_new hd0 pr (tu := some r) rv hq (hc.mapDictKeys _) (Obj.data_mapDictKeys hd _) ?_
      rw [Array.toList_push, he]
      show (zs.map _ ++ []) ++ [_] = zs.map _ ++ [_]
      rw [List.append_nil]
theorem w_setItem {Q : Unit → Shared → Prop} {H' : Hp} (hu : A.units + 9 < cLine) (I : Inv X pins σ H s) (g : WPut X.prog X.w H d y v H') (ry : RelV y u) (rv : RelV v r) (h : ∀ s', Inv X pins σ H' s' → Q () s') :
    wpAny (model X.prog X.w) A (setItem (.ref d) u r) Q E s := by
  have ty : s.TypeIs (.ref d) "dict" := let ⟨xs, e, _⟩ := g; wd_type I e
  unfold setItem
  try with_reducible refine wpAny_holding ?_
  refine wpAny_bind (wpAny_sequenceKey ty (by decide) ?_)
  refine wpAny_bind (wpAny_callSpecial?_slot (name := Str.ofString "__setitem__") ty slot_dict_setitem (wpAny_call_entry slot_dict_setitem ty entry_dict_setitem ?_ (args_dict_setitem _ _ _)))
  show wpAny _ _ (Builtin.Dict.notOrdered "__setitem__" ⟨[.ref d, u, r], []⟩ >>= _) _ _ s
  refine wpAny_bind (wpAny_notOrdered_dict ty ?_)
  show wpAny _ _ (dictSet d u r >>= _) _ _ s
  exact wpAny_bind (w_dictSet (by rw [Around.in1_units]; omega) I g ry rv fun s' I' => wpAny_pure ⟨.none, rfl, wpAny_pure (h s' I')⟩)
end

def one1 (Q : V → V → Hp → Prop) : List (V × V) → Hp → Prop
  | [(y, v)], H => Q y v H
  | _, _ => False
theorem one1_of {Q : V → V → Hp → Prop} : ∀ {ps : List (V × V)} {H : Hp}, one1 Q ps H → ∃ y v, ps = [(y, v)] ∧ Q y v H
  | [], _, h => h.elim
  | [(y, v)], _, h => ⟨y, v, rfl, h⟩
  | _ :: _ :: _, _, h => h.elim
def tWGet (P : Program) (w : World) (td ty : TE) : TE := fun σ H Q => td σ H fun x H1 => ty σ H1 fun y H2 => ∃ d v, x = .ref d ∧ WGet P w H2 d y (some v) ∧ Q v H2
def tWNotIn (P : Program) (w : World) (ty td : TE) : TE := fun σ H Q => ty σ H fun y H1 => td σ H1 fun x H2 => ∃ d o, x = .ref d ∧ WGet P w H2 d y o ∧ Q (.bl (!o.isSome)) H2
def sWPut (P : Program) (w : World) (td ty tv : TE) : TS := fun D σ H => tv σ H fun v H1 => td σ H1 fun x H2 => ty σ H2 fun y H3 => ∃ d H4, x = .ref d ∧ WPut P w H3 d y v H4 ∧ D.nx σ H4
/-- {k: v} -/
def tWNew (P : Program) (w : World) (tk tv : TE) : TE := fun σ H Q => ∀ d, H d = none → tk σ (upd H d (WDO P w d [] none)) fun y H1 => tv σ H1 fun v H2 => ∃ H3, WPut P w H2 d y v H3 ∧ Q (.ref d) H3
section
variable {X : Cx} {o i e value : Expr} {pos pos' tpos : Pos} {td ty tv tk : TE}
theorem pe_wget (hu : X.A.units + 9 < cLine) (ho : PE X o td) (hi : PE X i ty) (hs : NoSl i) : PE X (.Subscript o i pos) (tWGet X.prog X.w td ty) := by
  constructor
  intro pins s σ H Q I h
  refine subD_of PySem.F.slot_dict_getitem.lookup hs (thn (ho.run pins s σ H _ I h) ?_)
  rintro u s1 ⟨x, H1, I1, rx, q1⟩
  refine thn (hi.run pins s1 σ H1 _ I1 q1) ?_
  rintro iv s2 ⟨y, H2, I2, ry, d, v, ex, g, q2⟩
  subst ex
  obtain rfl : u = Value.ref d := rx
  exact ⟨(let ⟨xs, tl, e, _⟩ := g; wd_type I2 e), w_getItem hu I2 g ry fun w' s3 I3 rw' => ⟨v, H2, I3, rw', q2⟩⟩
theorem pc_wnotin (hu : X.A.units + 9 < cLine) (hi : PE X i ty) (ho : PE X o td) : PC X .NotIn i o (tWNotIn X.prog X.w ty td) := by
  constructor
  intro pins s σ H Q I h
  refine thn (hi.run pins s σ H _ I h) ?_
  rintro iv s1 ⟨y, H1, I1, ry, q1⟩
  refine thn (ho.run pins s1 σ H1 _ I1 q1) ?_
  rintro u s2 ⟨x, H2, I2, rx, d, ov, ex, g, q2⟩
  subst ex
  obtain rfl : u = Value.ref d := rx
  exact w_notIn hu I2 g ry fun s3 I3 => ⟨.bl (!ov.isSome), H2, I3, rfl, q2⟩
theorem ps_wput (hu : X.A.units + 9 < cLine) (ho : PE X o td) (hi : PE X i ty) (hv : PE X value tv) (hs : swapsWith value (some (.Subscript o i pos')) pos.line X.env = pure false) : PS X (.Assign [.Subscript o i pos'] value pos) (sWPut X.prog X.w td ty tv) := by
  constructor
  intro pins s σ H D I h
  refine wpAny_Assign_Subscript (thn (hv.run pins s σ H _ I h) ?_) hs
  rintro r s1 ⟨v, H1, I1, rv, q1⟩
  refine thn (ho.run pins s1 σ H1 _ I1 q1) ?_
  rintro u s2 ⟨x, H2, I2, rx, q2⟩
  refine thn (hi.run pins s2 σ H2 _ I2 q2) ?_
  rintro iv s3 ⟨y, H3, I3, ry, d, H4, ex, g, q3⟩
  subst ex
  obtain rfl : u = Value.ref d := rx
  exact w_setItem hu I3 g ry rv fun s4 I4 => ⟨σ, H4, I4, q3⟩
theorem pe_wnew {k v : Expr} (hu : X.A.units + 9 < cLine) (hk : PE X k tk) (hv : PE X v tv) : PE X (.Dict [some k] [v] pos) (tWNew X.prog X.w tk tv) := by
  constructor
  intro pins s σ H Q I h
  have hn := I.hok.fresh (Nat.le_refl s.heap.objs.size)
  have hb : (s.heap.objs.size == sysModules) = false := beq_eq_false_iff_ne.mpr (Ne.symm (Nat.ne_of_lt I.big))
  have I1 := I.laid (a := s.heap.objs.size) (o := WDO X.prog X.w s.heap.objs.size [] none) (h' := s.heap.push { cls := .type "dict", data := .dict #[] }) (t' := s.toks) (fun _ _ q => Heap.get?_push_of_some _ q) (Nat.le_refl _)
    (wd_new hb .nil (tu := none) True.intro (Heap.get?_push_size _ rfl) ⟨rfl, rfl, rfl⟩ rfl rfl)
  have pp : PPs X pos [some k] [v] [(tk, tv)] := pps_cons hk hv pps_nil
  have h0 : tk σ (upd H s.heap.objs.size (WDO X.prog X.w s.heap.objs.size [] none)) _ := h _ hn
  refine wpAny_Dict_any (by rfl) (by rfl) (fun z => by cases z) (by show 1 ≤ 15; decide) (thn (pp.run pins _ σ _ (one1 fun y v H2 => ∃ H3, WPut X.prog X.w H2 s.heap.objs.size y v H3 ∧ Q (.ref s.heap.objs.size) H3) I1 ?_) ?_)
  · exact h0
  · rintro ws s2 ⟨ps, H2, I2, rel, q⟩
    obtain ⟨y, z, rfl, H3, g, q⟩ := one1_of q
    cases rel with
    | @cons a b as bs r t =>
      cases t
      obtain ⟨b1, b2⟩ := b
      show wpAny _ _ (storeAll _ [(b1, b2)]) _ _ _
      unfold storeAll
      rw [List.forIn_cons]
      refine wpAny_bind (wpAny_bind (w_dictSet (by omega) I2 g r.1 r.2 fun s3 I3 => wpAny_pure ?_))
      show wpAny _ _ (forIn [] PUnit.unit _) _ _ _
      rw [List.forIn_nil]
      exact wpAny_pure ⟨.ref s.heap.objs.size, _, I3, rfl, q⟩
end
end Nw
end
section
set_option maxRecDepth 100000
set_option maxHeartbeats 2000000
namespace Nw
open PySem PySem.Spec PyProof.Rows L2 LamX PySem.W

section
variable {K : PySem.W.Frag} {H H' : Hp}
theorem sqL_up (s : Same H H') {a : Addr} {xs : List V} (h : SqL K H a xs) : SqL K H' a xs := s.seq h
theorem sqT_up (s : Same H H') {a : Addr} {xs : List V} (h : SqT K H a xs) : SqT K H' a xs := by
  rcases h with (h | ⟨o, h⟩) | h
  · exact .inl (.inl (s _ _ h))
  · exact .inl (.inr ⟨o, s _ _ h⟩)
  · exact .inr h
mutual
theorem dw_up (s : Same H H') : ∀ (d : WData) (v : V), Dw K H v d → Dw K H' v d
  | .none, _, x => by
    cases x
    exact .non
  | .bool b, _, x => by
    cases x
    exact .bl b
  | .int i, _, x => by
    cases x
    exact .int i
  | .str z, _, x => by
    cases x
    exact .str z
  | .bytes b, _, x => by
    cases x
    exact .byt _
  | .list ds, _, x => by
    cases x with
    | lst h1 h2 => exact .lst (sqL_up s h1) (dw_ups s ds _ h2)
  | .tuple ds, _, x => by
    cases x with
    | tup h1 h2 => exact .tup (sqT_up s h1) (dw_ups s ds _ h2)
  | .float _, _, x => by cases x
  | .dict _, _, x => by cases x
  | .bytearray _, _, x => by cases x
  | .set _, _, x => by cases x
  | .frozenset _, _, x => by cases x
  | .obj _ _, _, x => by cases x
theorem dw_ups (s : Same H H') : ∀ (ds : List WData) (vs : List V), DwAll K H vs ds → DwAll K H' vs ds
  | [], _, x => by
    cases x
    exact .nil
  | d :: ds, _, x => by
    cases x with
    | cons x1 x2 => exact .cons (dw_up s d _ x1) (dw_ups s ds _ x2)
end
end

/-- nothing is tracked but what is handed in, locked, and the tables -/
def OnlyT (ts : List Addr) (H : Hp) : Prop := ∀ b, H b = none ∨ b ∈ ts ∨ ∃ o u, H b = some (.frz o u)

theorem callT {P : Program} {w : World} {K : PySem.W.Frag} {mg mb : Str → Option Value} {CX : CXT} {k : Nat} {fa : Addr} {fd : FuncData} {ps : List Str} {sp : Sp} {cs : List (Addr × Addr)} {s₁ : Shared} {vals : List Value} {ds : List WData} {R : PySem.W.WRecords} {cl : Str → Option Addr} {d0 : WData}
    (KX : K.In s₁.heap) (hns : s₁.heap.Ns mainGlobals mg) (hb : s₁.heap.Ns builtinsNs mb) (hbb : ∀ x : Str, x ≠ "__name__" → mb x = bootBuiltins x) (hlim : s₁.heap.NoLimit) (hg : s₁.gens = #[])
    (hT : ∀ p ∈ cs, s₁.heap.get? p.2 = some { cls := .none, data := .fields #[] }) (nT : ∀ p ∈ cs, K.lookup p.2 = none) (C : ∀ p ∈ cs, PySem.W.CodeHd s₁.heap p.1 p.2)
    (hbm : ∃ (bm : Addr) (ob : Obj), mg "__builtins__" = some (.ref bm) ∧ bm ≠ builtinsNs ∧ s₁.heap.get? bm = some ob ∧ ob.cls = .type "module" ∧ ob.dict = some builtinsNs ∧ ob.data = .plain)
    (hwl : WellAll w.params s₁.heap vals ds) (hpl : plWs ds = true) (hwt : ∀ d ∈ ds, d.weight ≤ 1048576) (hr : Room k callerA)
    (F : ∀ base : Heap, K.In base → base.Ns mainGlobals mg → (∀ p ∈ cs, TabB base mg p.1 p.2) → FnOk P w K mg base CX k fa fd ps sp) (hbind : ∀ (s : Shared) (us : List Value), us.length = ps.length → BindsTo s fd ⟨us, []⟩ (ps.zip us)) (hlen : ds.length = ps.length)
    (hsp : ∀ (H : Hp) (xs : List V), (∀ p ∈ cs, H p.2 = some (.tbl #[])) → DwAll K H xs ds → sp xs H (fun v H' => Dw K H' v d0) fun _ _ _ => False)
    (hCX : ∀ H e s', CX [] H s₁ (fun _ _ _ => False) e s' → False) :
    codeAny (model P w) callerA (.call (.ref fa) ⟨vals, []⟩) (fun r s' => ∃ u as, r = .ok (.ret u) ∧ ReadsW R cl s'.heap u d0 as ∧ OldK s₁.heap s'.heap ∧ s'.os = s₁.os ∧ AllBare s'.gens) s₁ := by
  obtain ⟨A, ho, ar⟩ := area_all ds vals hwl hpl hwt
  -- what is tracked: what is handed in, and the tables
  let G : Hp := argH K s₁.heap A
  let H : Hp := fun b => if b ∈ cs.map (·.2) then some (.tbl #[]) else G b
  have isT : ∀ b : Addr, b ∈ cs.map (·.2) → s₁.heap.get? b = some { cls := .none, data := .fields #[] } := fun b hb => by
    obtain ⟨p, hp, e⟩ := List.mem_map.mp hb
    rw [← e]
    exact hT p hp
  have memT : ∀ p ∈ cs, p.2 ∈ cs.map (·.2) := fun p hp => List.mem_map.mpr ⟨p, hp, rfl⟩
  have gT : ∀ b : Addr, b ∈ cs.map (·.2) → G b = none := fun b hb => by
    cases q : G b with
    | none => rfl
    | some u =>
      have e1 := isT b hb
      obtain ⟨_, vs, _, _, ⟨e2, _⟩ | ⟨e2, _⟩⟩ := argH_is ar q
      all_goals
        rw [e1] at e2
        have z := congrArg Obj.data (Option.some.inj e2)
        cases z
  have hH : ∀ p ∈ cs, H p.2 = some (.tbl #[]) := fun p hp => if_pos (memT p hp)
  have same : Same G H := fun b o e => by
    have nb : ¬ b ∈ cs.map (·.2) := fun hb => by
      rw [gT b hb] at e
      cases e
    exact (if_neg nb).trans e
  have hcase : ∀ b u, H b = some u → (b ∈ cs.map (·.2) ∧ u = .tbl #[]) ∨ (b ∉ cs.map (·.2) ∧ G b = some u) := fun b u e => by
    by_cases hb : b ∈ cs.map (·.2)
    · have e' : (if b ∈ cs.map (·.2) then some (HO.tbl #[]) else G b) = some u := e
      rw [if_pos hb] at e'
      exact .inl ⟨hb, (Option.some.inj e').symm⟩
    · have e' : (if b ∈ cs.map (·.2) then some (HO.tbl #[]) else G b) = some u := e
      rw [if_neg hb] at e'
      exact .inr ⟨hb, e'⟩
  have hok0 : HOk P w G s₁.heap := argH_ok ar
  have hokG : ∀ b u, G b = some u → ObjOk P w G s₁.heap b u := fun b u e => hok0 b u e
  have hok : HOk P w H s₁.heap := fun b u e => by
    rcases hcase b u e with ⟨hb, rfl⟩ | ⟨hb, e'⟩
    · exact isT b hb
    · exact (hok0 b u e').stay (fun _ _ _ q => q) (fun c q => same _ _ q) fun c xs q => same _ _ q
  have hS : DwAll K H (vals.map toV) ds := dw_ups same ds _ (dw_all KX ar ds vals hwl hpl ho)
  have hV := vals_toV ho
  have hK : ∀ b u, H b = some u → K.lookup b = none := fun b u e => by
    rcases hcase b u e with ⟨hb, _⟩ | ⟨_, e'⟩
    · obtain ⟨p, hp, ep⟩ := List.mem_map.mp hb
      rw [← ep]
      exact nT p hp
    · exact (argH_is ar e').1
  -- an object that is no list, no tuple and no table is not tracked
  have noD : ∀ {b : Addr} {o : Obj}, s₁.heap.get? b = some o → (∀ vs n, o.data ≠ .seq vs n) → o.data ≠ .fields #[] → H b = none := fun {b o} e h1 h2 => by
    cases q : H b with
    | none => rfl
    | some u =>
      rcases hcase b u q with ⟨hb, _⟩ | ⟨_, e'⟩
      · rw [isT b hb] at e
        cases e
        exact (h2 rfl).elim
      · obtain ⟨_, vs, _, _, ⟨e2, _⟩ | ⟨e2, _⟩⟩ := argH_is ar e'
        all_goals
          rw [e2] at e
          cases e
          exact (h1 _ _ rfl).elim
  have noDict : ∀ {b : Addr} {o : Obj} {es : Array DictEntry} {ep : Nat}, s₁.heap.get? b = some o → o.data = .dict es ep → H b = none := fun {b o es ep} e d => by
    refine noD e (fun vs n z => ?_) fun z => ?_
    all_goals
      rw [d] at z
      cases z
  have base_of : ∀ {b : Addr} {o : Obj}, s₁.heap.get? b = some o → H b = none → (hidT s₁.heap H).get? b = some o := fun e n => hidT_get e n
  have nsK : ∀ {b : Addr} {m : Str → Option Value}, s₁.heap.Ns b m → (hidT s₁.heap H).Ns b m := fun {b m} z => by
    obtain ⟨o, es, ep, e, d, r⟩ := z
    exact ⟨o, es, ep, base_of e (noDict e d), d, r⟩
  have nK : ∀ b o, K.lookup b = some o → H b = none := fun b o e => by
    cases q : H b with
    | none => rfl
    | some u =>
      rw [hK b u q] at e
      cases e
  have hKb : K.In (hidT s₁.heap H) := fun b o e => base_of (KX b o e) (nK b o e)
  have hM : L2.Mod K mg (hidT s₁.heap H) := by
    obtain ⟨mc, h1, h2⟩ := hlim
    exact ⟨hKb, nsK hns, ⟨mb, nsK hb, hbb⟩, mc, nsK h1, h2⟩
  have TB : ∀ p ∈ cs, TabB (hidT s₁.heap H) mg p.1 p.2 := fun p hp => by
    have hTp := hT p hp
    constructor
    · obtain ⟨o, us, file, tf, flags, tg, inF, text, tt, e1, r1, r2, r3, r4, r5, r6, r7, r8, hne⟩ := C p hp
      refine ⟨o, us, file, tf, flags, tg, inF, text, tt, base_of e1 (noD e1 (fun vs n z => ?_) fun z => ?_), r1, r2, r3, r4, r5, r6, r7, r8, hne⟩
      · rw [r2] at z
        cases z
      · rw [r2] at z
        cases z
        simp at r3
    · obtain ⟨bm, o, b1, b2, b3, b4, b5, b6⟩ := hbm
      have nG : bm ≠ mainGlobals := fun q => by
        obtain ⟨o2, es, ep, e, hd, _⟩ := hns
        rw [q, e] at b3
        cases b3
        rw [hd] at b6
        cases b6
      have nP : bm ≠ p.2 := fun q => by
        rw [q, hTp] at b3
        cases b3
        cases b6
      refine ⟨bm, o, b1, b2, nG, nP, base_of b3 (noD b3 (fun vs n z => ?_) fun z => ?_), b4, b5, b6⟩
      all_goals
        rw [b6] at z
        cases z
    · intro z
      obtain ⟨o, es, ep, e, hd, _⟩ := hns
      rw [z, hTp] at e
      cases e
      cases hd
  have e0 : Env0 P w K mg (hidT s₁.heap H) callerA [] s₁ H := ⟨rfl, hM, fun b o e => of_hidT e, Nat.le_of_eq (hidT_size _ _), trivial, fun b hb => absurd (show b ∈ ([] : List Addr) from hb) (by simp), hok, .of_eq hg⟩
  have hl : vals.length = ps.length := by
    rw [wellAll_len hwl]
    exact hlen
  refine codeAny_mono ((F _ hKb (nsK hns) TB).run callerA [] s₁ H ⟨vals, []⟩ vals (vals.map toV) _ _ hr e0 (hbind s₁ vals hl) hV (hsp H _ hH hS)) ?_
  intro r s' x
  cases r with
  | error e => exact (hCX H e s' x).elim
  | ok fl =>
    cases fl with
    | ret u =>
      obtain ⟨v, H', os, bare, un, hok', r', q⟩ := x
      have key : ∀ b o, b ∉ cs.map (·.2) → s₁.heap.get? b = some o → s'.heap.get? b = some o := fun b o nb e => by
        cases q2 : H b with
        | none => exact un.keep b o e q2 (by intro z; exact absurd (show b ∈ ([] : List Addr) from z) (by simp)) (by simp)
        | some u2 =>
          rcases hcase b u2 q2 with ⟨hb, _⟩ | ⟨_, e'⟩
          · exact absurd hb nb
          · rcases argH_only ar b with z | ⟨o2, u3, z⟩
            · have z' : G b = none := z
              rw [z'] at e'
              cases e'
            · have z2 := un.frzs b o2 _ (same _ _ z)
              obtain ⟨e1, _⟩ := hok b _ (same _ _ z)
              obtain ⟨e2, _⟩ := hok' b _ z2
              rw [e] at e1
              cases e1
              exact e2
      have grown : ∀ p ∈ cs, ∃ more : Array Value, s'.heap.get? p.2 = some { cls := .none, data := .fields more } := fun p hp => by
        obtain ⟨more, z⟩ := un.tbls p.2 #[] (hH p hp)
        exact ⟨_, hok' p.2 _ z⟩
      have KX' : K.In s'.heap := fun b o e => by
        refine key b o (fun hb => ?_) (KX b o e)
        obtain ⟨p, hp, ep⟩ := List.mem_map.mp hb
        rw [← ep, nT p hp] at e
        cases e
      obtain ⟨as, hrd⟩ := Dw.reads (R := R) (cl := cl) hok' KX' d0 v u q r'
      refine ⟨u, as, rfl, hrd, ⟨fun b o e => ?_, fun b o e => ?_⟩, os, bare⟩
      · by_cases hb : b ∈ cs.map (·.2)
        · obtain ⟨p, hp, ep⟩ := List.mem_map.mp hb
          obtain ⟨more, hm⟩ := grown p hp
          rw [← ep] at e ⊢
          rw [hT p hp] at e
          cases e
          exact .inr (.inl ⟨((C p hp).tab (hT p hp)).isCodeTable, rfl, #[], more, rfl, by rw [Array.empty_append]; exact hm⟩)
        · exact .inl (key b o hb e)
      · by_cases hb : b ∈ cs.map (·.2)
        · obtain ⟨p, hp, ep⟩ := List.mem_map.mp hb
          obtain ⟨more, hm⟩ := grown p hp
          rw [← ep]
          exact ⟨_, hm⟩
        · exact ⟨o, key b o hb e⟩
    | _ => exact False.elim x

/-- the goal that the head leaves, from the promise of the row's def -/
theorem walkT {r : OpenSpec} {k : Nat} {q : Program} {loose : List Str} {XP : (Str → Option Value) → Heap → Prop} {YP : World → Heap → Prop} {d : DefRec} {CX : CXT} {ps : List Str}
    (hwell : r.wellSaid = true) (hlen : r.args.length = ps.length) (hr : Room k callerA)
    (F : ∀ (w : World) (mg : Str → Option Value) (fa : Addr) (h : Heap), YP w h → h.Ns mainGlobals mg → mg d.name = some (.ref fa) →
      ∃ (K : PySem.W.Frag) (cs : List (Addr × Addr)) (fd : FuncData) (sp : Sp), K.In h ∧ (∀ p ∈ cs, h.get? p.2 = some { cls := .none, data := .fields #[] }) ∧ (∀ p ∈ cs, K.lookup p.2 = none) ∧ (∀ p ∈ cs, PySem.W.CodeHd h p.1 p.2) ∧
        (∀ (s : Shared) (us : List Value), us.length = ps.length → BindsTo s fd ⟨us, []⟩ (ps.zip us)) ∧
        (∀ base : Heap, K.In base → base.Ns mainGlobals mg → (∀ p ∈ cs, TabB base mg p.1 p.2) → FnOk r.prog w K mg base CX k fa fd ps sp) ∧
        (∀ (H : Hp) (xs : List V) (a : Codec.denoteAll r.args), (∀ p ∈ cs, H p.2 = some (.tbl #[])) → Codec.withinAll r.args a = true → Codec.app r.args r.asked a = true → DwAll K H xs (Codec.encAll r.args a) →
          sp xs H (fun v H' => Dw K H' v (r.ret.enc (Codec.app r.args r.f a))) fun _ _ _ => False))
    (hCX : ∀ (H : Hp) (s : Shared) (e : Value) (s' : Shared), CX [] H s (fun _ _ _ => False) e s' → False) :
    PySem.W.WalkOS q loose XP YP r d [] (fun f vs => PySem.call f vs) := by
  intro w s₀ s₁ mg mb G Y fa o pm cd doc dV kV ho hd hcd hD hmg hg args vals as hpre hlay hrd hwl hlo
  obtain ⟨a, e1, e2⟩ := PySem.W.os_pre_some hpre
  obtain ⟨e3, hwi⟩ := Codec.encAll_of_decAll r.args args a e1
  subst e3
  obtain ⟨K, cs, fd, sp, KX, hT, nT, C, hb, hF, hsp⟩ := F w mg fa _ Y G.T.g hmg
  refine PySem.W.enter_call (codeAny_mono (callT (R := []) (cl := classAt s₀.heap) (d0 := r.ret.enc (Codec.app r.args r.f a)) KX G.T.g G.T.b G.T.builtins G.T.nolimit hg hT nT C G.T.bmain hwl (pl_encAll _ _) (layable_weight hlay) hr hF hb (by rw [encAll_len]; exact hlen)
    (fun H xs hH hS => hsp H xs a hH hwi e2 hS) fun H e s' => hCX H s₁ e s') ?_)
  rintro r' s' ⟨u, as', rfl, h1, h2, h3, h4⟩
  exact ⟨.inl ⟨u, _, as', rfl, fun _ => rfl, h1, (OpenSpec.post_iff hwell hwi _ _).mpr rfl, fun z => Bool.noConfusion (show false = true from z)⟩, h2, h3, h4⟩
end Nw
end
section
set_option maxRecDepth 100000
set_option maxHeartbeats 2000000
namespace L2
open PySem PySem.Spec PyProof.Rows LamX NdefX

section
variable {K : PySem.W.Frag} {H H' : Hp}
/-- lists, tuples and what is locked stay -/
def Keep (H H' : Hp) : Prop := ∀ b o, H b = some o → ((∃ xs, o = .lst xs) ∨ (∃ xs, o = .tup xs) ∨ ∃ q u, o = .frz q u) → H' b = some o
theorem Same.keep (s : Same H H') : Keep H H' := fun b o e _ => s b o e
theorem extN_keep (s : ExtN H H') : Keep H H' := fun b o e z => s b o e fun ps q => by
  subst q
  rcases z with ⟨_, z⟩ | ⟨_, z⟩ | ⟨_, _, z⟩ <;> cases z
theorem Keep.refl (H : Hp) : Keep H H := fun _ _ e _ => e
theorem Keep.trans {H1 H2 : Hp} (a : Keep H H1) (b : Keep H1 H2) : Keep H H2 := fun c o e z => b c o (a c o e z) z
theorem Keep.sqL (s : Keep H H') {a : Addr} {xs : List V} (h : SqL K H a xs) : SqL K H' a xs := by
  rcases h with (h | ⟨o, h⟩) | h
  · exact .inl (.inl (s _ _ h (.inl ⟨_, rfl⟩)))
  · exact .inl (.inr ⟨o, s _ _ h (.inr (.inr ⟨_, _, rfl⟩))⟩)
  · exact .inr h
theorem Keep.sqT (s : Keep H H') {a : Addr} {xs : List V} (h : SqT K H a xs) : SqT K H' a xs := by
  rcases h with (h | ⟨o, h⟩) | h
  · exact .inl (.inl (s _ _ h (.inr (.inl ⟨_, rfl⟩))))
  · exact .inl (.inr ⟨o, s _ _ h (.inr (.inr ⟨_, _, rfl⟩))⟩)
  · exact .inr h
mutual
theorem Dp.up (s : Keep H H') : ∀ (d : PyData) (v : V), Dp K H v d → Dp K H' v d
  | .none, _, x => by
    cases x
    exact .non
  | .bool b, _, x => by
    cases x
    exact .bl b
  | .int i, _, x => by
    cases x
    exact .int i
  | .str z, _, x => by
    cases x
    exact .str z
  | .list ds, _, x => by
    cases x with
    | lst h1 h2 => exact .lst (s.sqL h1) (DpAll.up s ds _ h2)
  | .tuple ds, _, x => by
    cases x with
    | tup h1 h2 => exact .tup (s.sqT h1) (DpAll.up s ds _ h2)
  | .dict _, _, x => by cases x
theorem DpAll.up (s : Keep H H') : ∀ (ds : List PyData) (vs : List V), DpAll K H vs ds → DpAll K H' vs ds
  | [], _, x => by
    cases x
    exact .nil
  | d :: ds, _, x => by
    cases x with
    | cons x1 x2 => exact .cons (Dp.up s d _ x1) (DpAll.up s ds _ x2)
end
theorem Dp.keep {d : PyData} {v : V} (x : Dp K H v d) (s : Keep H H') : Dp K H' v d := Dp.up s d v x
theorem Dp.same {d : PyData} {v : V} (x : Dp K H v d) (s : Same H H') : Dp K H' v d := Dp.up s.keep d v x
theorem DpAll.keep {ds : List PyData} {vs : List V} (x : DpAll K H vs ds) (s : Keep H H') : DpAll K H' vs ds := DpAll.up s ds vs x
theorem DpAll.len : ∀ {vs : List V} {ds : List PyData}, DpAll K H vs ds → vs.length = ds.length
  | [], [], _ => rfl
  | _ :: _, _ :: _, .cons _ t => by rw [List.length_cons, List.length_cons, DpAll.len t]
theorem DpAll.get : ∀ {vs : List V} {ds : List PyData} {i : Nat} {d : PyData}, DpAll K H vs ds → ds[i]? = some d → ∃ v, vs[i]? = some v ∧ Dp K H v d
  | [], [], _, _, _, e => by simp at e
  | v :: _, _ :: _, 0, d, .cons x _, e => by
    simp only [List.getElem?_cons_zero, Option.some.injEq] at e
    subst e
    exact ⟨v, rfl, x⟩
  | _ :: vs, _ :: ds, i + 1, d, .cons _ t, e => by
    rw [List.getElem?_cons_succ] at e
    obtain ⟨u, h1, h2⟩ := DpAll.get (i := i) t e
    exact ⟨u, by rw [List.getElem?_cons_succ]; exact h1, h2⟩
theorem DpAll.getV : ∀ {vs : List V} {ds : List PyData} {i : Nat} {v : V}, DpAll K H vs ds → vs[i]? = some v → ∃ d, ds[i]? = some d ∧ Dp K H v d
  | [], [], _, _, _, e => by simp at e
  | _ :: _, d :: _, 0, v, .cons x _, e => by
    simp only [List.getElem?_cons_zero, Option.some.injEq] at e
    subst e
    exact ⟨d, rfl, x⟩
  | _ :: vs, _ :: ds, i + 1, v, .cons _ t, e => by
    rw [List.getElem?_cons_succ] at e
    obtain ⟨u, h1, h2⟩ := DpAll.getV (i := i) t e
    exact ⟨u, by rw [List.getElem?_cons_succ]; exact h1, h2⟩
theorem DpAll.snoc : ∀ {vs : List V} {ds : List PyData} {v : V} {d : PyData}, DpAll K H vs ds → Dp K H v d → DpAll K H (vs ++ [v]) (ds ++ [d])
  | [], [], _, _, _, x => .cons x .nil
  | _ :: _, _ :: _, _, _, .cons a t, x => .cons a (DpAll.snoc t x)
theorem DpAll.app : ∀ {vs us : List V} {ds es : List PyData}, DpAll K H vs ds → DpAll K H us es → DpAll K H (vs ++ us) (ds ++ es)
  | [], _, [], _, _, x => x
  | _ :: _, _, _ :: _, _, .cons a t, x => .cons a (DpAll.app t x)
theorem Dp.lst_of {v : V} {ds : List PyData} (x : Dp K H v (.list ds)) : ∃ a xs, v = .ref a ∧ SqL K H a xs ∧ DpAll K H xs ds := by
  cases x with
  | lst h1 h2 => exact ⟨_, _, rfl, h1, h2⟩
theorem Dp.tup_of {v : V} {ds : List PyData} (x : Dp K H v (.tuple ds)) : ∃ a xs, v = .ref a ∧ SqT K H a xs ∧ DpAll K H xs ds := by
  cases x with
  | tup h1 h2 => exact ⟨_, _, rfl, h1, h2⟩
theorem Dp.int_of {v : V} {i : Int} (x : Dp K H v (.int i)) : v = .int i := by
  cases x
  rfl
theorem Dp.non_of {v : V} (x : Dp K H v .none) : v = .non := by
  cases x
  rfl
theorem DpAll.ints : ∀ (ns : List Int) {vs : List V}, DpAll K H vs (ns.map PyData.int) → vs = ns.map V.int
  | [], [], _ => rfl
  | n :: ns, v :: vs, .cons x t => by
    rw [List.map_cons, DpAll.ints ns t]
    cases x
    rfl
theorem DpAll.ofInts : ∀ (ns : List Int), DpAll K H (ns.map V.int) (ns.map PyData.int)
  | [] => .nil
  | n :: ns => .cons (.int n) (DpAll.ofInts ns)
end

theorem Same.new {H : Hp} {p : Addr} {o : HO} (n : H p = none) : Same H (upd H p o) := fun b u e => by rw [upd_ne (ne_of_none e n)]; exact e
theorem Keep.new {H : Hp} {p : Addr} {o : HO} (n : H p = none) : Keep H (upd H p o) := (Same.new n).keep
/-- all but p stay -/
theorem Keep.upd {H0 H : Hp} {p : Addr} {o : HO} (k : Keep H0 H) (n : H0 p = none) : Keep H0 (upd H p o) := fun b u e z => by rw [upd_ne (ne_of_none e n)]; exact k b u e z
theorem Same.upd {H0 H : Hp} {p : Addr} {o : HO} (k : Same H0 H) (n : H0 p = none) : Same H0 (upd H p o) := fun b u e => by rw [upd_ne (ne_of_none e n)]; exact k b u e

end L2
namespace Nw
open PySem PySem.Spec PyProof.Rows L2 LamX NdefX
/-- numbers, pairs, rows of pairs, ways of a net, links -/
abbrev dN (n : Nat) : PyData := .int (n : Int)
abbrev dPair (p : Nat × Nat) : PyData := .tuple [.int (p.1 : Int), .int (p.2 : Int)]
abbrev dRow (r : List (Nat × Nat)) : PyData := .list (r.map dPair)
abbrev dWays (W : List (List (Nat × Nat))) : PyData := .list (W.map dRow)
abbrev dLinks (l : List (Nat × Nat)) : PyData := .tuple (l.map dPair)
abbrev dNats (l : List Nat) : PyData := .list (l.map dN)
abbrev dInts (l : List Int) : PyData := .list (l.map PyData.int)
def dOpt : Option Nat → PyData
  | none => .none
  | some n => .int (n : Int)

abbrev FnP (K : PySem.W.Frag) (d : He.DefD) (f : Addr) (fd : FuncData) : Prop := FunD K d.name d.qual d.params d.body d.scope [] [] f fd
/-- the def x of the text keeps the promise sp, over every base of which B holds -/
structure HasB (P : Program) (w : World) (K : PySem.W.Frag) (mg : Str → Option Value) (B : Heap → Prop) (k : Nat) (x : Str) (ps : List Str) (sp : Sp) : Prop where
  ex : ∃ f fd, (∀ base, B base → FnOk P w K mg base CX0 k f fd ps sp) ∧ mg x = some (.ref f) ∧ PySem.W.keepIn K (.ref f) = true ∧ Binds K fd ps []
abbrev Has (P : Program) (w : World) (K : PySem.W.Frag) (mg : Str → Option Value) (k : Nat) (x : Str) (ps : List Str) (sp : Sp) : Prop := HasB P w K mg (fun _ => True) k x ps sp
section
variable {X : Cx} {B : Heap → Prop} {k j : Nat} {x : Str} {ps : List Str} {sp : Sp} {p pos : Pos} {e : Expr} {es : List Expr} {t : TA}
theorem pe_hasB (G : HasB X.prog X.w X.K X.mg B k x ps sp) (hB : B X.base) (hr : Room j X.A) (hk : k ≤ j) (hx : Passes CX0 X E0) (hg : Gl X x) (ha : PA X (e :: es) t) (hdb : (x == ("__debug__" : Str)) = false := by decide)
    (he : starEach (e :: es) X.env = (false, eval e X.env) :: starEach es X.env := by rfl) (hpl : (backTo pos (starEach es X.env)).any (·.1) = false := by rfl) : PE X (.Call (.Name x p) (e :: es) [] pos) (tCall sp [] E0 t) := by
  obtain ⟨f, fd, F, hm, hkp, hb⟩ := G.ex
  exact pe_call (F X.base hB) (hr.mono hk) hg hm hkp hb .nil hx ha hdb he hpl
theorem pe_has {P : Program} {w : World} {K : PySem.W.Frag} {mg : Str → Option Value} {A : Around} (G : Has P w K mg k x ps sp) (hr : Room j A) (ha : PA X (e :: es) t) (hX : X.prog = P ∧ X.w = w ∧ X.K = K ∧ X.mg = mg ∧ X.A = A := by exact ⟨rfl, rfl, rfl, rfl, rfl⟩) (hk : k ≤ j := by decide) (hx : Passes CX0 X E0 := by exact pass0) (hg : Gl X x := by rfl)
    (hdb : (x == ("__debug__" : Str)) = false := by decide) (he : starEach (e :: es) X.env = (false, eval e X.env) :: starEach es X.env := by rfl) (hpl : (backTo pos (starEach es X.env)).any (·.1) = false := by rfl) : PE X (.Call (.Name x p) (e :: es) [] pos) (tCall sp [] E0 t) := by
  obtain ⟨rfl, rfl, rfl, rfl, rfl⟩ := hX
  exact pe_hasB G trivial hr hk hx hg ha hdb he hpl
/-- a whole number of the module -/
theorem pe_gint {i : Int} (h : ∃ t, X.mg x = some (.int i t)) (hg : Gl X x := by rfl) (hd : (x == ("__debug__" : Str)) = false := by decide) : PE X (.Name x pos) (tC (.int i)) := by
  obtain ⟨t, ht⟩ := h
  exact pe_glob hg ht ⟨t, rfl⟩ hd
end
@[irreducible] def tAndI (t u : TT) : TT := tAnd t u
@[irreducible] def tOrI (t u : TT) : TT := tOr t u
@[irreducible] def tIfI (t : TT) (a b : TE) : TE := tIf t a b
theorem tAndI_eq (t u : TT) : tAndI t u = tAnd t u := by unfold tAndI; rfl
theorem tOrI_eq (t u : TT) : tOrI t u = tOr t u := by unfold tOrI; rfl
theorem tIfI_eq (t : TT) (a b : TE) : tIfI t a b = tIf t a b := by unfold tIfI; rfl
section
variable {X : Cx} {a b c : Expr} {rest : List Expr} {pos : Pos} {t u : TT} {ta tb : TE}
theorem pw_andI (ha : PT X a t) (hb : PW X (.BoolOp .And (b :: rest) pos) u) : PW X (.BoolOp .And (a :: b :: rest) pos) (tAndI t u) := by
  rw [tAndI_eq]
  exact pw_and ha hb
theorem pw_orI (ha : PT X a t) (hb : PW X (.BoolOp .Or (b :: rest) pos) u) : PW X (.BoolOp .Or (a :: b :: rest) pos) (tOrI t u) := by
  rw [tOrI_eq]
  exact pw_or ha hb
theorem pe_ifExpI (hc : PT X c t) (ha : PE X a ta) (hb : PE X b tb) : PE X (.IfExp c a b pos) (tIfI t ta tb) := by
  rw [tIfI_eq]
  exact pe_ifExp hc ha hb
end
def rInTD (K : PySem.W.Frag) : R2 := fun x y H Q => ∃ d ds, Dp K H x d ∧ Dp K H y (.tuple ds) ∧ SeqAt.shaped d = true ∧ SeqAt.shaped (.tuple ds) = true ∧ Q (.bl (ds.any fun z => PyData.eqv z d)) H
theorem op_inTD {X : Cx} (hu : X.A.units + 65 < cLine) : OpR X (compareOp .In) (rInTD X.K) := by
  intro pins s σ H x y v u Q I rx ry h
  obtain ⟨d, ds, hd, he, sd, se, q⟩ := h
  obtain ⟨as, r1⟩ := Dp.reads I d x v hd rx
  obtain ⟨bs, r2⟩ := Dp.reads I (.tuple ds) y u he ry
  exact SeqAt.in_tuple_reads r2 r1 (SeqAt.canLay_of_shaped se) (SeqAt.canLay_of_shaped sd) (room_in_shaped sd hu) ⟨.bl _, H, I, rfl, q⟩
structure Tx (K : PySem.W.Frag) (mg : Str → Option Value) : Prop where
  f_len : mg "len" = none
  f_range : mg "range" = none
  f_max : mg "max" = none
  f_min : mg "min" = none
  f_sum : mg "sum" = none
  f_sorted : mg "sorted" = none
  f_any : mg "any" = none
  f_enumerate : mg "enumerate" = none
  f_zip : mg "zip" = none
  f_list : mg "list" = none
  c_PUT : ∃ t, mg "PUT" = some (.int (1) t)
  c_TAKE : ∃ t, mg "TAKE" = some (.int (2) t)
  c_IN_AND_BACK : ∃ t, mg "IN_AND_BACK" = some (.int (2) t)
  c_MOST_BACK : ∃ t, mg "MOST_BACK" = some (.int (10) t)
  c_MOST_PLACES : ∃ t, mg "MOST_PLACES" = some (.int (7) t)
  c_MOST_LINKS : ∃ t, mg "MOST_LINKS" = some (.int (10) t)
  c_MOST_LETTERS : ∃ t, mg "MOST_LETTERS" = some (.int (30) t)
  c_MOST_LATER : ∃ t, mg "MOST_LATER" = some (.int (20) t)
  c_MOST_LATER_FOUND : ∃ t, mg "MOST_LATER_FOUND" = some (.int (2) t)
  c_MOST_EXITS_FOUND : ∃ t, mg "MOST_EXITS_FOUND" = some (.int (4) t)
  c_MOST_PLACES_LOOKED : ∃ t, mg "MOST_PLACES_LOOKED" = some (.int (6) t)
  c_MOST_PLACES_PEBBLE : ∃ t, mg "MOST_PLACES_PEBBLE" = some (.int (5) t)
  c_NOT_THERE : ∃ t, mg "NOT_THERE" = some (.int (-2) t)
  c_NONE_SUCH : ∃ t, mg "NONE_SUCH" = some (.int (-6) t)
  c_ALREADY : ∃ t, mg "ALREADY" = some (.int (-17) t)
  c_WRONG : ∃ t, mg "WRONG" = some (.int (-22) t)
  c_FULL : ∃ t, mg "FULL" = some (.int (-28) t)
  c_NOT_SO : ∃ t, mg "NOT_SO" = some (.int (-33) t)
  c_NOT_TOGETHER : ∃ t, mg "NOT_TOGETHER" = some (.int (-35) t)
  c_NOT_BEGUN : ∃ t, mg "NOT_BEGUN" = some (.int (-61) t)
  c_TOO_MUCH : ∃ t, mg "TOO_MUCH" = some (.int (-75) t)
  c_BEGIN : ∃ t, mg "BEGIN" = some (.int (0) t)
  g_CALLS : mg "CALLS" = some (.ref (He.ga K "CALLS"))
  g_Moment : mg "Moment" = some (.ref (He.ga K "Moment"))
  g_Wanderers : mg "Wanderers" = some (.ref (He.ga K "Wanderers"))
  cl_Moment : Cls K (He.ga K "Moment")
  cl_Wanderers : Cls K (He.ga K "Wanderers")
  na_size : NoAttr K (He.ga K "Moment") "size"
  na_links : NoAttr K (He.ga K "Moment") "links"
  na_ways : NoAttr K (He.ga K "Moment") "ways"
  na_a : NoAttr K (He.ga K "Moment") "a"
  na_b : NoAttr K (He.ga K "Moment") "b"
  na_pebble : NoAttr K (He.ga K "Moment") "pebble"
  na_steps : NoAttr K (He.ga K "Moment") "steps"
  na_met : NoAttr K (He.ga K "Moment") "met"
  na_now : NoAttr K (He.ga K "Wanderers") "now"
  na_past : NoAttr K (He.ga K "Wanderers") "past"
theorem u65 {k : Nat} {A : Around} (r : Room k A) : A.units + 65 < cLine := by
  have := r.un
  omega
theorem u9 {k : Nat} {A : Around} (r : Room k A) : A.units + 9 < cLine := by
  have := r.un
  omega
/-- from a def that keeps sp over every base -/
theorem has_mk {P : Program} {w : World} {K : PySem.W.Frag} {mg : Str → Option Value} {B : Heap → Prop} {k : Nat} {d : He.DefD} {ps : List Str} {sp : Sp} {f : Addr} {fd : FuncData} (F : FnP K d f fd) (hm : mg d.name = some (.ref f)) (ok : ∀ base, B base → FnOk P w K mg base CX0 k f fd ps sp)
    (h : ∀ (kV doc pm : Value) (an : Option Addr) (cdv ct : Value) (us : List Value), us.length = ps.length → bindArgs (PySem.W.fnOf d.name d.qual d.params d.body d.scope .none kV doc pm an cdv ct) ⟨us, []⟩ = pure (ps.zip us)) : HasB P w K mg B k d.name ps sp :=
  ⟨f, fd, ok, hm, F.kp, F.bindsN h⟩
/-- an item of a list, of a tuple, by its place -/
theorem at_nat {xs : List V} {i : Nat} {v : V} (h : xs[i]? = some v) : atI xs (i : Int) = some v := atI_nat (by simpa using h)
theorem rowsGet {W : List (List (Nat × Nat))} {u : Nat} {row : List (Nat × Nat)} (h : W[u]? = some row) : (W.map dRow)[u]? = some (dRow row) := by rw [List.getElem?_map, h]; rfl
theorem rowGet {row : List (Nat × Nat)} {i : Nat} {p : Nat × Nat} (h : row[i]? = some p) : (row.map dPair)[i]? = some (dPair p) := by rw [List.getElem?_map, h]; rfl
section
variable {X : Cx}
def rLenS (K : PySem.W.Frag) : List V → Hp → VK → Prop := fun xs H Q => ∃ p ys, xs = [V.ref p] ∧ (SqL K H p ys ∨ SqT K H p ys) ∧ Q (V.int (ys.length : Nat)) H
theorem lenK (K : PySem.W.Frag) (h : X.K = K := by rfl) : CallR X (.builtin "len") (rLenS K) := by
  subst h
  exact call_len_seq
theorem ixlK (K : PySem.W.Frag) (h : X.K = K := by rfl) : IxR X (rIxL K) := by
  subst h
  exact ix_list
theorem ixtK (K : PySem.W.Frag) (h : X.K = K := by rfl) : IxR X (rIxT K) := by
  subst h
  exact ix_tup
theorem indexK (K : PySem.W.Frag) {A : Around} (hu : A.units + 65 < cLine) (hA : X.A = A := by rfl) (h : X.K = K := by rfl) : MtR X "list.index" (rIndexD K) := by
  subst h hA
  exact mt_indexD hu
theorem gtupK (K : PySem.W.Frag) (n : Nat) {es : List Expr} {k : Nat} {t : TGs} {pos : Pos} (hc : X.calm = true) (hg : PGs X es t) (h : X.K = K := by rfl)
    (hn : (assignEach es X.env).length = n := by rfl) (hst : (assignEach es X.env).findIdx? (·.1) = none := by rfl) : PG X (.Tuple es k pos) (gTup K n t) := by
  subst h
  exact pg_tup hc hg hn hst
theorem inseqK (K : PySem.W.Frag) (h : X.K = K := by rfl) : OpR X (compareOp .In) (rIn K false) := by
  subst h
  exact op_in_seq
theorem notInseqK (K : PySem.W.Frag) (h : X.K = K := by rfl) : OpR X (compareOp .NotIn) (rIn K true) := by
  subst h
  exact op_notIn_seq
theorem pe_bmK (K : PySem.W.Frag) {o e : Expr} {es : List Expr} {to : TE} {t : TA} {name : Str} {apos cpos : Pos} {T id : String} {r : V → List V → Hp → VK → Prop} (pa : PlainAttrs T) (slot : Slot T name id) (hty : typeOf (.builtin id) = pure (.type "method_descriptor")) (hm : MtR X id r) (ho : PE X o to)
    (ha : PA X (e :: es) t) (h : X.K = K := by rfl) (hbase : attributeBase o name X.env (eval o X.env) = eval o X.env := by rfl)
    (hfew : ((backTo cpos (starEach (e :: es) X.env)).all (fun x => !x.1) && (backToKw cpos (keywordEach [] X.env)).all (fun x => x.1.isSome) && decide ((e :: es).length + ([] : List Keyword).length + (if ([] : List Keyword).isEmpty then 0 else 1) < 30)) = true := by rfl)
    (hline : (apos.endLine == cpos.line) = true := by rfl) (hs : starEach (e :: es) X.env = (false, eval e X.env) :: starEach es X.env := by rfl) (hplain : (backTo cpos (starEach es X.env)).any (·.1) = false := by rfl) :
    PE X (.Call (.Attribute o name apos) (e :: es) [] cpos) (tBM K T r to t) := by
  subst h
  exact pe_bm pa slot hty hm ho ha hbase hfew hline hs hplain
theorem pe_fldK (K : PySem.W.Frag) {e : Expr} {f : Str} {ta : TE} {pos : Pos} (he : PE X e ta) (hb : attributeBase e f X.env (eval e X.env) = eval e X.env) (h : X.K = K := by rfl) : PE X (.Attribute e f pos) (tFld K ta f) := by
  subst h
  exact pe_fld he hb
end
end Nw
end
section
set_option maxRecDepth 100000
set_option maxHeartbeats 2000000
namespace Nw
open PySem PySem.Spec PyProof.Rows L2
theorem tup_mul1 (l : Addr) (v : Value) (n : Nat) (dd : Option Addr) (sl : Array (Option Value)) (u : Tok) :
    Meets (Builtin.«tuple.__mul__» ⟨[.ref l, .int 1 u], []⟩) (fun _ R s => s.heap.get? l = some { cls := .type "tuple", dict := dd, data := .seq #[v] n, slots := sl } ∧ R (.ok (.ret (Value.ref l))) s) :=
  .of_wp fun prog w A R s h => by
    obtain ⟨hp, g, d, tk, os⟩ := s
    obtain ⟨hl, h⟩ := h
    have f1 := AutoSeq1.idx_int
    wp_walk using wpAny_loadPart' hl
    exact ⟨_, rfl, h⟩
theorem tup_mul0 (l : Addr) (v : Value) (n : Nat) (dd : Option Addr) (sl : Array (Option Value)) (u : Tok) :
    Meets (Builtin.«tuple.__mul__» ⟨[.ref l, .int 0 u], []⟩) (fun _ R s => s.heap.get? l = some { cls := .type "tuple", dict := dd, data := .seq #[v] n, slots := sl } ∧
      R (.ok (.ret (Value.ref s.heap.objs.size))) { s with heap := s.heap.push { cls := Value.type "tuple", data := Data.seq #[] }, toks := s.toks }) :=
  .of_wp fun prog w A R s h => by
    obtain ⟨hp, g, d, tk, os⟩ := s
    obtain ⟨hl, h⟩ := h
    have f1 := AutoSeq1.idx_int
    wp_walk using wpAny_loadPart' hl
    exact ⟨_, rfl, h⟩
/-- (v,) * k, k from 0 to 1000 -/
def rRepT3 (K : PySem.W.Frag) : R2 := fun x y H Q => ∃ (l : Addr) (k : Nat) (v : V), x = .ref l ∧ y = .int (k : Int) ∧ SqT K H l [v] ∧ k ≤ 1000 ∧ (k = 1 → Q (.ref l) H) ∧ (k ≠ 1 → ∀ p, H p = none → Q (.ref p) (upd H p (.tup (List.replicate k v))))
theorem rep_flat {α : Type} (v : α) : ∀ k, (List.replicate k [v]).flatten = List.replicate k v
  | 0 => rfl
  | k + 1 => by
    rw [List.replicate_succ, List.flatten_cons, rep_flat v k, List.replicate_succ]
    rfl
theorem op_repT3 {X : Cx} : OpR X (binaryOp .Mult) (rRepT3 X.K) := by
  intro pins s σ H x y v u Q I rx ry h
  obtain ⟨l, k, z, rfl, rfl, hT, hk, q1, q0⟩ := h
  rcases Nat.lt_or_ge k 2 with c | c
  · cases rx
    obtain ⟨t, rfl⟩ := ry
    obtain ⟨its, r, ⟨⟨cls, dd, data, sl⟩, ho, hc, n, hd⟩, hs⟩ := I.tuple hT
    simp only at hc hd
    subst hc hd
    cases r with
    | @cons a b as bs rz rn =>
      cases rn
      have e1 : k = 0 ∨ k = 1 := by omega
      rcases e1 with rfl | rfl
      · refine wpAny_binaryOp_repeat_ref (T := "tuple") (U := "int") (by decide) ⟨_, ho, rfl⟩ (fun s' => typeIs_int s' _ t) noFill_tuple_mul F.fills_int_mul F.slot_int_rmul repeat_tuple F.slot_int_index.lookup
          (call_meets F.slot_int_rmul (typeIs_int s _ t) F.entry_int_rmul (F.args_int_rmul_2 _ _) (int_rmul_tuple _ t l _ n dd sl)
            ⟨ho, rfl, ⟨_, ho, rfl⟩, call_meets F.slot_tuple_mul ⟨_, ho, rfl⟩ F.entry_tuple_mul (F.args_tuple_mul_2 _ _) (tup_mul0 l b n dd sl t) ⟨ho, ?_⟩⟩)
        refine ⟨.ref s.heap.objs.size, _, I.laid (t' := s.toks) (o := .tup []) (fun b ob q => Heap.get?_push_of_some _ q) (Nat.le_refl _) ?_, rfl, q0 (by decide) _ (I.hok.fresh (Nat.le_refl _))⟩
        exact ⟨Nat.zero_le _, [], .nil, IsTup.new _ _⟩
      · refine wpAny_binaryOp_repeat_ref (T := "tuple") (U := "int") (by decide) ⟨_, ho, rfl⟩ (fun s' => typeIs_int s' _ t) noFill_tuple_mul F.fills_int_mul F.slot_int_rmul repeat_tuple F.slot_int_index.lookup
          (call_meets F.slot_int_rmul (typeIs_int s _ t) F.entry_int_rmul (F.args_int_rmul_2 _ _) (int_rmul_tuple _ t l _ n dd sl)
            ⟨ho, rfl, ⟨_, ho, rfl⟩, call_meets F.slot_tuple_mul ⟨_, ho, rfl⟩ F.entry_tuple_mul (F.args_tuple_mul_2 _ _) (tup_mul1 l b n dd sl t) ⟨ho, ?_⟩⟩)
        exact ⟨.ref l, H, I, rfl, q1 rfl⟩
  · refine op_repT pins s σ H (.ref l) (.int (k : Int)) v u Q I rx ry ⟨l, (k : Int), [z], rfl, rfl, hT, by simp, by omega, by omega, by show 1 ≤ 1000; decide, fun p np => ?_⟩
    have e : ((k : Int)).toNat = k := by omega
    rw [e, rep_flat]
    exact q0 (by omega) p np
end Nw
end
section
set_option maxRecDepth 100000
set_option maxHeartbeats 2000000
namespace Nw
open PySem PySem.Spec PyProof.Rows L2
abbrev dIP (p : Int × Int) : PyData := .tuple [.int p.1, .int p.2]
/-- min(xs, default=d) of a list of pairs of whole numbers -/
def rMinDP (K : PySem.W.Frag) : List V → List V → Hp → VK → Prop := fun vs zs H Q => ∃ (a : Addr) (xs : List V) (ps : List (Int × Int)) (d : V), vs = [.ref a] ∧ zs = [d] ∧ SqL K H a xs ∧ DpAll K H xs (ps.map dIP) ∧ (ps = [] → Q d H) ∧ ∀ p qs (i : Nat) v, ps = p :: qs → xs[i]? = some v → ps[i]? = some (PySem.W.minOf p qs) → Q v H
theorem vals_one {zs : V} {ws : List Value} (r : Vals [zs] ws) : ∃ w, ws = [w] ∧ RelV zs w := by
  cases r with
  | cons r1 r2 =>
    cases r2
    exact ⟨_, rfl, r1⟩
theorem cr_min_default {X : Cx} (hc : X.calm = true) (hu : X.A.units + 65 < cLine) : CallRK X (.builtin "min") ["default"] (rMinDP X.K) := by
  intro pins s σ H vs zs us ws Q I r rz h
  obtain ⟨a, xs, ps, d, rfl, rfl, hs, al, q0, q⟩ := h
  obtain ⟨its, rv, hl, _⟩ := I.list hs
  rw [Vals.ref1 r]
  obtain ⟨wd, rfl, rd⟩ := vals_one rz
  obtain ⟨as, ra⟩ := Dp.readsAll I _ xs its al rv
  have HA : PySem.W.HoldAll s.heap its ps := ⟨as, ra⟩
  refine PySem.W.min_list_datum_default (α := Int × Int) (I.ok.hd hc) hl.isList HA ?_ (fun e h' tk hk => ⟨d, H, I.kept hk, rd, q0 e⟩) (fun y ys i v h' tk e hi hd hk => ?_)
  · have e : PySem.W.Datum.depth (Int × Int) ≤ 60 := by decide
    omega
  · have hi : its[i]? = some v := by simpa using hi
    have hlt : i < xs.length := by
      rw [rv.length]
      exact (List.getElem?_eq_some_iff.mp hi).1
    obtain ⟨x, hx⟩ : ∃ x, xs[i]? = some x := ⟨_, List.getElem?_eq_getElem hlt⟩
    obtain ⟨u, hu2, rx⟩ := rv.get hx
    rw [hi] at hu2
    cases hu2
    obtain ⟨dd, hd1, hd2⟩ := al.getV hx
    rw [List.getElem?_map] at hd1
    obtain ⟨p', hp', rfl⟩ := Option.map_eq_some_iff.mp hd1
    obtain ⟨as2, r2⟩ := Dp.reads I _ x v hd2 rx
    obtain ⟨as3, r3⟩ := hd
    have r2' : PySem.W.Holds h' v p' := PySem.W.Holds.keeps hk ⟨as2, r2⟩
    obtain ⟨as4, r4⟩ := r2'
    have e2 := SeqAt.Reads.unique _ _ _ _ _ (by simp [PySem.W.Datum.toD, PyData.canLay0, PyData.canLayAll0]) r4 r3
    have e3 : p' = PySem.W.minOf y ys := by
      have e4 : PyData.tuple [.int p'.1, .int p'.2] = PyData.tuple [.int (PySem.W.minOf y ys).1, .int (PySem.W.minOf y ys).2] := e2
      injection e4 with e4
      injection e4 with e5 e6
      injection e6 with e6 _
      injection e5 with e5
      injection e6 with e6
      exact Prod.ext e5 e6
    exact ⟨x, H, I.kept hk, rx, q y ys i x e hx (by rw [hp', e3])⟩
/-- max(xs, default=d) of a list of whole numbers -/
def rMaxDI (K : PySem.W.Frag) : List V → List V → Hp → VK → Prop := fun vs zs H Q => ∃ (a : Addr) (ns : List Int) (d : V), vs = [.ref a] ∧ zs = [d] ∧ SqL K H a (ns.map V.int) ∧ (ns = [] → Q d H) ∧ ∀ p qs, ns = p :: qs → Q (.int (PySem.W.maxOf p qs)) H
theorem cr_max_default {X : Cx} (hc : X.calm = true) (hu : X.A.units + 65 < cLine) : CallRK X (.builtin "max") ["default"] (rMaxDI X.K) := by
  intro pins s σ H vs zs us ws Q I r rz h
  obtain ⟨a, ns, d, rfl, rfl, hs, q0, q⟩ := h
  obtain ⟨its, rv, hl, _⟩ := I.list hs
  rw [Vals.ref1 r]
  obtain ⟨wd, rfl, rd⟩ := vals_one rz
  have HA : PySem.W.HoldAll s.heap its ns := PySem.W.HoldAll.of_ints rv.ints
  refine PySem.W.max_list_datum_default (α := Int) (I.ok.hd hc) hl.isList HA ?_ (fun e h' tk hk => ⟨d, H, I.kept hk, rd, q0 e⟩) (fun y ys i v h' tk e hi hd hk => ?_)
  · have e : PySem.W.Datum.depth Int ≤ 60 := by decide
    omega
  · obtain ⟨as3, r3⟩ := hd
    have r4 : Reads h' v (PyData.int (PySem.W.maxOf y ys)) as3 := r3
    cases r4
    exact ⟨.int _, H, I.kept hk, ⟨_, rfl⟩, q y ys e⟩
end Nw
end
section
set_option maxRecDepth 100000
set_option maxHeartbeats 2000000
namespace Nw
open PySem PySem.Spec PyProof.Rows L2 LamX NdefX
theorem cells_app : ∀ (names : List (Str × NameKind)) (n : Nat) (a b : List (Str × Addr)), cellsFrom n names (a ++ b) = cellsFrom n names a ++ b
  | [], _, _, _ => rfl
  | (x, k) :: r, n, a, b => by
    unfold cellsFrom
    split
    · rw [← cells_app r (n + 1) _ b]
      rfl
    · exact cells_app r n a b
theorem cells_own (names : List (Str × NameKind)) (n : Nat) (b : List (Str × Addr)) : cellsFrom n names b = cellsFrom n names [] ++ b := cells_app names n [] b
section
variable {M : Model} {A : Around} {E : Value → Shared → Prop} {s₀ s : Shared} {m cm : Str → Option Value} {env : Env} {own : List (Str × Addr)}
theorem st_own_l {n : Str} {v : Value} {Q : Unit → Shared → Prop} (x : InCallC s₀ env.locals m own cm s) (hk : env.scope.kind = .function) (hl : env.kindOf n = some .local) (h : ∀ s', InCallC s₀ env.locals (fun y => if y = n then some v else m y) own cm s' → Q () s') : wpAny M A (storeName env n v) Q E s := by
  refine wpAny_storeName_local hl x.toInCall.ns (fun h' hn' hs' => h _ ⟨⟨?_, hn', fun b o e => ?_, x.toInCall.fresh⟩, fun k c hc => ?_, x.apart, x.above⟩) (by rw [hk]; rfl)
  · obtain ⟨h₁, tk, rfl⟩ := x.toInCall.same
    exact ⟨h', _, rfl⟩
  · exact hs'.extBut b o (Nat.ne_of_lt (Nat.lt_of_lt_of_le (Heap.lt_size e) x.toInCall.fresh)) (x.toInCall.keep b o e)
  · exact (x.cell k c hc).sameBut hs' (Nat.ne_of_gt (x.above k c (mem_of_lookup hc)))
theorem st_own_c {n : Str} {c : Addr} {v : Value} {Q : Unit → Shared → Prop} (x : InCallC s₀ env.locals m own cm s) (hk : env.scope.kind = .function) (hl : env.kindOf n = some .cell) (hc : own.lookup n = some c) (hc' : env.cells.lookup n = some c)
    (h : ∀ s', InCallC s₀ env.locals m own (fun y => if y = n then some v else cm y) s' → Q () s') : wpAny M A (storeName env n v) Q E s := by
  have hLc := x.above n c (mem_of_lookup hc)
  refine wpAny_storeName_cell hk hl hc' (x.cell n c hc) fun h' h1 hs' => h _ ⟨⟨?_, x.toInCall.ns.sameBut hs' (Nat.ne_of_lt hLc), fun b o e => ?_, x.toInCall.fresh⟩, fun k c' hk' => ?_, x.apart, x.above⟩
  · obtain ⟨h₁, tk, rfl⟩ := x.toInCall.same
    exact ⟨h', _, rfl⟩
  · exact hs'.extBut b o (Nat.ne_of_lt (Nat.lt_trans (Nat.lt_of_lt_of_le (Heap.lt_size e) x.toInCall.fresh) hLc)) (x.toInCall.keep b o e)
  · by_cases hkn : k = n
    · subst hkn
      rw [hc] at hk'
      cases hk'
      simpa using h1
    · rw [if_neg hkn]
      exact (x.cell k c' hk').sameBut hs' fun e => hkn (name_of_addr x.apart (mem_of_lookup hk') (e ▸ mem_of_lookup hc))
theorem bind_own (f : Str × Value → PUnit → Sem (ForInStep PUnit)) (hf : ∀ n v u, f (n, v) u = (do storeName env n v; pure (.yield ⟨⟩))) (hk : env.scope.kind = .function) (hcl : ∀ n c, own.lookup n = some c → env.cells.lookup n = some c) :
    ∀ (binds : List (Str × Value)) (m cm : Str → Option Value) (s : Shared) (Q : PUnit → Shared → Prop), InCallC s₀ env.locals m own cm s →
      (∀ x ∈ binds, env.kindOf x.1 = some .local ∨ (env.kindOf x.1 = some .cell ∧ (own.lookup x.1).isSome = true)) →
      (∀ s', InCallC s₀ env.locals (bindL env.kindOf binds m) own (bindC env.kindOf binds cm) s' → Q ⟨⟩ s') → wpAny M A (forIn binds ⟨⟩ f) Q E s
  | [], m, cm, s, Q, x, _, h => by rw [List.forIn_nil]; exact wpAny_pure (h s x)
  | (n, v) :: r, m, cm, s, Q, x, hkind, h => by
    rw [List.forIn_cons, hf]
    have hr : ∀ y ∈ r, env.kindOf y.1 = some .local ∨ (env.kindOf y.1 = some .cell ∧ (own.lookup y.1).isSome = true) := fun y hy => hkind y (List.mem_cons_of_mem _ hy)
    rcases hkind (n, v) List.mem_cons_self with hl | ⟨hl, hc⟩
    · refine wpAny_bind (wpAny_bind (st_own_l x hk hl fun s' x' => wpAny_pure (bind_own f hf hk hcl r _ _ s' Q x' hr fun s'' x'' => h s'' ?_)))
      unfold bindL bindC
      rw [if_pos hl, if_pos hl]
      exact x''
    · obtain ⟨c, hc⟩ := Option.isSome_iff_exists.mp hc
      have hnl : ¬ env.kindOf n = some .local := by rw [hl]; decide
      refine wpAny_bind (wpAny_bind (st_own_c x hk hl hc (hcl n c hc) fun s' x' => wpAny_pure (bind_own f hf hk hcl r _ _ s' Q x' hr fun s'' x'' => h s'' ?_)))
      unfold bindL bindC
      rw [if_neg hnl, if_neg hnl]
      exact x''
theorem env_own {scope : Scope} {globals : Addr} {cl : List (Str × Addr)} {binds : List (Str × Value)} {qual : Str} {func : Option Addr} {code : Value} {builtins : Addr} {Q : Env → Shared → Prop} (hk : scope.kind = .function)
    (hkind : ∀ x ∈ binds, scope.names.lookup x.1 = some .local ∨ (scope.names.lookup x.1 = some .cell ∧ ((cellsFrom (s.heap.objs.size + 1) scope.names []).lookup x.1).isSome = true))
    (hQ : ∀ env, env = newEnv scope s.heap.objs.size globals (cellsFrom (s.heap.objs.size + 1) scope.names cl) qual func code none builtins →
      ∀ s', InCallC s env.locals (bindL env.kindOf binds fun _ => none) (cellsFrom (s.heap.objs.size + 1) scope.names []) (bindC env.kindOf binds fun _ => none) s' → Q env s') :
    wpAny M A (newFunctionEnv scope globals cl binds qual func code none builtins) Q E s := by
  simp only [newFunctionEnv, Option.isSome_none, Bool.false_eq_true, if_false]
  refine wpAny_bind (wpAny_alloc ?_)
  refine wpAny_bind (wpAny_layCells _ (fun name kind cells => by cases hkc : kind == NameKind.cell <;> simp [hkc]) _ _ _ _ ?_)
  have ok := cellsFrom_ok scope.names (s.heap.push { cls := .type "frame", data := .dict #[] }) (s.heap.objs.size + 1) [] ⟨fun _ _ hm => (nomatch hm), List.Pairwise.nil⟩ (by rw [Heap.size_push]; exact Nat.le_refl _)
  rw [Heap.size_push] at ok
  rw [show ({ s with heap := s.heap.push { cls := .type "frame", data := .dict #[] } } : Shared).heap.objs.size = s.heap.objs.size + 1 from Heap.size_push ..]
  refine wpAny_bind (bind_own (s₀ := s) (env := newEnv scope s.heap.objs.size globals (cellsFrom (s.heap.objs.size + 1) scope.names cl) qual func code none builtins) (own := cellsFrom (s.heap.objs.size + 1) scope.names [])
    _ (fun _ _ _ => rfl) hk (fun n c e => ?_) binds (fun _ => none) (fun _ => none) _ _
    ⟨⟨⟨_, _, rfl⟩, (Heap.Ns.new s.heap (.type "frame")).keeps (pushCells_keeps _ _), fun b o e => pushCells_keeps _ _ b o (Heap.get?_push_of_some _ e), Nat.le_refl _⟩,
      fun n c hc => (ok.empty n c (mem_of_lookup hc)).1, ok.apart, fun n c hm => (ok.empty n c hm).2⟩
    hkind fun s' x => wpAny_pure (hQ _ rfl s' x))
  show (cellsFrom (s.heap.objs.size + 1) scope.names cl).lookup n = some c
  rw [cells_own, List.lookup_append, e]
  rfl
end
/-- its names: the parameters, then the captured ones, then its locals; parameters may be captured in turn -/
structure NScopeC (N ps fr : List Str) (sc : Scope) : Prop where
  kind : sc.kind = .function
  co : sc.isCoroutine = false
  gen : sc.isGenerator = false
  nd : N.Nodup
  pre : N.take (ps.length + fr.length) = ps ++ fr
  par : ∀ x ∈ ps, sc.names.lookup x = some .local ∨ sc.names.lookup x = some .cell
  cell : ∀ y ∈ sc.names, y.2 = .cell → y.1 ∈ ps
  free : ∀ y ∈ sc.names, y.2 = .free → y.1 ∈ fr
  frk : ∀ x ∈ fr, sc.names.lookup x = some .free
def nscCB (N ps fr : List Str) (sc : Scope) : Bool :=
  decide (sc.kind = .function) && !sc.isCoroutine && !sc.isGenerator && decide N.Nodup && decide (N.take (ps.length + fr.length) = ps ++ fr) && ps.all (fun x => decide (sc.names.lookup x = some .local) || decide (sc.names.lookup x = some .cell)) && sc.names.all (fun y => !decide (y.2 = .cell) || decide (y.1 ∈ ps)) && sc.names.all (fun y => !decide (y.2 = .free) || decide (y.1 ∈ fr)) && fr.all (fun x => decide (sc.names.lookup x = some .free))
theorem nscopeC_by {N ps fr : List Str} {sc : Scope} (h : nscCB N ps fr sc = true) : NScopeC N ps fr sc := by
  unfold nscCB at h
  simp only [Bool.and_eq_true, Bool.not_eq_true', decide_eq_true_eq, List.all_eq_true, Bool.or_eq_true, decide_eq_false_iff_not] at h
  obtain ⟨⟨⟨⟨⟨⟨⟨⟨h1, h2⟩, h3⟩, h4⟩, h5⟩, h6⟩, h7⟩, h8⟩, h9⟩ := h
  exact ⟨h1, h2, h3, h4, h5, h6, fun y hy e => (h7 y hy).elim (fun z => absurd e z) id, fun y hy e => (h8 y hy).elim (fun z => absurd e z) id, h9⟩
abbrev envC (F : NF) (f L : Addr) : Env := PySem.W.envX F.qual F.scope L f (.ref F.c) (cellsFrom (L + 1) F.scope.names F.cl)
/-- the context of its body, at its entry -/
def ncxC (CX : CXT) (P : Program) (w : World) (K : PySem.W.Frag) (mg : Str → Option Value) (base : Heap) (N : List Str) (F : NF) (f : Addr) (A : Around) (outer : List Env) (s : Shared) (H : Hp) (E : XK) : Cx where
  prog := P
  w := w
  K := K
  mg := mg
  base := base
  A := A.deeper (envC F f s.heap.objs.size)
  N := N
  s_0 := s
  H_0 := H
  env := envC F f s.heap.objs.size
  outer := outer
  stack := envC F f s.heap.objs.size :: outer
  ex := []
  calm := true
  fn := fun _ => false
  pn := []
  xe := fun e s' => wpAny (model P w) (A.deeper (envC F f s.heap.objs.size)) (leaving (envC F f s.heap.objs.size) e) (fun _ s'' => CX outer H s E e s'') (fun e' s'' => CX outer H s E e' s'') s'
section
variable {CX : CXT} {P : Program} {w : World} {K : PySem.W.Frag} {mg : Str → Option Value} {base : Heap} {N ps fr : List Str} {F : NF} {f : Addr} {A : Around} {outer : List Env} {s : Shared} {H : Hp} {E : XK} {us : List Value} {vs : List V} {ws : List (Option V)}
theorem own_name {names : List (Str × NameKind)} {h : Heap} {y : Str} {c : Addr} (e : (cellsFrom h.objs.size names []).lookup y = some c) : (y, NameKind.cell) ∈ names := by
  rcases cells_mem (mem_of_lookup e) with z | z
  · cases z
  · exact z.1
theorem inv_startC {s1 : Shared} (S : NScopeC N ps fr F.scope) (hd : A.handled = none) (e0 : Env0 P w K mg base A outer s H) (hl : vs.length = ps.length) (r : Vals vs us) (C : CellsAt F.cl fr ws s.heap H)
    (x : InCallC s s.heap.objs.size (bindL (envC F f s.heap.objs.size).kindOf (ps.zip us) fun _ => none) (cellsFrom (s.heap.objs.size + 1) F.scope.names []) (bindC (envC F f s.heap.objs.size).kindOf (ps.zip us) fun _ => none) s1) :
    Inv (ncxC CX P w K mg base N F f A outer s H E) [] (startF N vs ws) H s1 := by
  have hpl : ps.length + fr.length ≤ N.length := by
    have q := congrArg List.length S.pre
    rw [List.length_take, List.length_append] at q
    omega
  obtain ⟨h1, tk, rfl, kp⟩ := x.done
  have noA : ∀ b : Addr, b ∉ (ncxC CX P w K mg base N F f A outer s H E).ex := fun b z => absurd (show b ∈ ([] : List Addr) from z) (by simp)
  have cellK : ∀ {c : Addr} {v : Option Value}, s.heap.IsCell c v → h1.IsCell c v := fun {c v} ⟨o, ho, hd⟩ => ⟨o, kp _ _ ho, hd⟩
  have both : ∀ y c, (cellsFrom (s.heap.objs.size + 1) F.scope.names F.cl).lookup y = some c → (cellsFrom (s.heap.objs.size + 1) F.scope.names []).lookup y = some c ∨ F.cl.lookup y = some c := fun y c e => by
    rw [cells_own, List.lookup_append] at e
    cases q : (cellsFrom (s.heap.objs.size + 1) F.scope.names []).lookup y with
    | none =>
      rw [q] at e
      exact .inr e
    | some c' =>
      rw [q] at e
      exact .inl e
  have ownC : ∀ y c, (cellsFrom (s.heap.objs.size + 1) F.scope.names []).lookup y = some c → (cellsFrom (s.heap.objs.size + 1) F.scope.names F.cl).lookup y = some c := fun y c e => by
    rw [cells_own, List.lookup_append, e]
    rfl
  have lo : ∀ y c, F.cl.lookup y = some c → c < s.heap.objs.size := fun y c e => by
    obtain ⟨_, v, o, ho, _⟩ := C.all y c e
    exact Heap.lt_size ho
  have ndPF : (ps ++ fr).Nodup := by
    have q := S.nd.sublist (List.take_sublist (ps.length + fr.length) N)
    rw [S.pre] at q
    exact q
  have frO : ∀ y ∈ fr, (cellsFrom (s.heap.objs.size + 1) F.scope.names []).lookup y = none := fun y hy => by
    cases q : (cellsFrom (s.heap.objs.size + 1) F.scope.names []).lookup y with
    | none => rfl
    | some c =>
      have hm : (y, NameKind.cell) ∈ F.scope.names := own_name (h := s.heap.push { cls := .type "cell", data := .cell none }) (by rw [Heap.size_push]; exact q)
      exact absurd rfl ((List.nodup_append.mp ndPF).2.2 y (S.cell _ hm rfl) y hy)
  refine ⟨⟨e0.mod, S.kind, rfl, rfl, Nat.le_refl _, fun y z c h1 h2 => ?_, fun y hy => ?_, fun y c z _ => ?_, fun _ => hd, Around.frames_deeper e0.frames, .inr ⟨rfl, rfl⟩, fun b z => absurd z (noA b), e0.bs, e0.bsz, fun b _ _ => noA b,
      fun b z => absurd z (noA b), e0.funs, e0.frf⟩,
    rfl, e0.bare, Un.kept kp, ⟨_, x.toInCall.ns, fun i y v e1 e2 e3 => ?_⟩, fun y c e => ?_, e0.hok.fresh (Nat.le_refl _), fun y c e => ?_, fun q hq => absurd (show q ∈ ([] : List (Addr × Obj)) ++ [] from hq) (by simp), e0.hok.kept kp, ?_⟩
  · rcases both y c h1 with a | a <;> rcases both z c h2 with b | b
    · exact name_of_addr x.apart (PySem.mem_of_lookup a) (PySem.mem_of_lookup b)
    · exact absurd (Nat.lt_trans (lo _ _ b) (x.above y c (PySem.mem_of_lookup a))) (Nat.lt_irrefl _)
    · exact absurd (Nat.lt_trans (lo _ _ a) (x.above z c (PySem.mem_of_lookup b))) (Nat.lt_irrefl _)
    · exact C.inj y z c a b
  · have hy : F.scope.names.lookup y = some .cell ∨ F.scope.names.lookup y = some .free := hy
    rcases hy with hy | hy
    · obtain ⟨c, e⟩ := cell_has (n := s.heap.objs.size + 1) hy
      exact ⟨c, ownC y c e⟩
    · have hyf := S.free _ (PySem.mem_of_lookup hy) rfl
      obtain ⟨i, hi⟩ := List.mem_iff_getElem?.mp hyf
      obtain ⟨c, hc, _⟩ := C.has i y hi
      refine ⟨c, ?_⟩
      show (cellsFrom (s.heap.objs.size + 1) F.scope.names F.cl).lookup y = some c
      rw [cells_own, List.lookup_append, frO y hyf]
      exact hc
  · have z : false = true := z
    cases z
  · have e1 : N[i]? = some y := e1
    have clen := C.len
    unfold startF at e2
    by_cases h1 : i < ps.length
    · have hq : (ps ++ fr)[i]? = some y := by
        rw [← S.pre, List.getElem?_take_of_lt (by omega)]
        exact e1
      rw [List.getElem?_append_left h1] at hq
      rw [List.getElem?_append_left (by rw [List.length_map]; omega), List.getElem?_map] at e2
      have ha : vs[i]? = some v := by
        cases e : vs[i]? with
        | none => rw [e] at e2; cases e2
        | some a => rw [e] at e2; cases e2; rfl
      obtain ⟨u, hu, rv⟩ := r.get ha
      have ndP : ps.Nodup := (List.nodup_append.mp ndPF).1
      refine ⟨u, rv, ?_⟩
      rcases S.par y (List.mem_of_getElem? hq) with k | k
      · exact .inl ⟨k, bindL_get ndP hq hu k⟩
      · obtain ⟨c, e⟩ := cell_has (n := s.heap.objs.size + 1) k
        refine .inr ⟨.inl k, c, ownC y c e, ?_⟩
        have q := x.cell y c e
        rw [bindC_get ndP hq hu (by show F.scope.names.lookup y ≠ _; rw [k]; decide)] at q
        exact q
    · rw [List.getElem?_append_right (by rw [List.length_map]; omega), List.length_map] at e2
      by_cases h2 : i < ps.length + fr.length
      · have hq : (ps ++ fr)[i]? = some y := by
          rw [← S.pre, List.getElem?_take_of_lt (by omega)]
          exact e1
        rw [List.getElem?_append_right (by omega)] at hq
        rw [List.getElem?_append_left (by omega), hl] at e2
        obtain ⟨c, hc, hv⟩ := C.has (i - ps.length) y hq
        obtain ⟨u, ru, hu⟩ := hv v e2
        refine ⟨u, ru, .inr ⟨.inr (S.frk y (List.mem_of_getElem? hq)), c, ?_, cellK hu⟩⟩
        show (cellsFrom (s.heap.objs.size + 1) F.scope.names F.cl).lookup y = some c
        rw [cells_own, List.lookup_append, frO y (List.mem_of_getElem? hq)]
        exact hc
      · rw [List.getElem?_append_right (by omega), List.getElem?_replicate] at e2
        split at e2 <;> cases e2
  · rcases both y c e with a | a
    · exact ⟨_, x.cell y c a⟩
    · obtain ⟨v, z⟩ := (C.all y c a).2
      exact ⟨v, cellK z⟩
  · rcases both y c e with a | a
    · exact e0.hok.fresh (Nat.le_of_lt (x.above y c (PySem.mem_of_lookup a)))
    · exact (C.all y c a).1
  · have clen := C.len
    unfold startF
    show _ = N.length
    rw [List.length_append, List.length_append, List.length_map, List.length_replicate]
    omega
end
section
variable {CX : CXT} {P : Program} {w : World} {K : PySem.W.Frag} {mg : Str → Option Value} {base : Heap} {N ps fr : List Str} {F : NF} {f : Addr} {k j : Nat} {sp sp' : List (Option V) → Sp}
/-- a nested def by its body -/
theorem nok_ofC (S : NScopeC N ps fr F.scope) (hb : ∀ (doc pm ctv : Value) (us : List Value), us.length = ps.length → bindArgs (F.fd doc pm ctv) ⟨us, []⟩ = pure (ps.zip us)) (len : ∀ ws vs H Q E, sp ws vs H Q E → vs.length = ps.length)
    (hbody : ∀ (A : Around) (outer : List Env) (s : Shared) (H : Hp) (vs : List V) (ws : List (Option V)) (Q : VK) (E : XK), Room k (A.deeper (envC F f s.heap.objs.size)) → H f = some (FnO f F) → H F.c = some (CodeO F.c F.qual) → ws.length = fr.length → sp ws vs H Q E →
      ∃ t, PSs (ncxC CX P w K mg base N F f A outer s H E) F.body t ∧ t { nx := fun _ H' => Q .non H', rt := Q } (startF N vs ws) H) :
    NOk P w K mg base CX (k + 1) f F ps fr sp := by
  refine ⟨len, fun A outer s H us vs ws Q E hr e0 hf hc C r hsp => ?_⟩
  have hl := len _ _ _ _ _ hsp
  have lim : s.heap.NoLimit := e0.mod.nolimit.keeps fun b o e => (e0.bs b o e).1
  obtain ⟨od, sl, doc, pm, ctv, ho⟩ := fnO_at e0.hok hf
  refine codeAny_call_function hr.depth ho rfl S.co S.gen rfl (codeO_at e0.hok hc) ?_
  rw [hb doc pm ctv us (by rw [← r.length]; exact hl)]
  have hkind : ∀ y ∈ ps.zip us, F.scope.names.lookup y.1 = some .local ∨ (F.scope.names.lookup y.1 = some .cell ∧ ((cellsFrom (s.heap.objs.size + 1) F.scope.names []).lookup y.1).isSome = true) := fun ⟨n, v⟩ hy => by
    rcases S.par n (List.of_mem_zip hy).1 with q | q
    · exact .inl q
    · exact .inr ⟨q, PySem.W.cellsFrom_some _ _ _ (.inl q)⟩
  refine wpAny_pure (env_own S.kind hkind fun env he s1 x => ?_)
  subst he
  refine ⟨lim.keeps x.toInCall.keep, codeAny_func ?_⟩
  obtain ⟨t, ht, hq⟩ := hbody A outer s H vs ws Q E (hr.deeper _) hf hc C.len hsp
  have I : Inv (ncxC CX P w K mg base N F f A outer s H E) [] (startF N vs ws) H s1 := inv_startC S hr.hd e0 hl r C x
  refine wpAny_mono (ht.run [] _ (startF N vs ws) H _ I hq) (fun fl s' hs => ?_) fun e s' hs => hs
  have fin : ∀ {σ' : L2.St} {H' : Hp} {v : V} {u : Value}, Inv (ncxC CX P w K mg base N F f A outer s H E) [] σ' H' s' → L2.RelV v u → Q v H' → CE outer P w H s Q u s' :=
    fun {σ' H' v u} J rv q => ⟨v, H', J.os, J.bare, J.base, J.hok, rv, q⟩
  cases fl with
  | ret u =>
    obtain ⟨v, σ', H', J, rv, q⟩ := hs
    exact fin J rv q
  | next =>
    obtain ⟨σ', H', J, q⟩ := hs
    exact fin (v := V.non) (u := Value.none) J rfl q
  | brk =>
    obtain ⟨_, _, _, q⟩ := hs
    exact False.elim q
  | cont =>
    obtain ⟨_, _, _, q⟩ := hs
    exact False.elim q
end
end Nw
end
section
set_option maxRecDepth 100000
set_option maxHeartbeats 2000000
namespace Nw
open PySem PySem.Spec PyProof.Rows L2 LamX NdefX
/-- a list of natural numbers -/
abbrev vN (l : List Nat) : List V := l.map fun (n : Nat) => V.int (n : Int)
abbrev LN (K : PySem.W.Frag) (H : Hp) (v : V) (l : List Nat) : Prop := ∃ a, v = .ref a ∧ SqL K H a (vN l)
theorem vN_get {l : List Nat} {i : Nat} {n : Nat} (h : l[i]? = some n) : (vN l)[i]? = some (.int (n : Int)) := by
  rw [List.getElem?_map, h]
  rfl
theorem vN_of {l : List Nat} {i : Nat} {v : V} (h : (vN l)[i]? = some v) : ∃ n, l[i]? = some n ∧ v = .int (n : Int) := by
  rw [List.getElem?_map] at h
  cases e : l[i]? with
  | none => rw [e] at h; cases h
  | some n => rw [e] at h; exact ⟨n, rfl, (Option.some.inj h).symm⟩
theorem if_true_of {c : Bool} {A B : Prop} (hc : c = true) (h : A) : if c = true then A else B := by
  rw [if_pos hc]
  exact h
theorem if_false_of {c : Bool} {A B : Prop} (hc : c = false) (h : B) : if c = true then A else B := by
  rw [hc, if_neg Bool.false_ne_true]
  exact h
section
variable {P : Program} {w : World} {K : PySem.W.Frag} {mg : Str → Option Value} {base : Heap} {f : Addr} {fd : FuncData}

def sp_leads_out (K : PySem.W.Frag) : Sp := fun vs H Q _ => ∃ (v : V) (W : Ways) (u x : Nat), vs = [v, .int u, .int x] ∧ Dp K H v (dWays W) ∧ u < W.length ∧ Q (.bl (decide (1 ≤ x ∧ x ≤ (rowAt W u).length))) H
theorem sc_leads_out : FnScope ["ways", "place", "letter"] ["ways", "place", "letter"] (defScope s_leads_out) := ⟨rfl, rfl, rfl, by decide +kernel, rfl, by decide +kernel, by decide +kernel⟩
theorem ok_leads_out (T : Tx K mg) (F : FnP K d_leads_out f fd) : FnOk P w K mg base CX0 1 f fd ["ways", "place", "letter"] (sp_leads_out K) := by
  refine F.ok sc_leads_out (fun vs H Q E h => ?_) (fun cdv A outer s H vs Q E hr h => ⟨_, PSs.nox
    (pss_one (ps_ret (pe_chain op_le op_le pe_int (pv 2) (pe_callB call_len_seq (by rfl) T.f_len PySem.boot_len (pa_cons (pe_ix ix_list (pv 0) (pv 1) (fun _ _ => rfl)) pa_nil))))), ?_⟩)
  · obtain ⟨v, W, u, x, rfl, _⟩ := h
    rfl
  · obtain ⟨v, W, u, x, rfl, hW, hu, q⟩ := h
    obtain ⟨a, xs, rfl, sq, al⟩ := hW.lst_of
    obtain ⟨r, hr1, hr2⟩ := al.get (rowsGet (row_some hu))
    obtain ⟨b, ys, rfl, sq2, al2⟩ := hr2.lst_of
    have len : ys.length = (rowAt W u).length := by rw [al2.len, List.length_map]
    refine ⟨_, rfl, _, _, rfl, rfl, _, rfl, ?_⟩
    by_cases c : 1 ≤ x
    · refine if_true_of (decide_eq_true (by omega)) ⟨_, rfl, _, rfl, a, xs, u, _, rfl, rfl, sq, at_nat hr1, b, ys, rfl, .inl sq2, _, _, rfl, rfl, ?_⟩
      have e : decide ((x : Int) ≤ (ys.length : Int)) = decide (1 ≤ x ∧ x ≤ (rowAt W u).length) := decide_eq_decide.mpr (by omega)
      show Q (.bl (decide ((x : Int) ≤ (ys.length : Int)))) H
      rw [e]
      exact q
    · refine if_false_of (decide_eq_false (by omega)) ?_
      have e : decide (1 ≤ x ∧ x ≤ (rowAt W u).length) = false := decide_eq_false fun z => c z.1
      rw [e] at q
      exact q

def sp_led_to (K : PySem.W.Frag) : Sp := fun vs H Q _ => ∃ (v : V) (W : Ways) (u x : Nat), vs = [v, .int u, .int x] ∧ Dp K H v (dWays W) ∧ u < W.length ∧ Q (.int (ledTo W u x : Nat)) H
theorem sc_led_to : FnScope ["ways", "place", "letter"] ["ways", "place", "letter"] (defScope s_led_to) := ⟨rfl, rfl, rfl, by decide +kernel, rfl, by decide +kernel, by decide +kernel⟩
theorem ok_led_to (F : FnP K d_led_to f fd) (G_leads_out : Has P w K mg 1 "leads_out" ["ways", "place", "letter"] (sp_leads_out K)) : FnOk P w K mg base CX0 2 f fd ["ways", "place", "letter"] (sp_led_to K) := by
  refine F.ok sc_led_to (fun vs H Q E h => ?_) (fun cdv A outer s H vs Q E hr h => ⟨_, PSs.nox
    (pss_cons (ps_if (pt_val (pe_has G_leads_out hr (pa_cons (pv 0) (pa_cons (pv 1) (pa_cons (pv 2) pa_nil))))) (pss_one (ps_ret (pe_ix ix_tup (pe_ix ix_list (pe_ix ix_list (pv 0) (pv 1) (fun _ _ => rfl)) (pe_op op_sub (pv 2) pe_int) (fun _ _ => rfl)) pe_int (fun _ _ => rfl)))) pss_nil)
      (pss_one (ps_ret (pv 1)))), ?_⟩)
  · obtain ⟨v, W, u, x, rfl, _⟩ := h
    rfl
  · obtain ⟨v, W, u, x, rfl, hW, hu, q⟩ := h
    refine ⟨_, rfl, _, rfl, _, rfl, v, W, u, x, rfl, hW, hu, _, rfl, ?_⟩
    obtain ⟨a, xs, rfl, sq, al⟩ := hW.lst_of
    obtain ⟨r, hr1, hr2⟩ := al.get (rowsGet (row_some hu))
    obtain ⟨b, ys, rfl, sq2, al2⟩ := hr2.lst_of
    by_cases c : 1 ≤ x ∧ x ≤ (rowAt W u).length
    · refine if_true_of (decide_eq_true c) ?_
      obtain ⟨e, rfl⟩ : ∃ e, x = e + 1 := ⟨x - 1, by omega⟩
      have he : (rowAt W u)[e]? = some (rowAt W u)[e] := List.getElem?_eq_getElem (by omega)
      obtain ⟨z, hz1, hz2⟩ := al2.get (rowGet he)
      obtain ⟨c1, zs, rfl, sq3, al3⟩ := hz2.tup_of
      obtain ⟨y, hy1, hy2⟩ := al3.get (i := 0) rfl
      have ex : ((e + 1 : Nat) : Int) - 1 = (e : Int) := by omega
      refine ⟨_, rfl, _, rfl, a, xs, u, _, rfl, rfl, sq, at_nat hr1, _, rfl, _, _, rfl, rfl, b, ys, _, _, rfl, rfl, sq2, (by rw [ex]; exact at_nat hz1), c1, zs, (0 : Int), y, rfl, rfl, sq3, at_nat hy1, ?_⟩
      rw [hy2.int_of]
      rw [ledTo_in rfl he] at q
      exact q
    · refine if_false_of (decide_eq_false c) ⟨_, rfl, ?_⟩
      rw [ledTo_out c] at q
      exact q

def sp_came_in (K : PySem.W.Frag) : Sp := fun vs H Q _ => ∃ (v : V) (W : Ways) (u x : Nat), vs = [v, .int u, .int x] ∧ Dp K H v (dWays W) ∧ u < W.length ∧ Q (.int (cameIn W u x : Nat)) H
theorem sc_came_in : FnScope ["ways", "place", "letter"] ["ways", "place", "letter"] (defScope s_came_in) := ⟨rfl, rfl, rfl, by decide +kernel, rfl, by decide +kernel, by decide +kernel⟩
theorem ok_came_in (F : FnP K d_came_in f fd) (G_leads_out : Has P w K mg 1 "leads_out" ["ways", "place", "letter"] (sp_leads_out K)) : FnOk P w K mg base CX0 2 f fd ["ways", "place", "letter"] (sp_came_in K) := by
  refine F.ok sc_came_in (fun vs H Q E h => ?_) (fun cdv A outer s H vs Q E hr h => ⟨_, PSs.nox
    (pss_cons (ps_if (pt_val (pe_has G_leads_out hr (pa_cons (pv 0) (pa_cons (pv 1) (pa_cons (pv 2) pa_nil))))) (pss_one (ps_ret (pe_op op_add (pe_ix ix_tup (pe_ix ix_list (pe_ix ix_list (pv 0) (pv 1) (fun _ _ => rfl)) (pe_op op_sub (pv 2) pe_int) (fun _ _ => rfl)) pe_int (fun _ _ => rfl)) pe_int))) pss_nil)
      (pss_one (ps_ret pe_int))), ?_⟩)
  · obtain ⟨v, W, u, x, rfl, _⟩ := h
    rfl
  · obtain ⟨v, W, u, x, rfl, hW, hu, q⟩ := h
    refine ⟨_, rfl, _, rfl, _, rfl, v, W, u, x, rfl, hW, hu, _, rfl, ?_⟩
    obtain ⟨a, xs, rfl, sq, al⟩ := hW.lst_of
    obtain ⟨r, hr1, hr2⟩ := al.get (rowsGet (row_some hu))
    obtain ⟨b, ys, rfl, sq2, al2⟩ := hr2.lst_of
    by_cases c : 1 ≤ x ∧ x ≤ (rowAt W u).length
    · refine if_true_of (decide_eq_true c) ?_
      obtain ⟨e, rfl⟩ : ∃ e, x = e + 1 := ⟨x - 1, by omega⟩
      have he : (rowAt W u)[e]? = some (rowAt W u)[e] := List.getElem?_eq_getElem (by omega)
      obtain ⟨z, hz1, hz2⟩ := al2.get (rowGet he)
      obtain ⟨c1, zs, rfl, sq3, al3⟩ := hz2.tup_of
      obtain ⟨y, hy1, hy2⟩ := al3.get (i := 1) rfl
      have ey := hy2.int_of
      subst ey
      have ex : ((e + 1 : Nat) : Int) - 1 = (e : Int) := by omega
      refine ⟨_, rfl, _, rfl, a, xs, u, _, rfl, rfl, sq, at_nat hr1, _, rfl, _, _, rfl, rfl, b, ys, _, _, rfl, rfl, sq2, (by rw [ex]; exact at_nat hz1), c1, zs, (1 : Int), _, rfl, rfl, sq3, at_nat hy1, _, _, rfl, rfl, ?_⟩
      rw [cameIn_in rfl he] at q
      exact q
    · refine if_false_of (decide_eq_false c) ?_
      rw [cameIn_out c] at q
      exact q
end
end Nw
end
section
set_option maxRecDepth 100000
set_option maxHeartbeats 2000000
namespace Nw
open PySem PySem.Spec PyProof.Rows L2 LamX NdefX
section
variable {P : Program} {w : World} {K : PySem.W.Frag} {mg : Str → Option Value} {base : Heap} {f : Addr} {fd : FuncData}

def sp_walked (K : PySem.W.Frag) : Sp := fun vs H Q _ => ∃ (v wv : V) (W : Ways) (u : Nat) (l : List Nat), vs = [v, .int u, wv] ∧ Dp K H v (dWays W) ∧ WOk W ∧ u < W.length ∧ LN K H wv l ∧ l.length ≤ 1000 ∧
  ∀ H' p, Same H H' → H p = none → H' p = some (.lst (vN (walkedW W u l))) → Q (.ref p) H'
theorem sc_walked : FnScope ["ways", "start", "word", "places", "letter"] ["ways", "start", "word"] (defScope s_walked) := ⟨rfl, rfl, rfl, by decide +kernel, rfl, by decide +kernel, by decide +kernel⟩
theorem ok_walked (F : FnP K d_walked f fd) (G_led_to : Has P w K mg 2 "led_to" ["ways", "place", "letter"] (sp_led_to K)) : FnOk P w K mg base CX0 3 f fd ["ways", "start", "word"] (sp_walked K) := by
  refine F.ok sc_walked (fun vs H Q E h => ?_) (fun cdv A outer s H vs Q E hr h => ⟨_, PSs.nox
    (pss_cons (ps_set (i := 3) sc_walked.nd rfl (Or.inl rfl) (pe_lst (pa_cons (pv 1) pa_nil)))
      (pss_cons (ps_for PassesOwn.never rfl (pi_list (pv 2)) (pg_name (i := 4) sc_walked.nd rfl (Or.inl rfl)) (pss_one (ps_expr (pe_bm PySem.F.plainAttrs_list PySem.F.slot_list_append PySem.F.type_list_append mt_append (pv 3) (pa_cons (pe_has G_led_to hr (pa_cons (pv 0) (pa_cons (pe_ix ix_list (pv 3) (pe_un un_neg pe_int) (fun _ _ => rfl)) (pa_cons (pv 4) pa_nil)))) pa_nil)))))
      (pss_one (ps_ret (pv 3))))), ?_⟩)
  · obtain ⟨v, wv, W, u, l, rfl, _⟩ := h
    rfl
  · obtain ⟨v, wv, W, u, l, rfl, hW, ok, hu, ⟨a, rfl, hl⟩, hlen, q⟩ := h
    refine ⟨_, rfl, (by show 1 ≤ sizeLine; decide), fun p np => ?_⟩
    refine ⟨_, rfl, a, rfl, ⟨_, (Keep.new np).sqL hl⟩, for_list (K := K) (a := a) (xs := vN l) (fun i σ H' => ∃ z : Option V, σ = [some v, some (.int u), some (.ref a), some (.ref p), z] ∧ Same H H' ∧ H' p = some (.lst (vN (walkedW W u (l.take i)))))
      ⟨none, rfl, Same.new np, upd_same⟩ (fun i σ H' _ ⟨_, _, s5, _⟩ => s5.keep.sqL hl) ?_ ?_⟩
    · rintro i y σ H' hi ⟨z, rfl, s5, hp⟩
      obtain ⟨x, hx, rfl⟩ := vN_of hi
      obtain ⟨r, hr1, hr2⟩ := walkedW_snoc W (l.take i) u x
      rw [← take_more hx] at hr2
      have hrlt : r < W.length := walkedW_lt ok _ u hu r (List.mem_of_getLast? hr1)
      have hil : i < l.length := (List.getElem?_eq_some_iff.mp hx).1
      have hw : (walkedW W u (l.take i)).length ≤ 1001 := by
        rw [walkedW_len, List.length_take]
        omega
      obtain ⟨pre, epre⟩ : ∃ pre, walkedW W u (l.take i) = pre ++ [r] := by
        obtain ⟨h1, h2⟩ := List.getLast?_eq_some_iff.mp hr1
        exact ⟨h1, h2⟩
      have eL : vN (walkedW W u (l.take i)) = vN pre ++ [.int (r : Int)] := by
        rw [epre, vN, List.map_append]
        rfl
      have hat : atI (vN (walkedW W u (l.take i))) (-1) = some (.int (r : Int)) := by
        rw [eL]
        exact atI_last _ _
      refine ⟨_, rfl, .inl ⟨rfl, _, SqL.of hp⟩, _, rfl, _, rfl, (1 : Int), rfl, p, _, _, _, rfl, rfl, SqL.of hp, hat, _, rfl, v, W, r, x, rfl, hW.same s5, hrlt, p, _, _, rfl, rfl, hp, ?_, ?_⟩
      · show (vN (walkedW W u (l.take i))).length < sizeLine
        rw [List.length_map]
        exact Nat.lt_of_le_of_lt hw (by decide)
      · refine ⟨some (.int (x : Int)), rfl, s5.upd np, ?_⟩
        rw [upd_same, hr2, vN, vN, List.map_append]
        rfl
    · rintro σ H' ⟨z, rfl, s5, hp⟩
      rw [List.length_map, List.take_length] at hp
      exact ⟨_, rfl, q H' p s5 np hp⟩
end
end Nw
end
section
set_option maxRecDepth 100000
set_option maxHeartbeats 2000000
namespace Nw
open PySem PySem.Spec PyProof.Rows L2 LamX NdefX
theorem yes_of {Q : Bool → Hp → Prop} {σ : L2.St} {H : Hp} (h : Q true H) : tYes σ H Q := h
theorem vN_ints (l : List Nat) : vN l = (l.map fun n : Nat => (n : Int)).map V.int := by
  rw [List.map_map]
  rfl
theorem max_is {l : List Nat} {m : Nat} (h1 : m ∈ l) (h2 : ∀ x ∈ l, x ≤ m) : l.foldl max 0 = m := by
  have key : ∀ (l : List Nat) (a : Nat), (∀ x ∈ l, x ≤ l.foldl max a) ∧ a ≤ l.foldl max a ∧ (l.foldl max a = a ∨ l.foldl max a ∈ l) := by
    intro l
    induction l with
    | nil => exact fun a => ⟨(fun x hx => nomatch hx), Nat.le_refl _, .inl rfl⟩
    | cons y l ih =>
      intro a
      obtain ⟨k1, k2, k3⟩ := ih (max a y)
      refine ⟨fun x hx => ?_, ?_, ?_⟩
      · rcases List.mem_cons.mp hx with e | hx
        · subst e
          exact Nat.le_trans (Nat.le_max_right a x) k2
        · exact k1 x hx
      · exact Nat.le_trans (Nat.le_max_left a y) k2
      · rcases k3 with k3 | k3
        · rw [List.foldl_cons, k3]
          rcases Nat.le_total a y with q | q
          · rw [Nat.max_eq_right q]
            exact .inr List.mem_cons_self
          · rw [Nat.max_eq_left q]
            exact .inl rfl
        · exact .inr (List.mem_cons_of_mem _ k3)
  obtain ⟨k1, k2, k3⟩ := key l 0
  have a1 := k1 m h1
  rcases k3 with k3 | k3
  · omega
  · exact Nat.le_antisymm (h2 _ k3) a1
theorem shaped_all {n : Nat} : ∀ {xs : List PyData}, (∀ x ∈ xs, x.canLay0 = true ∧ x.depth ≤ n) → PyData.canLayAll0 xs = true ∧ PyData.depthAll xs ≤ n
  | [], _ => ⟨rfl, Nat.zero_le _⟩
  | x :: xs, h => by
    obtain ⟨a, b⟩ := h x List.mem_cons_self
    obtain ⟨c, d⟩ := shaped_all (xs := xs) fun y hy => h y (List.mem_cons_of_mem _ hy)
    exact ⟨by rw [PyData.canLayAll0, a, c]; rfl, by rw [PyData.depthAll]; exact Nat.max_le.mpr ⟨b, d⟩⟩
theorem lay_list {n : Nat} {xs : List PyData} (h : ∀ x ∈ xs, x.canLay0 = true ∧ x.depth ≤ n) : (PyData.list xs).canLay0 = true ∧ (PyData.list xs).depth ≤ n + 1 := by
  obtain ⟨a, b⟩ := shaped_all h
  exact ⟨by rw [PyData.canLay0]; exact a, by rw [PyData.depth]; omega⟩
theorem lay_tuple {n : Nat} {xs : List PyData} (h : ∀ x ∈ xs, x.canLay0 = true ∧ x.depth ≤ n) : (PyData.tuple xs).canLay0 = true ∧ (PyData.tuple xs).depth ≤ n + 1 := by
  obtain ⟨a, b⟩ := shaped_all h
  exact ⟨by rw [PyData.canLay0]; exact a, by rw [PyData.depth]; omega⟩
theorem lay_int (i : Int) : (PyData.int i).canLay0 = true ∧ (PyData.int i).depth ≤ 0 := ⟨by rw [PyData.canLay0], by rw [PyData.depth]; exact Nat.le_refl _⟩
theorem lay_none : (PyData.none).canLay0 = true ∧ (PyData.none).depth ≤ 0 := ⟨by rw [PyData.canLay0], by rw [PyData.depth]; exact Nat.le_refl _⟩
theorem lay_up {d : PyData} {n m : Nat} (h : d.canLay0 = true ∧ d.depth ≤ n) (k : n ≤ m) : d.canLay0 = true ∧ d.depth ≤ m := ⟨h.1, Nat.le_trans h.2 k⟩
theorem lay_ints (l : List Int) : ∀ x ∈ l.map PyData.int, x.canLay0 = true ∧ x.depth ≤ 0 := fun x hx => by
  obtain ⟨i, _, rfl⟩ := List.mem_map.mp hx
  exact lay_int i
theorem lay_pair (p : Nat × Nat) : (dPair p).canLay0 = true ∧ (dPair p).depth ≤ 1 := lay_tuple (n := 0) fun x hx => by
  have : x = .int (p.1 : Int) ∨ x = .int (p.2 : Int) := by simpa using hx
  rcases this with rfl | rfl <;> exact lay_int _
theorem shaped_of {d : PyData} {n : Nat} (h : d.canLay0 = true ∧ d.depth ≤ n) (k : n ≤ 64 := by decide) : SeqAt.shaped d = true := by
  unfold SeqAt.shaped
  rw [h.1, decide_eq_true (Nat.le_trans h.2 k)]
  rfl
theorem lay_links (l : List (Nat × Nat)) : (dLinks l).canLay0 = true ∧ (dLinks l).depth ≤ 2 := lay_tuple fun x hx => by
  obtain ⟨p, _, rfl⟩ := List.mem_map.mp hx
  exact lay_pair p
theorem eqv_pair (p q : Nat × Nat) : PyData.eqv (dPair p) (dPair q) = decide (p = q) := by
  have e : PyData.eqv (dPair p) (dPair q) = (((p.1 : Int) == (q.1 : Int)) && (((p.2 : Int) == (q.2 : Int)) && true)) := by
    simp only [dPair, PyData.eqv, PyData.eqvAll]
  rw [e, Bool.and_true]
  by_cases h : p = q
  · subst h
    simp
  · rw [decide_eq_false h]
    by_cases h1 : (p.1 : Int) = (q.1 : Int)
    · have h2 : ¬ (p.2 : Int) = (q.2 : Int) := fun z => h (Prod.ext (by omega) (by omega))
      simp [h2]
    · simp [h1]
section
variable {P : Program} {w : World} {K : PySem.W.Frag} {mg : Str → Option Value} {base : Heap} {f : Addr} {fd : FuncData}

def sp_most_exits (K : PySem.W.Frag) : Sp := fun vs H Q _ => ∃ (v : V) (W : Ways), vs = [v] ∧ Dp K H v (dWays W) ∧ 0 < W.length ∧ W.length ≤ 1000 ∧ ∀ H', Same H H' → Q (.int (mostW W : Nat)) H'
theorem sc_most_exits : FnScope ["ways", "row"] ["ways"] (defScope s_most_exits) := ⟨rfl, rfl, rfl, by decide +kernel, rfl, by decide +kernel, by decide +kernel⟩
theorem ok_most_exits (T : Tx K mg) (F : FnP K d_most_exits f fd) : FnOk P w K mg base CX0 1 f fd ["ways"] (sp_most_exits K) := by
  refine F.ok sc_most_exits (fun vs H Q E h => ?_) (fun cdv A outer s H vs Q E hr h => ⟨_, PSs.nox
    (pss_one (ps_ret (pe_callB (cr_max rfl) (by rfl) T.f_max (by decide +kernel) (pa_cons (pe_lc (own := [("row", 1)]) (by rfl) sc_most_exits.nd (pi_list (pv 0)) (blkOk_by (own := [("row", 1)]) (N := ["ways", "row"]) (sc := defScope s_most_exits) (by decide +kernel)) (fun _ _ _ _ _ => (pg_name (i := 1) sc_most_exits.nd rfl (Or.inl rfl))) (fun _ _ _ _ _ => pts_nil) (fun _ _ _ _ _ => (pe_callB (lenK K) (by rfl) T.f_len PySem.boot_len (pa_cons (pv 1) pa_nil)))) pa_nil)))), ?_⟩)
  · obtain ⟨v, W, rfl, _⟩ := h
    rfl
  · obtain ⟨v, W, rfl, hW, hn, hle, q⟩ := h
    obtain ⟨a, xs, rfl, sq, al⟩ := hW.lst_of
    have hxl : xs.length = W.length := by rw [al.len, List.length_map]
    refine ⟨_, rfl, a, rfl, ⟨_, sq⟩, fun D nD => lc_list (K := K) (a := a) (xs := xs) (fun i H' => Same H H' ∧ H' D = some (.lst (vN ((W.take i).map List.length)))) ⟨Same.new nD, upd_same⟩ (fun i H' _ h => h.1.keep.sqL sq) ?_ ?_⟩
    · rintro i x H' hx ⟨s1, hD⟩
      obtain ⟨d, hd1, hd2⟩ := al.getV hx
      rw [List.getElem?_map] at hd1
      obtain ⟨row, hrow, rfl⟩ := Option.map_eq_some_iff.mp hd1
      obtain ⟨b, ys, rfl, sq2, al2⟩ := hd2.lst_of
      refine ⟨rfl, yes_of (iteT ⟨_, rfl, b, ys, rfl, .inl (s1.keep.sqL sq2), _, hD, ?_, s1.upd nD, ?_⟩)⟩
      · rw [List.length_map, List.length_map, List.length_take]
        exact Nat.lt_of_le_of_lt (Nat.le_trans (Nat.min_le_right _ _) hle) (by decide)
      · rw [upd_same, take_more hrow, List.map_append, vN, vN, List.map_append, al2.len, List.length_map]
        rfl
    · rintro H' ⟨s1, hD⟩
      rw [hxl, List.take_length] at hD
      refine ⟨D, (W.map List.length).map fun n : Nat => (n : Int), rfl, SqL.of (by rw [← vN_ints]; exact hD), by simpa using hn, fun m hm hall => ?_⟩
      obtain ⟨k, hk, rfl⟩ := List.mem_map.mp hm
      have e : mostW W = k := max_is hk fun x hx => by
        have := hall (x : Int) (List.mem_map.mpr ⟨x, hx, rfl⟩)
        omega
      have q' := q H' s1
      rw [e] at q'
      exact q'

def sp_is_linked (K : PySem.W.Frag) : Sp := fun vs H Q _ => ∃ (v : V) (l : List (Nat × Nat)) (a b : Nat), vs = [v, .int a, .int b] ∧ Dp K H v (dLinks l) ∧ ∀ H', Same H H' → Q (.bl (l.contains (a, b) || l.contains (b, a))) H'
theorem sc_is_linked : FnScope ["links", "u", "v"] ["links", "u", "v"] (defScope s_is_linked) := ⟨rfl, rfl, rfl, by decide +kernel, rfl, by decide +kernel, by decide +kernel⟩
theorem any_pair (l : List (Nat × Nat)) (p : Nat × Nat) : ((l.map dPair).any fun z => PyData.eqv z (dPair p)) = l.contains p := by
  induction l with
  | nil => rfl
  | cons q l ih =>
    rw [List.map_cons, List.any_cons, ih, eqv_pair, List.contains_cons]
    by_cases h : q = p
    · subst h
      simp
    · have : ¬ p = q := fun z => h z.symm
      simp [h, this]
theorem pair_at {H : Hp} {p : Addr} {a b : Nat} (h : H p = some (.tup [.int (a : Int), .int (b : Int)])) : Dp K H (.ref p) (dPair (a, b)) := .tup (SqT.of h) (.cons (.int _) (.cons (.int _) .nil))
theorem ok_is_linked (T : Tx K mg) (F : FnP K d_is_linked f fd) : FnOk P w K mg base CX0 1 f fd ["links", "u", "v"] (sp_is_linked K) := by
  refine F.ok sc_is_linked (fun vs H Q E h => ?_) (fun cdv A outer s H vs Q E hr h => ⟨_, PSs.nox
    (pss_one (ps_ret (pe_or (pe_cmpR (op_inTD (u65 hr)) (pe_tup (pa_cons (pv 1) (pa_cons (pv 2) pa_nil))) (pv 0) (by rfl)) (pe_one (pe_cmpR (op_inTD (u65 hr)) (pe_tup (pa_cons (pv 2) (pa_cons (pv 1) pa_nil))) (pv 0) (by rfl)))))), ?_⟩)
  · obtain ⟨v, l, a, b, rfl, _⟩ := h
    rfl
  · obtain ⟨v, l, a, b, rfl, hl, q⟩ := h
    refine ⟨_, rfl, _, rfl, (by show 2 ≤ sizeLine; decide), fun p np => ?_⟩
    have s1 : Same H (upd H p (.tup [.int (a : Int), .int (b : Int)])) := Same.new np
    refine ⟨_, rfl, dPair (a, b), l.map dPair, pair_at upd_same, hl.same s1, shaped_of (lay_pair _), shaped_of (lay_links l), _, rfl, ?_⟩
    rw [any_pair]
    cases c : l.contains (a, b) with
    | true =>
      have q' := q _ s1
      rw [c] at q'
      exact q'
    | false =>
      refine ⟨_, rfl, _, rfl, (by show 2 ≤ sizeLine; decide), fun p2 np2 => ?_⟩
      have s2 := s1.trans (Same.new (o := .tup [.int (b : Int), .int (a : Int)]) np2)
      refine ⟨_, rfl, dPair (b, a), l.map dPair, pair_at upd_same, hl.same s2, shaped_of (lay_pair _), shaped_of (lay_links l), ?_⟩
      rw [any_pair]
      have q' := q _ s2
      rw [c] at q'
      exact q'
end
end Nw
end
section
set_option maxRecDepth 100000
set_option maxHeartbeats 2000000
namespace Nw
open PySem PySem.Spec PyProof.Rows L2 LamX NdefX
/-- what is tracked now and was not -/
def news (H0 H : Hp) : Hp := fun b => match H0 b with
  | none => H b
  | some _ => none
theorem news_at {H0 H : Hp} {b : Addr} (h : H0 b = none) : news H0 H b = H b := by
  unfold news
  rw [h]
theorem news_keep {H0 H : Hp} : Same (news H0 H) H := fun b o e => by
  unfold news at e
  cases q : H0 b with
  | none => rw [q] at e; exact e
  | some u => rw [q] at e; cases e
/-- the row t at r, all of it new -/
abbrev PairAt (H0 H : Hp) (t : V) (q : Nat × Nat) : Prop := ∃ a, t = .ref a ∧ H0 a = none ∧ H a = some (.tup [.int (q.1 : Int), .int (q.2 : Int)])
abbrev RowAt (H0 H : Hp) (r : Addr) (row : List (Nat × Nat)) : Prop := H0 r = none ∧ ∃ ts, H r = some (.lst ts) ∧ Paired (PairAt H0 H) ts row
structure Rows (H0 H : Hp) (p : Addr) (rs : List Addr) (W : Ways) : Prop where
  len : rs.length = W.length
  nd : rs.Nodup
  here : H p = some (.lst (rs.map V.ref))
  np : H0 p = none
  pr : p ∉ rs
  row : ∀ i r, rs[i]? = some r → RowAt H0 H r (rowAt W i)
theorem paired_len {α β : Type} {F : α → β → Prop} {l : List α} {m : List β} (h : Paired F l m) : l.length = m.length := Paired.length h
theorem paired_snoc {α β : Type} {F : α → β → Prop} : ∀ {l : List α} {m : List β} {a : α} {b : β}, Paired F l m → F a b → Paired F (l ++ [a]) (m ++ [b])
  | _, _, _, _, .nil, r => .cons r .nil
  | _, _, _, _, .cons x t, r => .cons x (paired_snoc t r)
theorem Rows.dp {K : PySem.W.Frag} {H0 H : Hp} {p : Addr} {rs : List Addr} {W : Ways} (R : Rows H0 H p rs W) : Dp K (news H0 H) (.ref p) (dWays W) := by
  have rowsOk : ∀ (ts : List V) (row : List (Nat × Nat)), Paired (PairAt H0 H) ts row → DpAll K (news H0 H) ts (row.map dPair) := by
    intro ts row h
    induction h with
    | nil => exact .nil
    | @cons t q ts row h _ ih =>
      obtain ⟨a, rfl, na, ha⟩ := h
      exact .cons (.tup (SqT.of (by rw [news_at na]; exact ha)) (.cons (.int _) (.cons (.int _) .nil))) ih
  refine .lst (SqL.of (by rw [news_at R.np]; exact R.here)) ?_
  have key : ∀ (k : Nat) (rs : List Addr) (V' : Ways), rs.length = V'.length → (∀ i r, rs[i]? = some r → RowAt H0 H r (rowAt V' i)) → DpAll K (news H0 H) (rs.map V.ref) (V'.map dRow) := by
    intro k rs
    induction rs with
    | nil =>
      intro V' hl _
      have : V' = [] := List.length_eq_zero_iff.mp hl.symm
      subst this
      exact .nil
    | cons r rs ih =>
      intro V' hl hrow
      cases V' with
      | nil => cases hl
      | cons row V' =>
        obtain ⟨nr, ts, hr, hp⟩ := hrow 0 r rfl
        refine .cons (.lst (SqL.of (by rw [news_at nr]; exact hr)) (rowsOk ts _ hp)) (ih V' (by simpa using hl) fun i r' hi => ?_)
        exact hrow (i + 1) r' hi
  exact key 0 rs W R.len R.row
/-- a pair more at the row of u -/
theorem Rows.push {H0 H : Hp} {p : Addr} {rs : List Addr} {W : Ways} (R : Rows H0 H p rs W) {u : Nat} {r t : Addr} {q : Nat × Nat} {ts : List V} (hr : rs[u]? = some r) (hts : H r = some (.lst ts)) (nt : H t = none) (n0 : H0 t = none) (hu : u < W.length) :
    Rows H0 (upd (upd H t (.tup [.int (q.1 : Int), .int (q.2 : Int)])) r (.lst (ts ++ [.ref t]))) p rs (W.set u (rowAt W u ++ [q])) := by
  have hrm : r ∈ rs := List.mem_of_getElem? hr
  have htr : t ≠ r := fun e => by rw [e, hts] at nt; cases nt
  have keepT : ∀ a xs, H a = some (.tup xs) → upd (upd H t (.tup [.int (q.1 : Int), .int (q.2 : Int)])) r (.lst (ts ++ [.ref t])) a = some (.tup xs) := fun a xs e => by
    rw [upd_ne (ne_of e hts fun z => by cases z), upd_ne (ne_of_none e nt)]
    exact e
  have keepP : ∀ x y, PairAt H0 H x y → PairAt H0 (upd (upd H t (.tup [.int (q.1 : Int), .int (q.2 : Int)])) r (.lst (ts ++ [.ref t]))) x y := fun x y h => by
    obtain ⟨a, e, n, ha⟩ := h
    exact ⟨a, e, n, keepT a _ ha⟩
  refine ⟨by rw [R.len, List.length_set], R.nd, ?_, R.np, R.pr, fun i r' hi => ?_⟩
  · rw [upd_ne (fun (e : p = r) => R.pr (by rw [e]; exact hrm)), upd_ne (ne_of_none R.here nt)]
    exact R.here
  · obtain ⟨nr, ts', h1, h2⟩ := R.row i r' hi
    refine ⟨nr, ?_⟩
    by_cases e : i = u
    · subst e
      rw [hr] at hi
      cases hi
      rw [hts] at h1
      cases h1
      refine ⟨_, upd_same, ?_⟩
      rw [rowAt_set hu, if_pos rfl]
      refine paired_snoc (Paired.mapP h2 keepP) ⟨t, rfl, n0, ?_⟩
      rw [upd_ne htr, upd_same]
    · have hne : r' ≠ r := fun z => by
        subst z
        have h5 := (List.getElem?_inj (List.getElem?_eq_some_iff.mp hi).1 R.nd).mp (hi.trans hr.symm)
        exact e h5
      refine ⟨ts', ?_, ?_⟩
      · rw [upd_ne hne, upd_ne (ne_of_none h1 nt)]
        exact h1
      · rw [rowAt_set hu, if_neg e]
        exact Paired.mapP h2 keepP
theorem fresh_of {H0 H : Hp} (s : Same H0 H) {t : Addr} (n : H t = none) : H0 t = none := s.free n
section
variable {P : Program} {w : World} {K : PySem.W.Frag} {mg : Str → Option Value} {base : Heap} {f : Addr} {fd : FuncData}
def sp_ways_of (K : PySem.W.Frag) : Sp := fun vs H Q _ => ∃ (v : V) (n : Nat) (l : List (Nat × Nat)), vs = [.int n, v] ∧ Dp K H v (dLinks l) ∧ n ≤ 7 ∧ l.length ≤ 10 ∧ (∀ p ∈ l, p.1 < n ∧ p.2 < n ∧ p.1 ≠ p.2) ∧
  ∀ H' z, Same H H' → Dp K (news H H') z (dWays (waysOf n l)) → Q z H'
theorem sc_ways_of : FnScope ["size", "links", "ways", "u", "v", "from_u", "from_v", "place"] ["size", "links"] (defScope s_ways_of) := ⟨rfl, rfl, rfl, by decide +kernel, rfl, by decide +kernel, by decide +kernel⟩
theorem ok_ways_of (T : Tx K mg) (F : FnP K d_ways_of f fd) : FnOk P w K mg base CX0 1 f fd ["size", "links"] (sp_ways_of K) := by
  refine F.ok sc_ways_of (fun vs H Q E h => ?_) (fun cdv A outer s H vs Q E hr h => ⟨_, PSs.nox
    (pss_cons (ps_setLc (i := 2) (own := [("place", 7)]) (by rfl) sc_ways_of.nd rfl rfl (sw_true rfl rfl rfl (by decide +kernel)) (pi_range1 (by rfl) T.f_range (pa_cons (pv 0) pa_nil)) (blkOk_by (own := [("place", 7)]) (N := ["size", "links", "ways", "u", "v", "from_u", "from_v", "place"]) (sc := defScope s_ways_of) (by decide +kernel)) (fun _ _ _ _ _ => (pg_name (i := 7) sc_ways_of.nd rfl (Or.inl rfl))) (fun _ _ _ _ _ => pts_nil) (fun _ _ _ _ _ => (pe_lst pa_nil)))
      (pss_cons (ps_for PassesOwn.never rfl (pi_tup (pv 1)) (pg_tup rfl (pgs_cons (pg_name (i := 3) sc_ways_of.nd rfl (Or.inl rfl)) (pgs_cons (pg_name (i := 4) sc_ways_of.nd rfl (Or.inl rfl)) pgs_nil))) (pss_cons (ps_set (i := 5) sc_ways_of.nd rfl (Or.inl rfl) (pe_callB call_len_seq (by rfl) T.f_len PySem.boot_len (pa_cons (pe_ix ix_list (pv 2) (pv 3) (fun _ _ => rfl)) pa_nil)))
      (pss_cons (ps_set (i := 6) sc_ways_of.nd rfl (Or.inl rfl) (pe_callB call_len_seq (by rfl) T.f_len PySem.boot_len (pa_cons (pe_ix ix_list (pv 2) (pv 4) (fun _ _ => rfl)) pa_nil)))
      (pss_cons (ps_expr (pe_bm PySem.F.plainAttrs_list PySem.F.slot_list_append PySem.F.type_list_append mt_append (pe_ix ix_list (pv 2) (pv 3) (fun _ _ => rfl)) (pa_cons (pe_tup (pa_cons (pv 4) (pa_cons (pv 6) pa_nil))) pa_nil)))
      (pss_one (ps_expr (pe_bm PySem.F.plainAttrs_list PySem.F.slot_list_append PySem.F.type_list_append mt_append (pe_ix ix_list (pv 2) (pv 4) (fun _ _ => rfl)) (pa_cons (pe_tup (pa_cons (pv 3) (pa_cons (pv 5) pa_nil))) pa_nil))))))))
      (pss_one (ps_ret (pv 2))))), ?_⟩)
  · obtain ⟨v, n, l, rfl, _⟩ := h
    rfl
  · obtain ⟨v, n, l, rfl, hl, hn, hll, hok, q⟩ := h
    obtain ⟨a, xs, rfl, sq, al⟩ := hl.tup_of
    have hxl : xs.length = l.length := by rw [al.len, List.length_map]
    refine ⟨_, rfl, (n : Int), rfl, by omega, by omega, fun D nD => lc_range (lo := 0) (n := ((n : Int) - 0).toNat) (fun i H' => Same H H' ∧ ∃ rs, rs.length = i ∧ Rows H H' D rs (List.replicate i [])) ?_ ?_ ?_⟩
    · exact ⟨Same.new nD, [], rfl, rfl, List.nodup_nil, upd_same, nD, by simp, fun i r hi => by simp at hi⟩
    · rintro i H' hi ⟨s1, rs, hrl, R⟩
      refine ⟨rfl, yes_of (iteT ⟨(by show 0 ≤ sizeLine; decide), fun t nt => ⟨rs.map V.ref, ?_, ?_, ?_⟩⟩)⟩
      · rw [upd_ne (ne_of_none R.here nt)]
        exact R.here
      · rw [List.length_map, hrl]
        exact Nat.lt_of_lt_of_le (show i < 8 by omega) (by decide)
      · have n0 := s1.free nt
        have htD : t ≠ D := fun e => by rw [e, R.here] at nt; cases nt
        have htr : t ∉ rs := fun hm => by
          obtain ⟨j, hj⟩ := List.mem_iff_getElem?.mp hm
          obtain ⟨_, ts, h1, _⟩ := R.row j t hj
          rw [h1] at nt
          cases nt
        refine ⟨(s1.upd n0).upd R.np, rs ++ [t], by simp [hrl], ?_⟩
        refine ⟨by simp [hrl], ?_, ?_, R.np, ?_, fun j r hj => ?_⟩
        · rw [List.nodup_append]
          exact ⟨R.nd, by simp, fun x hx y hy e => htr (by simp at hy; rw [← hy, ← e]; exact hx)⟩
        · rw [upd_same, List.map_append]
          rfl
        · intro hm
          rcases List.mem_append.mp hm with hm | hm
          · exact R.pr hm
          · simp at hm
            exact htD hm.symm
        · rw [rowAt_rep]
          by_cases hj2 : j < rs.length
          · rw [List.getElem?_append_left hj2] at hj
            obtain ⟨nr, ts, h1, h2⟩ := R.row j r hj
            rw [rowAt_rep] at h2
            cases h2
            refine ⟨nr, [], ?_, .nil⟩
            rw [upd_ne (fun (e : r = D) => R.pr (by rw [← e]; exact List.mem_of_getElem? hj)), upd_ne (ne_of_none h1 nt)]
            exact h1
          · rw [List.getElem?_append_right (by omega)] at hj
            have ej : j - rs.length = 0 := by
              have := (List.getElem?_eq_some_iff.mp hj).1
              simp at this
              omega
            rw [ej] at hj
            cases hj
            refine ⟨n0, [], ?_, .nil⟩
            rw [upd_ne htD, upd_same]
    · rintro H1 ⟨s1, rs, hrl, R⟩
      have en : ((n : Int) - 0).toNat = n := by omega
      rw [en] at R hrl
      refine ⟨_, rfl, a, rfl, ⟨_, s1.keep.sqT sq⟩, for_tup (K := K) (a := a) (xs := xs) (fun i σ H' => ∃ z1 z2 z3 z4 z5 : Option V, σ = [some (.int n), some (.ref a), some (.ref D), z1, z2, z3, z4, z5] ∧ Same H H' ∧ Rows H H' D rs (waysOf n (l.take i)))
        ⟨none, none, none, none, none, rfl, s1, R⟩ (fun i σ H' _ ⟨_, _, _, _, _, _, s5, _⟩ => s5.keep.sqT sq) ?_ ?_⟩
      · rintro i y σ H' hi ⟨z1, z2, z3, z4, z5, rfl, s5, R⟩
        obtain ⟨d, hd1, hd2⟩ := al.getV hi
        rw [List.getElem?_map] at hd1
        obtain ⟨p, hp, rfl⟩ := Option.map_eq_some_iff.mp hd1
        obtain ⟨hp1, hp2, hp3⟩ := hok p (List.mem_of_getElem? hp)
        obtain ⟨b, ys, rfl, sq2, al2⟩ := hd2.tup_of
        have eys : ys = [.int (p.1 : Int), .int (p.2 : Int)] := DpAll.ints [(p.1 : Int), (p.2 : Int)] al2
        subst eys
        have hWl : (waysOf n (l.take i)).length = n := waysOf_len _ _
        have hrl2 : rs.length = n := hrl
        obtain ⟨r1, hr1⟩ : ∃ r, rs[p.1]? = some r := ⟨rs[p.1]'(by omega), List.getElem?_eq_getElem _⟩
        obtain ⟨r2, hr2⟩ : ∃ r, rs[p.2]? = some r := ⟨rs[p.2]'(by omega), List.getElem?_eq_getElem _⟩
        obtain ⟨n1, t1, a1, b1⟩ := R.row _ _ hr1
        obtain ⟨n2, t2, a2, b2⟩ := R.row _ _ hr2
        have g1 : (rs.map V.ref)[p.1]? = some (.ref r1) := by rw [List.getElem?_map, hr1]; rfl
        have g2 : (rs.map V.ref)[p.2]? = some (.ref r2) := by rw [List.getElem?_map, hr2]; rfl
        have hne : r2 ≠ r1 := fun e => by
          subst e
          exact hp3 ((List.getElem?_inj (List.getElem?_eq_some_iff.mp hr1).1 R.nd).mp (hr1.trans hr2.symm))
        have rl : ∀ j, (rowAt (waysOf n (l.take i)) j).length ≤ 10 := fun j => by
          have := row_le (l.take i) (List.replicate n []) (fun q hq => by rw [List.length_replicate]; have := hok q (List.mem_of_mem_take hq); exact ⟨this.1, this.2.1⟩) j
          rw [rowAt_rep] at this
          have h2 : (l.take i).length ≤ l.length := by rw [List.length_take]; omega
          show (rowAt ((l.take i).foldl addLink (List.replicate n [])) j).length ≤ 10
          simp at this
          omega
        have l1 : t1.length = (rowAt (waysOf n (l.take i)) p.1).length := paired_len b1
        have l2 : t2.length = (rowAt (waysOf n (l.take i)) p.2).length := paired_len b2
        refine ⟨b, _, rfl, s5.keep.sqT sq2, rfl, _, _, rfl, _, _, rfl, rfl, ?_⟩
        -- from_u, from_v
        refine ⟨_, rfl, _, rfl, D, _, (p.1 : Int), _, rfl, rfl, SqL.of R.here, at_nat g1, r1, t1, rfl, .inl (SqL.of a1), ?_⟩
        refine ⟨_, rfl, _, rfl, D, _, (p.2 : Int), _, rfl, rfl, SqL.of R.here, at_nat g2, r2, t2, rfl, .inl (SqL.of a2), ?_⟩
        -- ways[u].append((v, from_v))
        refine ⟨_, rfl, _, rfl, D, _, (p.1 : Int), _, rfl, rfl, SqL.of R.here, at_nat g1, .inl ⟨rfl, _, SqL.of a1⟩, _, rfl, _, rfl, (by show 2 ≤ sizeLine; decide), fun t nt => ?_⟩
        have n0 := s5.free nt
        have hs1 : upd H' t (.tup [.int (p.2 : Int), .int (t2.length : Int)]) r1 = some (.lst t1) := by
          rw [upd_ne (ne_of_none a1 nt)]
          exact a1
        refine ⟨r1, t1, _, rfl, rfl, hs1, by rw [l1]; exact Nat.lt_of_le_of_lt (rl _) (by decide), ?_⟩
        have R1 := R.push (q := (p.2, t2.length)) hr1 a1 nt n0 (by omega)
        -- ways[v].append((u, from_u))
        have a2' : (upd (upd H' t (.tup [.int (p.2 : Int), .int (t2.length : Int)])) r1 (.lst (t1 ++ [.ref t]))) r2 = some (.lst t2) := by
          rw [upd_ne hne, upd_ne (ne_of_none a2 nt)]
          exact a2
        refine ⟨_, rfl, _, rfl, D, _, (p.2 : Int), _, rfl, rfl, SqL.of R1.here, at_nat g2, .inl ⟨rfl, _, SqL.of a2'⟩, _, rfl, _, rfl, (by show 2 ≤ sizeLine; decide), fun t' nt' => ?_⟩
        have s6 : Same H (upd (upd H' t (.tup [.int (p.2 : Int), .int (t2.length : Int)])) r1 (.lst (t1 ++ [.ref t]))) := (s5.upd n0).upd n1
        have n0' := s6.free nt'
        refine ⟨r2, t2, _, rfl, rfl, ?_, by rw [l2]; exact Nat.lt_of_le_of_lt (rl _) (by decide), ?_⟩
        · rw [upd_ne (ne_of_none a2' nt')]
          exact a2'
        have R2 := R1.push (q := (p.1, t1.length)) hr2 a2' nt' n0' (by rw [List.length_set]; omega)
        refine ⟨_, _, _, _, _, rfl, (s6.upd n0').upd n2, ?_⟩
        rw [waysOf_more hp]
        unfold addLink
        have e2 : rowAt ((waysOf n (l.take i)).set p.1 (rowAt (waysOf n (l.take i)) p.1 ++ [(p.2, t2.length)])) p.2 = rowAt (waysOf n (l.take i)) p.2 := by
          rw [rowAt_set (by omega), if_neg (fun e => hp3 e.symm)]
        rw [e2] at R2
        rw [← l1, ← l2]
        exact R2
      · rintro σ H' ⟨z1, z2, z3, z4, z5, rfl, s5, R⟩
        rw [hxl, List.take_length] at R
        exact ⟨_, rfl, q H' _ s5 R.dp⟩
end
end Nw
end
section
set_option maxRecDepth 100000
set_option maxHeartbeats 2000000
namespace Nw
open PySem PySem.Spec PyProof.Rows L2 LamX NdefX
def oV : Option Nat → V
  | none => .non
  | some n => .int (n : Int)
abbrev vO (l : List (Option Nat)) : List V := l.map oV
theorem vO_get {l : List (Option Nat)} {i : Nat} (hi : i < l.length) : (vO l)[i]? = some (oV (l.getD i none)) := by
  rw [List.getElem?_map, List.getD_eq_getElem?_getD, List.getElem?_eq_getElem hi]
  rfl
theorem vO_set (l : List (Option Nat)) (i : Nat) (o : Option Nat) : vO (l.set i o) = (vO l).set i (oV o) := List.map_set ..
theorem inV_nat (l : List Nat) (p : Nat) : inV (.int (p : Int)) (vN l) = l.contains p := by
  unfold inV
  induction l with
  | nil => rfl
  | cons q l ih =>
    have e : eqV (.int (q : Int)) (.int (p : Int)) = (p == q) := by
      show ((q : Int) == (p : Int)) = (p == q)
      by_cases h : p = q
      · subst h
        rw [beq_self_eq_true, beq_self_eq_true]
      · have h1 : ((q : Int) == (p : Int)) = false := beq_eq_false_iff_ne.mpr (by omega)
        have h2 : (p == q) = false := beq_eq_false_iff_ne.mpr h
        rw [h1, h2]
    have ih' : ((vN l).any fun y => eqV y (.int (p : Int))) = l.contains p := ih
    show (eqV (.int (q : Int)) (.int (p : Int)) || (vN l).any fun y => eqV y (.int (p : Int))) = _
    rw [e, ih', List.contains_cons]
theorem flat_vN (l : List Nat) : ∀ x ∈ vN l, flatV x = true := fun x hx => by
  obtain ⟨n, _, rfl⟩ := List.mem_map.mp hx
  rfl
/-- the whole number in a slot -/
def slotI (σ : L2.St) (i : Nat) : Nat := match (σ[i]? : Option (Option V)) with
  | some (some (V.int k)) => k.toNat
  | _ => 0
theorem all_flat_vN (l : List Nat) : (vN l).all flatV = true := List.all_eq_true.mpr (flat_vN l)
theorem ixN_nat {n i : Nat} (h : i < n) : ixN n (i : Int) = some i := by
  unfold ixN
  rw [if_pos (by omega), if_pos (by omega)]
  simp
theorem vN_snoc (l : List Nat) (x : Nat) : vN (l ++ [x]) = vN l ++ [.int (x : Int)] := by
  rw [vN, List.map_append]
  rfl
theorem vN_len (l : List Nat) : (vN l).length = l.length := List.length_map ..
theorem vO_len (l : List (Option Nat)) : (vO l).length = l.length := List.length_map ..
section
variable {P : Program} {w : World} {K : PySem.W.Frag} {mg : Str → Option Value} {base : Heap} {f : Addr} {fd : FuncData}
def sp_distances_among (K : PySem.W.Frag) : Sp := fun vs H Q _ => ∃ (v av : V) (W : Ways) (among : List Nat) (start : Nat), vs = [v, av, .int start] ∧ Dp K H v (dWays W) ∧ WOk W ∧ W.length ≤ 1000 ∧ LN K H av among ∧ start < W.length ∧
  ∀ H' p, Same H H' → H p = none → H' p = some (.lst (vO (farW W among start))) → Q (.ref p) H'
theorem sc_distances_among : FnScope ["ways", "among", "start", "far", "line", "at", "here", "place", "entry", "row"] ["ways", "among", "start"] (defScope s_distances_among) := ⟨rfl, rfl, rfl, by decide +kernel, rfl, by decide +kernel, by decide +kernel⟩
/-- what the loop holds: the slots aside -/
structure DAt (H0 H : Hp) (pf pl : Addr) (st : DSt) : Prop where
  same : Same H0 H
  nf : H0 pf = none
  nl : H0 pl = none
  ne : pl ≠ pf
  far : H pf = some (.lst (vO st.1))
  line : H pl = some (.lst (vN st.2))
theorem ok_distances_among (T : Tx K mg) (F : FnP K d_distances_among f fd) : FnOk P w K mg base CX0 1 f fd ["ways", "among", "start"] (sp_distances_among K) := by
  refine F.ok sc_distances_among (fun vs H Q E h => ?_) (fun cdv A outer s H vs Q E hr h => ⟨_, PSs.nox
    (pss_cons (ps_setLc (i := 3) (own := [("row", 9)]) (by rfl) sc_distances_among.nd rfl rfl (sw_true rfl rfl rfl (by decide +kernel)) (pi_list (pv 0)) (blkOk_by (own := [("row", 9)]) (N := ["ways", "among", "start", "far", "line", "at", "here", "place", "entry", "row"]) (sc := defScope s_distances_among) (by decide +kernel)) (fun _ _ _ _ _ => (pg_name (i := 9) sc_distances_among.nd rfl (Or.inl rfl))) (fun _ _ _ _ _ => pts_nil) (fun _ _ _ _ _ => pe_non))
      (pss_cons (ps_asg pe_int (pg_sub (pv 3) (pv 2) set_list))
      (pss_cons (ps_set (i := 4) sc_distances_among.nd rfl (Or.inl rfl) (pe_lst (pa_cons (pv 2) pa_nil)))
      (pss_cons (ps_set (i := 5) sc_distances_among.nd rfl (Or.inl rfl) pe_int)
      (pss_cons (ps_while PassesOwn.never (pt_cmpR op_lt (pv 5) (pe_callB call_len_seq (by rfl) T.f_len PySem.boot_len (pa_cons (pv 4) pa_nil)) (nomark _)) (pss_cons (ps_set (i := 6) sc_distances_among.nd rfl (Or.inl rfl) (pe_ix ix_list (pv 4) (pv 5) (fun _ _ => rfl)))
      (pss_cons (ps_for PassesOwn.never rfl (pi_list (pe_ix ix_list (pv 0) (pv 6) (fun _ _ => rfl))) (pg_tup rfl (pgs_cons (pg_name (i := 7) sc_distances_among.nd rfl (Or.inl rfl)) (pgs_cons (pg_name (i := 8) sc_distances_among.nd rfl (Or.inl rfl)) pgs_nil))) (pss_one (ps_if (PW.pt (pw_and (pt_cmpR op_isN (pe_ix ix_list (pv 3) (pv 7) (fun _ _ => rfl)) pe_non (nomark _)) (pw_and1 (pt_cmpR op_in_seq (pv 7) (pv 1) (by rfl))))) (pss_cons (ps_asg (pe_op op_add (pe_ix ix_list (pv 3) (pv 6) (fun _ _ => rfl)) pe_int) (pg_sub (pv 3) (pv 7) set_list))
      (pss_one (ps_expr (pe_bm PySem.F.plainAttrs_list PySem.F.slot_list_append PySem.F.type_list_append mt_append (pv 4) (pa_cons (pv 7) pa_nil))))) pss_nil)))
      (pss_one (ps_set (i := 5) sc_distances_among.nd rfl (Or.inl rfl) (pe_op op_add (pv 5) pe_int))))))
      (pss_one (ps_ret (pv 3)))))))), ?_⟩)
  · obtain ⟨v, av, W, among, start, rfl, _⟩ := h
    rfl
  · obtain ⟨v, av, W, among, start, rfl, hW, ok, hn, ⟨aa, rfl, ha⟩, hs, q⟩ := h
    obtain ⟨a, xs, rfl, sq, al⟩ := hW.lst_of
    have hxl : xs.length = W.length := by rw [al.len, List.length_map]
    -- far = [None for row in ways]
    refine ⟨_, rfl, a, rfl, ⟨_, sq⟩, fun pf npf => lc_list (K := K) (a := a) (xs := xs) (fun i H' => Same H H' ∧ H' pf = some (.lst (vO (List.replicate i none)))) ⟨Same.new npf, upd_same⟩ (fun i H' _ h => h.1.keep.sqL sq) ?_ ?_⟩
    · rintro i x H' hx ⟨s1, hD⟩
      have hi := (List.getElem?_eq_some_iff.mp hx).1
      refine ⟨rfl, yes_of (iteT ⟨_, hD, ?_, s1.upd npf, ?_⟩)⟩
      · rw [vO_len, List.length_replicate]
        exact Nat.lt_of_lt_of_le (show i < 1001 by omega) (by decide)
      · rw [upd_same, List.replicate_succ', vO, vO, List.map_append]
        rfl
    · rintro H1 ⟨s1, hf⟩
      rw [hxl] at hf
      -- far[start] = 0
      refine ⟨_, rfl, _, rfl, pf, _, (start : Int), start, rfl, rfl, hf, ixN_nat (by rw [vO_len, List.length_replicate]; exact hs), ?_⟩
      -- line = [start]
      refine ⟨_, rfl, (by show 1 ≤ sizeLine; decide), fun pl npl => ?_⟩
      have hpl : pl ≠ pf := fun e => by
        rw [e, upd_same] at npl
        cases npl
      have n0 : H pl = none := s1.free (by rw [upd_ne hpl] at npl; exact npl)
      have D0 : DAt H (upd (upd H1 pf (.lst ((vO (List.replicate W.length none)).set start (.int 0)))) pl (.lst [.int (start : Int)])) pf pl (DQ W among start 0) := by
        refine ⟨(s1.upd npf).upd n0, npf, n0, hpl, ?_, upd_same⟩
        rw [upd_ne (Ne.symm hpl), upd_same]
        show _ = some (HO.lst (vO ((List.replicate W.length none).set start (some 0))))
        rw [vO_set]
        rfl
      -- while at < len(line)
      refine while_by (fun σ H' => ∃ (j : Nat) (z1 z2 z3 z4 : Option V), σ = [some (.ref a), some (.ref aa), some (.int start), some (.ref pf), some (.ref pl), some (.int (j : Int)), z1, z2, z3, z4] ∧ j ≤ W.length ∧ DAt H H' pf pl (DQ W among start j))
        (fun σ _ => W.length + 1 - slotI σ 5) ⟨0, none, none, none, none, rfl, Nat.zero_le _, D0⟩ ?_ ?_
      · rintro σ H2 ⟨j, z1, z2, z3, z4, rfl, hj, D⟩
        have I := DQ_inv ok (among := among) hs j
        refine ⟨_, rfl, _, rfl, pl, _, rfl, .inl (SqL.of D.line), _, _, rfl, rfl, _, rfl, ?_⟩
        rw [vN_len]
        by_cases c : j < (DQ W among start j).2.length
        · refine if_true_of (decide_eq_true (by omega)) ?_
          obtain ⟨here, hh⟩ : ∃ here, (DQ W among start j).2[j]? = some here := ⟨_, List.getElem?_eq_getElem c⟩
          have hm := List.mem_of_getElem? hh
          have hlt := I.lt here hm
          -- here = line[at]
          refine ⟨_, rfl, _, rfl, pl, _, (j : Int), _, rfl, rfl, SqL.of D.line, at_nat (vN_get hh), ?_⟩
          -- for place, entry in ways[here]
          obtain ⟨r, hr1, hr2⟩ := al.get (rowsGet (row_some hlt))
          obtain ⟨b, ys, rfl, sq2, al2⟩ := hr2.lst_of
          have hyl : ys.length = (rowAt W here).length := by rw [al2.len, List.length_map]
          refine ⟨_, rfl, _, rfl, a, xs, (here : Int), _, rfl, rfl, D.same.keep.sqL sq, at_nat hr1, b, rfl, ⟨_, D.same.keep.sqL sq2⟩, for_list (K := K) (a := b) (xs := ys) (fun i σ H' => ∃ z2 z3 : Option V, σ = [some (.ref a), some (.ref aa), some (.int start), some (.ref pf), some (.ref pl), some (.int (j : Int)), some (.int (here : Int)), z2, z3, z4] ∧
            DAt H H' pf pl (((rowAt W here).take i).foldl (dvisit among here) (DQ W among start j))) ⟨z2, z3, rfl, D⟩ (fun i σ H' _ ⟨_, _, _, D5⟩ => D5.same.keep.sqL sq2) ?_ ?_⟩
          · rintro i y σ H3 hi ⟨z2, z3, rfl, D3⟩
            obtain ⟨d, hd1, hd2⟩ := al2.getV hi
            rw [List.getElem?_map] at hd1
            obtain ⟨p, hp, rfl⟩ := Option.map_eq_some_iff.mp hd1
            have hp1 : p.1 < W.length := row_lt ok hlt p (List.mem_of_getElem? hp)
            obtain ⟨c1, zs, rfl, sq3, al3⟩ := hd2.tup_of
            have ezs : zs = [.int (p.1 : Int), .int (p.2 : Int)] := DpAll.ints [(p.1 : Int), (p.2 : Int)] al3
            subst ezs
            have I3 : DInv W.length (((rowAt W here).take i).foldl (dvisit among here) (DQ W among start j)) := dfold_inv _ I (fun q hq => row_lt ok hlt q (List.mem_of_mem_take hq)) hm
            have hh3 : here ∈ (((rowAt W here).take i).foldl (dvisit among here) (DQ W among start j)).2 := by
              have : ∀ (l : List (Nat × Nat)) (st : DSt), here ∈ st.2 → here ∈ (l.foldl (dvisit among here) st).2 := by
                intro l
                induction l with
                | nil => exact fun _ h => h
                | cons q l ih => exact fun st h => ih _ (dvisit_has h)
              exact this _ _ hm
            have more : ((rowAt W here).take (i + 1)).foldl (dvisit among here) (DQ W among start j) = dvisit among here (((rowAt W here).take i).foldl (dvisit among here) (DQ W among start j)) p := by
              rw [take_more hp, List.foldl_append]
              rfl
            generalize ((rowAt W here).take i).foldl (dvisit among here) (DQ W among start j) = st at D3 I3 hh3 more
            refine ⟨c1, _, rfl, D3.same.keep.sqT sq3, rfl, _, _, rfl, _, _, rfl, rfl, ?_⟩
            -- if far[place] is None and place in among
            refine ⟨_, rfl, _, rfl, pf, _, (p.1 : Int), _, rfl, rfl, SqL.of D3.far, at_nat (vO_get (by rw [I3.flen]; exact hp1)), rfl, _, rfl, ?_⟩
            cases e : st.1.getD p.1 none with
            | some k =>
              refine if_false_of (decide_eq_false (fun z => by cases z)) ?_
              refine ⟨_, _, rfl, ?_⟩
              rw [more]
              unfold dvisit
              rw [if_neg (fun z => by rw [e] at z; cases z.1)]
              exact D3
            | none =>
              refine if_true_of (decide_eq_true rfl) ⟨_, rfl, _, rfl, aa, _, rfl, .inl (D3.same.keep.sqL ha), rfl, all_flat_vN among, _, rfl, ?_⟩
              show if (if false = true then !inV (.int (p.1 : Int)) (vN among) else inV (.int (p.1 : Int)) (vN among)) = true then _ else _
              rw [if_neg Bool.false_ne_true, inV_nat]
              cases c2 : among.contains p.1 with
              | false =>
                refine if_false_of rfl ⟨_, _, rfl, ?_⟩
                rw [more]
                unfold dvisit
                rw [if_neg (fun z => by rw [List.contains_iff_mem.mpr z.2] at c2; cases c2)]
                exact D3
              | true =>
                refine if_true_of rfl ?_
                -- far[place] = far[here] + 1
                obtain ⟨k, hk⟩ := Option.isSome_iff_exists.mp ((I3.mem here hlt).mpr hh3)
                refine ⟨_, rfl, _, rfl, pf, _, (here : Int), _, rfl, rfl, SqL.of D3.far, at_nat (vO_get (by rw [I3.flen]; exact hlt)), (k : Int), 1, by rw [hk]; rfl, rfl, _, rfl, _, rfl, pf, _, (p.1 : Int), p.1, rfl, rfl, D3.far, ixN_nat (by rw [vO_len, I3.flen]; exact hp1), ?_⟩
                -- line.append(place)
                have hl2 : upd H3 pf (.lst ((vO st.1).set p.1 (.int ((k : Int) + 1)))) pl = some (.lst (vN st.2)) := by
                  rw [upd_ne D3.ne]
                  exact D3.line
                have hle : st.2.length ≤ W.length := by
                  have := nodup_le st.2 (List.range W.length) I3.nd fun x hx => List.mem_range.mpr (I3.lt x hx)
                  simpa using this
                refine ⟨_, rfl, .inl ⟨rfl, _, SqL.of hl2⟩, _, rfl, pl, _, _, rfl, rfl, hl2, ?_, ?_⟩
                · rw [vN_len]
                  exact Nat.lt_of_le_of_lt (Nat.le_trans hle hn) (by decide)
                · refine ⟨_, _, rfl, ?_⟩
                  rw [more]
                  unfold dvisit
                  rw [if_pos ⟨e, List.contains_iff_mem.mp c2⟩, hk]
                  refine ⟨(D3.same.upd D3.nf).upd D3.nl, D3.nf, D3.nl, D3.ne, ?_, ?_⟩
                  · rw [upd_ne (Ne.symm D3.ne), upd_same, vO_set]
                    rfl
                  · rw [upd_same, vN_snoc]
          · rintro σ H3 ⟨z2, z3, rfl, D3⟩
            rw [hyl, List.take_length, ← DQ_some hh] at D3
            refine ⟨_, rfl, _, _, rfl, rfl, ?_⟩
            refine ⟨⟨j + 1, _, _, _, _, rfl, ?_, D3⟩, ?_⟩
            · have := DQ_le ok (among := among) hs j
              omega
            · show W.length + 1 - ((j : Int) + 1).toNat < W.length + 1 - (j : Int).toNat
              omega
        · refine if_false_of (decide_eq_false (by omega)) ?_
          have e : DQ W among start W.length = DQ W among start j := DQ_stop (by omega) hj
          refine ⟨_, rfl, q H2 pf D.same npf ?_⟩
          rw [farW, e]
          exact D.far
      · rintro σ H2 Q1 Q2 hQ ⟨x1, h1, x2, h2, p1, ys, h3, h4, i, j, h5, h6, b, h7, h8⟩
        exact ⟨x1, h1, x2, h2, p1, ys, h3, h4, i, j, h5, h6, b, h7, hQ _ _ h8⟩
end
end Nw
end
section
set_option maxRecDepth 100000
set_option maxHeartbeats 2000000
namespace Nw
open PySem PySem.Spec PyProof.Rows L2 LamX NdefX
theorem rgV_nat (n : Nat) : rgV 0 (n : Int) = vN (List.range n) := by
  unfold rgV
  have e : ((n : Int) - 0).toNat = n := by omega
  rw [e]
  refine List.map_congr_left fun i _ => ?_
  rw [Int.zero_add]
theorem inV_non : ∀ (l : List (Option Nat)), inV .non (vO l) = l.any (·.isNone)
  | [] => rfl
  | o :: l => by
    have ih : ((vO l).any fun y => eqV y .non) = l.any (·.isNone) := inV_non l
    show (eqV (oV o) .non || (vO l).any fun y => eqV y .non) = _
    rw [ih, List.any_cons]
    cases o <;> rfl
theorem flat_vO (l : List (Option Nat)) : (vO l).all flatV = true := List.all_eq_true.mpr fun x hx => by
  obtain ⟨o, _, rfl⟩ := List.mem_map.mp hx
  cases o <;> rfl
section
variable {P : Program} {w : World} {K : PySem.W.Frag} {mg : Str → Option Value} {base : Heap} {f : Addr} {fd : FuncData}
/-- how far each place is from the start, by all places -/
abbrev allFar (W : Ways) (start : Nat) : List (Option Nat) := farW W (List.range W.length) start
def sp_distances_from (K : PySem.W.Frag) : Sp := fun vs H Q _ => ∃ (v : V) (W : Ways) (start : Nat), vs = [v, .int start] ∧ Dp K H v (dWays W) ∧ WOk W ∧ W.length ≤ 1000 ∧ start < W.length ∧
  ∀ H' p, Same H H' → H p = none → H' p = some (.lst (vO (allFar W start))) → Q (.ref p) H'
theorem sc_distances_from : FnScope ["ways", "start"] ["ways", "start"] (defScope s_distances_from) := ⟨rfl, rfl, rfl, by decide +kernel, rfl, by decide +kernel, by decide +kernel⟩
theorem ok_distances_from (T : Tx K mg) (F : FnP K d_distances_from f fd) (G_distances_among : Has P w K mg 1 "distances_among" ["ways", "among", "start"] (sp_distances_among K)) : FnOk P w K mg base CX0 2 f fd ["ways", "start"] (sp_distances_from K) := by
  refine F.ok sc_distances_from (fun vs H Q E h => ?_) (fun cdv A outer s H vs Q E hr h => ⟨_, PSs.nox
    (pss_one (ps_ret (pe_has G_distances_among hr (pa_cons (pv 0) (pa_cons (pe_listRg rfl (by rfl) T.f_list (prg_1 (by rfl) T.f_range (pe_callB call_len_seq (by rfl) T.f_len PySem.boot_len (pa_cons (pv 0) pa_nil)))) (pa_cons (pv 1) pa_nil)))))), ?_⟩)
  · obtain ⟨v, W, start, rfl, _⟩ := h
    rfl
  · obtain ⟨v, W, start, rfl, hW, ok, hn, hs, q⟩ := h
    obtain ⟨a, xs, rfl, sq, al⟩ := hW.lst_of
    have hxl : xs.length = W.length := by rw [al.len, List.length_map]
    refine ⟨_, rfl, _, rfl, a, xs, rfl, .inl sq, (xs.length : Int), rfl, RgOk.of_le (by omega) (by omega) (by omega) (by omega), fun r nr => ?_⟩
    refine ⟨_, rfl, .ref a, .ref r, W, List.range W.length, start, rfl, hW.same (Same.new nr), ok, hn, ⟨r, rfl, SqL.of ?_⟩, hs, fun H' p s1 np hp => ?_⟩
    · rw [upd_same, rgV_nat, hxl]
    · exact q H' p ((Same.new nr).trans s1) (Same.free (Same.new nr) np) hp

def sp_hangs_together (K : PySem.W.Frag) : Sp := fun vs H Q _ => ∃ (v : V) (W : Ways), vs = [v] ∧ Dp K H v (dWays W) ∧ WOk W ∧ W.length ≤ 1000 ∧ 0 < W.length ∧ ∀ H', Same H H' → Q (.bl (!(allFar W 0).any (·.isNone))) H'
theorem sc_hangs_together : FnScope ["ways"] ["ways"] (defScope s_hangs_together) := ⟨rfl, rfl, rfl, by decide +kernel, rfl, by decide +kernel, by decide +kernel⟩
theorem ok_hangs_together (F : FnP K d_hangs_together f fd) (G_distances_from : Has P w K mg 2 "distances_from" ["ways", "start"] (sp_distances_from K)) : FnOk P w K mg base CX0 3 f fd ["ways"] (sp_hangs_together K) := by
  refine F.ok sc_hangs_together (fun vs H Q E h => ?_) (fun cdv A outer s H vs Q E hr h => ⟨_, PSs.nox
    (pss_one (ps_ret (pe_cmpR op_notIn_seq pe_non (pe_has G_distances_from hr (pa_cons (pv 0) (pa_cons pe_int pa_nil))) (by rfl)))), ?_⟩)
  · obtain ⟨v, W, rfl, _⟩ := h
    rfl
  · obtain ⟨v, W, rfl, hW, ok, hn, hs, q⟩ := h
    refine ⟨_, rfl, v, W, 0, rfl, hW, ok, hn, hs, fun H' p s1 np hp => ?_⟩
    refine ⟨p, _, rfl, .inl (SqL.of hp), rfl, flat_vO _, ?_⟩
    show Q (.bl (if true = true then !inV .non (vO (allFar W 0)) else inV .non (vO (allFar W 0)))) H'
    rw [if_pos rfl, inV_non]
    exact q H' s1

/-- of each item the first place of a like one -/
def sp_least_like (K : PySem.W.Frag) : Sp := fun vs H Q _ => ∃ (v : V) (ds : List PyData) (ns : List Nat), vs = [v] ∧ Dp K H v (.list ds) ∧ SeqAt.shaped (.list ds) = true ∧ (∀ d ∈ ds, SeqAt.shaped d = true) ∧ ds.length ≤ 1000 ∧ ns.length = ds.length ∧
  (∀ (i j : Nat) (d : PyData), ds[i]? = some d → ns[i]? = some j → ∃ z, ds[j]? = some z ∧ PyData.eqv z d = true ∧ ∀ (m : Nat) (z' : PyData), m < j → ds[m]? = some z' → PyData.eqv z' d = false) ∧
  ∀ H' p, Same H H' → H p = none → H' p = some (.lst (vN ns)) → Q (.ref p) H'
theorem sc_least_like : FnScope ["marks", "mark"] ["marks"] (defScope s_least_like) := ⟨rfl, rfl, rfl, by decide +kernel, rfl, by decide +kernel, by decide +kernel⟩
theorem ok_least_like (F : FnP K d_least_like f fd) : FnOk P w K mg base CX0 1 f fd ["marks"] (sp_least_like K) := by
  refine F.ok sc_least_like (fun vs H Q E h => ?_) (fun cdv A outer s H vs Q E hr h => ⟨_, PSs.nox
    (pss_one (ps_ret (pe_lc (own := [("mark", 1)]) (by rfl) sc_least_like.nd (pi_list (pv 0)) (blkOk_by (own := [("mark", 1)]) (N := ["marks", "mark"]) (sc := defScope s_least_like) (by decide +kernel)) (fun _ _ _ _ _ => (pg_name (i := 1) sc_least_like.nd rfl (Or.inl rfl))) (fun _ _ _ _ _ => pts_nil) (fun _ _ _ _ _ => (pe_bmK K PySem.F.plainAttrs_list PySem.F.slot_list_index PySem.F.type_list_index (indexK K (u65 hr)) (pv 0) (pa_cons (pv 1) pa_nil)))))), ?_⟩)
  · obtain ⟨v, ds, ns, rfl, _⟩ := h
    rfl
  · obtain ⟨v, ds, ns, rfl, hv, sh, shd, hl, hns, hfirst, q⟩ := h
    obtain ⟨a, xs, rfl, sq, al⟩ := hv.lst_of
    have hxl : xs.length = ds.length := al.len
    refine ⟨_, rfl, a, rfl, ⟨_, sq⟩, fun D nD => lc_list (K := K) (a := a) (xs := xs) (fun i H' => Same H H' ∧ H' D = some (.lst (vN (ns.take i)))) ⟨Same.new nD, upd_same⟩ (fun i H' _ h => h.1.keep.sqL sq) ?_ ?_⟩
    · rintro i x H' hx ⟨s1, hD⟩
      obtain ⟨d, hd1, hd2⟩ := al.getV hx
      have hi := (List.getElem?_eq_some_iff.mp hx).1
      obtain ⟨j, hj⟩ : ∃ j, ns[i]? = some j := ⟨ns[i]'(by omega), List.getElem?_eq_getElem _⟩
      obtain ⟨z, hz, ez, hno⟩ := hfirst i j d hd1 hj
      refine ⟨rfl, yes_of (iteT ⟨_, rfl, .inl ⟨rfl, _, s1.keep.sqL sq⟩, _, rfl, a, x, d, ds, j, z, rfl, rfl, hv.same s1, hd2.same s1, sh, shd d (List.mem_of_getElem? hd1), hz, ez, hno, _, hD, ?_, s1.upd nD, ?_⟩)⟩
      · rw [vN_len, List.length_take]
        exact Nat.lt_of_le_of_lt (show min i ns.length ≤ 1000 by omega) (by decide)
      · rw [upd_same, take_more hj, vN_snoc]
    · rintro H' ⟨s1, hD⟩
      rw [hxl, ← hns, List.take_length] at hD
      exact q H' D s1 nD hD

def sp_mark_beyond (K : PySem.W.Frag) : Sp := fun vs H Q _ => ∃ (v cv : V) (row : List (Nat × Nat)) (c : List Nat), vs = [v, cv] ∧ Dp K H v (dRow row) ∧ LN K H cv c ∧ row.length ≤ 1000 ∧ (∀ q ∈ row, q.1 < c.length) ∧
  ∀ H' p, Same H H' → H p = none → RowAt H H' p (markW c row) → Q (.ref p) H'
theorem sc_mark_beyond : FnScope ["row", "classes", "place", "entry"] ["row", "classes"] (defScope s_mark_beyond) := ⟨rfl, rfl, rfl, by decide +kernel, rfl, by decide +kernel, by decide +kernel⟩
theorem ok_mark_beyond (F : FnP K d_mark_beyond f fd) : FnOk P w K mg base CX0 1 f fd ["row", "classes"] (sp_mark_beyond K) := by
  refine F.ok sc_mark_beyond (fun vs H Q E h => ?_) (fun cdv A outer s H vs Q E hr h => ⟨_, PSs.nox
    (pss_one (ps_ret (pe_lc (own := [("place", 2), ("entry", 3)]) (by rfl) sc_mark_beyond.nd (pi_list (pv 0)) (blkOk_by (own := [("place", 2), ("entry", 3)]) (N := ["row", "classes", "place", "entry"]) (sc := defScope s_mark_beyond) (by decide +kernel)) (fun _ _ _ _ _ => (gtupK K 2 rfl (pgs_cons (pg_name (i := 2) sc_mark_beyond.nd rfl (Or.inl rfl)) (pgs_cons (pg_name (i := 3) sc_mark_beyond.nd rfl (Or.inl rfl)) pgs_nil)))) (fun _ _ _ _ _ => pts_nil) (fun _ _ _ _ _ => (pe_tup (pa_cons (pv 3) (pa_cons (pe_ix (ixlK K) (pv 1) (pv 2) (fun _ _ => rfl)) pa_nil))))))), ?_⟩)
  · obtain ⟨v, cv, row, c, rfl, _⟩ := h
    rfl
  · obtain ⟨v, cv, row, c, rfl, hv, ⟨ca, rfl, hc⟩, hl, hlt, q⟩ := h
    obtain ⟨a, xs, rfl, sq, al⟩ := hv.lst_of
    have hxl : xs.length = row.length := by rw [al.len, List.length_map]
    refine ⟨_, rfl, a, rfl, ⟨_, sq⟩, fun D nD => lc_list (K := K) (a := a) (xs := xs) (fun i H' => Same H H' ∧ ∃ ts, H' D = some (.lst ts) ∧ Paired (PairAt H H') ts (markW c (row.take i))) ⟨Same.new nD, [], upd_same, .nil⟩ (fun i H' _ h => h.1.keep.sqL sq) ?_ ?_⟩
    · rintro i x H' hx ⟨s1, ts, hD, hP⟩
      obtain ⟨d, hd1, hd2⟩ := al.getV hx
      rw [List.getElem?_map] at hd1
      obtain ⟨p, hp, rfl⟩ := Option.map_eq_some_iff.mp hd1
      obtain ⟨b, ys, rfl, sq2, al2⟩ := hd2.tup_of
      have eys : ys = [.int (p.1 : Int), .int (p.2 : Int)] := DpAll.ints [(p.1 : Int), (p.2 : Int)] al2
      subst eys
      have hi := (List.getElem?_eq_some_iff.mp hx).1
      have hcl := hlt p (List.mem_of_getElem? hp)
      have hcp : c[p.1]? = some (c.getD p.1 0) := by
        rw [List.getD_eq_getElem?_getD, List.getElem?_eq_getElem hcl]
        rfl
      refine ⟨b, _, rfl, s1.keep.sqT sq2, rfl, _, _, rfl, _, _, rfl, rfl, rfl, yes_of (iteT ⟨_, rfl, _, rfl, _, rfl, ca, _, (p.1 : Int), _, rfl, rfl, s1.keep.sqL hc, at_nat (vN_get hcp), (by show 2 ≤ sizeLine; decide), fun t nt => ⟨ts, ?_, ?_, ?_⟩⟩)⟩
      · rw [upd_ne (ne_of_none hD nt)]
        exact hD
      · have := paired_len hP
        rw [this, markW, List.length_map, List.length_take]
        exact Nat.lt_of_le_of_lt (show min i row.length ≤ 1000 by omega) (by decide)
      · have n0 := s1.free nt
        refine ⟨(s1.upd n0).upd nD, _, upd_same, ?_⟩
        have htD : t ≠ D := fun e => by rw [e, hD] at nt; cases nt
        rw [take_more hp, markW, List.map_append]
        refine paired_snoc (Paired.mapP hP fun x y h => ?_) ⟨t, rfl, n0, ?_⟩
        · obtain ⟨a5, e5, n5, h5⟩ := h
          refine ⟨a5, e5, n5, ?_⟩
          rw [upd_ne (ne_of h5 hD fun z => by cases z), upd_ne (ne_of_none h5 nt)]
          exact h5
        · rw [upd_ne htD, upd_same]
    · rintro H' ⟨s1, ts, hD, hP⟩
      rw [hxl, List.take_length] at hP
      exact q H' D s1 nD ⟨nD, ts, hD, hP⟩
end
end Nw
end
section
set_option maxRecDepth 100000
set_option maxHeartbeats 2000000
namespace Nw
open PySem PySem.Spec PyProof.Rows L2 LamX NdefX
theorem eqv_nat (a b : Nat) : PyData.eqv (dN a) (dN b) = decide (a = b) := by
  have e : PyData.eqv (dN a) (dN b) = ((a : Int) == (b : Int)) := by simp only [dN, PyData.eqv]
  rw [e]
  by_cases h : a = b
  · subst h
    simp
  · rw [decide_eq_false h]
    exact beq_eq_false_iff_ne.mpr (by omega)
theorem eqvAll_map {α : Type} [DecidableEq α] {enc : α → PyData} (he : ∀ a b, PyData.eqv (enc a) (enc b) = decide (a = b)) : ∀ (l m : List α), PyData.eqvAll (l.map enc) (m.map enc) = decide (l = m)
  | [], [] => by rw [List.map_nil, PyData.eqvAll]; rfl
  | [], b :: m => by rw [List.map_nil, List.map_cons, PyData.eqvAll]; rfl
  | a :: l, [] => by rw [List.map_nil, List.map_cons, PyData.eqvAll]; rfl
  | a :: l, b :: m => by
    rw [List.map_cons, List.map_cons, PyData.eqvAll, he, eqvAll_map he l m]
    by_cases h1 : a = b
    · subst h1
      by_cases h2 : l = m
      · subst h2
        simp
      · simp [h2]
    · simp [h1]
theorem eqv_row (a b : List (Nat × Nat)) : PyData.eqv (dRow a) (dRow b) = decide (a = b) := by
  have e : PyData.eqv (dRow a) (dRow b) = PyData.eqvAll (a.map dPair) (b.map dPair) := by simp only [dRow, PyData.eqv]
  rw [e]
  exact eqvAll_map eqv_pair a b
theorem eqv_nats (a b : List Nat) : PyData.eqv (dNats a) (dNats b) = decide (a = b) := by
  have e : PyData.eqv (dNats a) (dNats b) = PyData.eqvAll (a.map dN) (b.map dN) := by simp only [dNats, PyData.eqv]
  rw [e]
  exact eqvAll_map eqv_nat a b
/-- the first places, in data -/
theorem first_data {α : Type} [DecidableEq α] {enc : α → PyData} (he : ∀ a b, PyData.eqv (enc a) (enc b) = decide (a = b)) (l : List α) (i j : Nat) (d : PyData) (hd : (l.map enc)[i]? = some d) (hj : (leastL l)[i]? = some j) :
    ∃ z, (l.map enc)[j]? = some z ∧ PyData.eqv z d = true ∧ ∀ (m : Nat) (z' : PyData), m < j → (l.map enc)[m]? = some z' → PyData.eqv z' d = false := by
  rw [List.getElem?_map] at hd
  obtain ⟨x, hx, rfl⟩ := Option.map_eq_some_iff.mp hd
  rw [leastL_get hx] at hj
  obtain ⟨p, e1, _, h1, h2⟩ := first_is hx
  rw [e1] at hj
  cases hj
  refine ⟨enc x, by rw [List.getElem?_map, h1]; rfl, by rw [he]; simp, fun m z' hm hz => ?_⟩
  rw [List.getElem?_map] at hz
  obtain ⟨y, hy, rfl⟩ := Option.map_eq_some_iff.mp hz
  rw [he]
  exact decide_eq_false (h2 m y hm hy)
theorem lay_row (r : List (Nat × Nat)) : (dRow r).canLay0 = true ∧ (dRow r).depth ≤ 2 := lay_list fun x hx => by
  obtain ⟨p, _, rfl⟩ := List.mem_map.mp hx
  exact lay_pair p
theorem lay_ways (W : Ways) : (dWays W).canLay0 = true ∧ (dWays W).depth ≤ 3 := lay_list fun x hx => by
  obtain ⟨p, _, rfl⟩ := List.mem_map.mp hx
  exact lay_row p
theorem lay_nats (l : List Nat) : (dNats l).canLay0 = true ∧ (dNats l).depth ≤ 1 := lay_list (n := 0) fun x hx => by
  obtain ⟨n, _, rfl⟩ := List.mem_map.mp hx
  exact lay_int _
theorem dp_nats {K : PySem.W.Frag} {H : Hp} {a : Addr} {l : List Nat} (h : SqL K H a (vN l)) : Dp K H (.ref a) (dNats l) := by
  refine .lst h ?_
  rw [vN_ints, show l.map dN = (l.map fun n : Nat => (n : Int)).map PyData.int by rw [List.map_map]; rfl]
  exact DpAll.ofInts _
theorem ln_of {K : PySem.W.Frag} {H : Hp} {v : V} {l : List Nat} (h : Dp K H v (dNats l)) : LN K H v l := by
  obtain ⟨a, xs, rfl, sq, al⟩ := h.lst_of
  have e : l.map dN = (l.map fun n : Nat => (n : Int)).map PyData.int := by rw [List.map_map]; rfl
  rw [e] at al
  have := DpAll.ints _ al
  rw [← vN_ints] at this
  subst this
  exact ⟨a, rfl, sq⟩
/-- a row more -/
theorem Rows.more {H0 H H1 : Hp} {D p : Addr} {rs : List Addr} {M : Ways} {row : List (Nat × Nat)} (s0 : Same H0 H) (R : Rows H0 H D rs M) (s1 : Same H H1) (np : H p = none) (ra : RowAt H H1 p row) :
    Rows H0 (upd H1 D (.lst (rs.map V.ref ++ [.ref p]))) D (rs ++ [p]) (M ++ [row]) := by
  have hpD : p ≠ D := fun e => by rw [e, R.here] at np; cases np
  have hpr : p ∉ rs := fun hm => by
    obtain ⟨j, hj⟩ := List.mem_iff_getElem?.mp hm
    obtain ⟨_, ts, h1, _⟩ := R.row j p hj
    rw [h1] at np
    cases np
  have tupD : ∀ a xs, H1 a = some (.tup xs) → upd H1 D (.lst (rs.map V.ref ++ [.ref p])) a = some (.tup xs) := fun a xs e => by
    rw [upd_ne (ne_of e (s1 _ _ R.here) fun z => by cases z)]
    exact e
  refine ⟨by simp [R.len], ?_, ?_, R.np, ?_, fun i r hi => ?_⟩
  · rw [List.nodup_append]
    exact ⟨R.nd, by simp, fun x hx y hy e => hpr (by simp at hy; rw [← hy, ← e]; exact hx)⟩
  · rw [upd_same, List.map_append]
    rfl
  · intro hm
    rcases List.mem_append.mp hm with hm | hm
    · exact R.pr hm
    · simp at hm
      exact hpD hm.symm
  · by_cases hl : i < rs.length
    · rw [List.getElem?_append_left hl] at hi
      obtain ⟨nr, ts, h1, h2⟩ := R.row i r hi
      have er : rowAt (M ++ [row]) i = rowAt M i := by
        unfold rowAt
        rw [List.getD_eq_getElem?_getD, List.getD_eq_getElem?_getD, List.getElem?_append_left (by rw [← R.len]; exact hl)]
      rw [er]
      refine ⟨nr, ts, ?_, Paired.mapP h2 fun x y h => ?_⟩
      · rw [upd_ne (fun (e : r = D) => R.pr (by rw [← e]; exact List.mem_of_getElem? hi))]
        exact s1 _ _ h1
      · obtain ⟨a, e, n, ha⟩ := h
        exact ⟨a, e, n, tupD a _ (s1 _ _ ha)⟩
    · rw [List.getElem?_append_right (by omega)] at hi
      have e0 : i - rs.length = 0 := by
        have := (List.getElem?_eq_some_iff.mp hi).1
        simp at this
        omega
      rw [e0] at hi
      cases hi
      have er : rowAt (M ++ [row]) i = row := by
        unfold rowAt
        rw [List.getD_eq_getElem?_getD, List.getElem?_append_right (by rw [← R.len]; omega), ← R.len, e0]
        rfl
      rw [er]
      obtain ⟨_, ts, h1, h2⟩ := ra
      refine ⟨s0.free np, ts, ?_, Paired.mapP h2 fun x y h => ?_⟩
      · rw [upd_ne hpD]
        exact h1
      · obtain ⟨a, e, n, ha⟩ := h
        exact ⟨a, e, s0.free n, tupD a _ ha⟩
/-- the lists of classes so far -/
structure BS (W : Ways) (H0 H : Hp) (p : Addr) (bs : List Addr) : Prop where
  here : H p = some (.lst (bs.map V.ref))
  np : H0 p = none
  row : ∀ (i : Nat) (b : Addr), bs[i]? = some b → b ≠ p ∧ H b = some (.lst (vN (cls W i)))
theorem BS.up {W : Ways} {H0 H H1 : Hp} {p : Addr} {bs : List Addr} (B : BS W H0 H p bs) (s : Same H H1) : BS W H0 H1 p bs := ⟨s _ _ B.here, B.np, fun i b hi => ⟨(B.row i b hi).1, s _ _ (B.row i b hi).2⟩⟩
theorem BS.more {W : Ways} {H0 H : Hp} {p b : Addr} {bs : List Addr} (B : BS W H0 H p bs) (hb : H b = some (.lst (vN (cls W bs.length)))) (ne : b ≠ p) : BS W H0 (upd H p (.lst (bs.map V.ref ++ [.ref b]))) p (bs ++ [b]) := by
  refine ⟨by rw [upd_same, List.map_append]; rfl, B.np, fun i c hi => ?_⟩
  by_cases hl : i < bs.length
  · rw [List.getElem?_append_left hl] at hi
    obtain ⟨h1, h2⟩ := B.row i c hi
    exact ⟨h1, by rw [upd_ne h1]; exact h2⟩
  · rw [List.getElem?_append_right (by omega)] at hi
    have e0 : i - bs.length = 0 := by
      have := (List.getElem?_eq_some_iff.mp hi).1
      simp at this
      omega
    rw [e0] at hi
    cases hi
    have : i = bs.length := by omega
    subst this
    exact ⟨ne, by rw [upd_ne ne]; exact hb⟩
theorem BS.dp {K : PySem.W.Frag} {W : Ways} {H0 H : Hp} {p : Addr} {bs : List Addr} (B : BS W H0 H p bs) : Dp K H (.ref p) (.list ((List.range bs.length).map fun i => dNats (cls W i))) := by
  refine .lst (SqL.of B.here) ?_
  have key : ∀ (m : List Addr) (o : Nat), (∀ (i : Nat) (b : Addr), m[i]? = some b → H b = some (.lst (vN (cls W (o + i))))) → DpAll K H (m.map V.ref) ((List.range m.length).map fun i => dNats (cls W (o + i))) := by
    intro m
    induction m with
    | nil => exact fun _ _ => .nil
    | cons b m ih =>
      intro o h
      rw [List.map_cons, List.length_cons, List.range_succ_eq_map, List.map_cons, List.map_map]
      refine .cons (dp_nats (SqL.of (h 0 b rfl))) ?_
      have := ih (o + 1) fun i c hi => by
        have := h (i + 1) c hi
        rw [show o + 1 + i = o + (i + 1) by omega]
        exact this
      have e : ((fun i => dNats (cls W (o + i))) ∘ Nat.succ) = fun i => dNats (cls W (o + 1 + i)) := by
        funext i
        show dNats (cls W (o + (i + 1))) = _
        rw [show o + 1 + i = o + (i + 1) by omega]
      rw [e]
      exact this
  have := key bs 0 fun i b hi => by
    rw [Nat.zero_add]
    exact (B.row i b hi).2
  have e : (fun i => dNats (cls W (0 + i))) = fun i => dNats (cls W i) := by
    funext i
    rw [Nat.zero_add]
  rw [e] at this
  exact this
/-- how many items the list at p has -/
def lenAt (H : Hp) (p : Addr) : Nat := match H p with
  | some (.lst xs) => xs.length
  | _ => 0
theorem lenAt_of {H : Hp} {p : Addr} {xs : List V} (h : H p = some (.lst xs)) : lenAt H p = xs.length := by
  unfold lenAt
  rw [h]
section
variable {P : Program} {w : World} {K : PySem.W.Frag} {mg : Str → Option Value} {base : Heap} {f : Addr} {fd : FuncData}
def sp_classes_by_steps (K : PySem.W.Frag) : Sp := fun vs H Q _ => ∃ (v : V) (W : Ways), vs = [v] ∧ Dp K H v (dWays W) ∧ WOk W ∧ W.length ≤ 7 ∧ (∀ r ∈ W, r.length ≤ 100) ∧
  ∀ H' p bs k, Same H H' → (∀ i, i < k → cls W (i + 1) ≠ cls W i) → cls W (k + 1) = cls W k → bs.length = k + 1 → BS W H H' p bs → Q (.ref p) H'
theorem sc_classes_by_steps : FnScope ["ways", "by_steps", "finer", "row"] ["ways"] (defScope s_classes_by_steps) := ⟨rfl, rfl, rfl, by decide +kernel, rfl, by decide +kernel, by decide +kernel⟩
theorem ok_classes_by_steps (T : Tx K mg) (F : FnP K d_classes_by_steps f fd) (G_least_like : Has P w K mg 1 "least_like" ["marks"] (sp_least_like K)) (G_mark_beyond : Has P w K mg 1 "mark_beyond" ["row", "classes"] (sp_mark_beyond K)) : FnOk P w K mg base CX0 2 f fd ["ways"] (sp_classes_by_steps K) := by
  refine F.ok sc_classes_by_steps (fun vs H Q E h => ?_) (fun cdv A outer s H vs Q E hr h => ⟨_, PSs.nox
    (pss_cons (ps_set (i := 1) sc_classes_by_steps.nd rfl (Or.inr rfl) (pe_lst (pa_cons (pe_has G_least_like hr (pa_cons (pe_lc (own := [("row", 3)]) (by rfl) sc_classes_by_steps.nd (pi_list (pv 0)) (blkOk_by (own := [("row", 3)]) (N := ["ways", "by_steps", "finer", "row"]) (sc := defScope s_classes_by_steps) (by decide +kernel)) (fun _ _ _ _ _ => (pg_name (i := 3) sc_classes_by_steps.nd rfl (Or.inl rfl))) (fun _ _ _ _ _ => pts_nil) (fun _ _ _ _ _ => (pe_callB (lenK K) (by rfl) T.f_len PySem.boot_len (pa_cons (pv 3) pa_nil)))) pa_nil)) pa_nil)))
      (pss_one (ps_while PassesOwn.never (pt_val pe_bl) (pss_cons (ps_set (i := 2) sc_classes_by_steps.nd rfl (Or.inl rfl) (pe_has G_least_like hr (pa_cons (pe_lc (own := [("row", 3)]) (by rfl) sc_classes_by_steps.nd (pi_list (pv 0)) (blkOk_by (own := [("row", 3)]) (N := ["ways", "by_steps", "finer", "row"]) (sc := defScope s_classes_by_steps) (by decide +kernel)) (fun _ _ _ _ _ => (pg_name (i := 3) sc_classes_by_steps.nd rfl (Or.inl rfl))) (fun _ _ _ _ _ => pts_nil) (fun _ _ _ _ _ => (pe_has G_mark_beyond hr (pa_cons (pv 3) (pa_cons (pe_ix (ixlK K) (pv 1) (pe_un un_neg pe_int) (fun _ _ => rfl)) pa_nil))))) pa_nil)))
      (pss_cons (ps_if (pt_cmpR (op_eqD hr.units) (pv 2) (pe_ix ix_list (pv 1) (pe_un un_neg pe_int) (fun _ _ => rfl)) (nomark _)) (pss_one (ps_ret (pv 1))) pss_nil)
      (pss_one (ps_expr (pe_bm PySem.F.plainAttrs_list PySem.F.slot_list_append PySem.F.type_list_append mt_append (pv 1) (pa_cons (pv 2) pa_nil))))))))), ?_⟩)
  · obtain ⟨v, W, rfl, _⟩ := h
    rfl
  · obtain ⟨v, W, rfl, hW, ok, hn, hrow, q⟩ := h
    obtain ⟨a, xs, rfl, sq, al⟩ := hW.lst_of
    have hxl : xs.length = W.length := by rw [al.len, List.length_map]
    refine ⟨_, rfl, a, rfl, ⟨_, sq⟩, fun D nD => lc_list (K := K) (a := a) (xs := xs) (fun i H' => Same H H' ∧ H' D = some (.lst (vN ((W.take i).map List.length)))) ⟨Same.new nD, upd_same⟩ (fun i H' _ h => h.1.keep.sqL sq) ?_ ?_⟩
    · rintro i x H' hx ⟨s1, hD⟩
      obtain ⟨d, hd1, hd2⟩ := al.getV hx
      rw [List.getElem?_map] at hd1
      obtain ⟨row, hrw, rfl⟩ := Option.map_eq_some_iff.mp hd1
      obtain ⟨b, ys, rfl, sq2, al2⟩ := hd2.lst_of
      refine ⟨rfl, yes_of (iteT ⟨_, rfl, b, ys, rfl, .inl (s1.keep.sqL sq2), _, hD, ?_, s1.upd nD, ?_⟩)⟩
      · rw [List.length_map, List.length_map, List.length_take]
        exact Nat.lt_of_le_of_lt (Nat.le_trans (Nat.min_le_right _ _) hn) (by decide)
      · rw [upd_same, take_more hrw, List.map_append, vN, vN, List.map_append, al2.len, List.length_map]
        rfl
    · rintro H1 ⟨s1, hD⟩
      rw [hxl, List.take_length] at hD
      have hdl : ((W.map List.length).map dN).length = W.length := by simp
      refine ⟨.ref D, (W.map List.length).map dN, cls W 0, rfl, dp_nats (SqL.of hD), shaped_of (lay_nats _), fun d hd => ?_, by rw [hdl]; omega, by rw [hdl, cls_len], fun i j d h1 h2 => first_data eqv_nat _ i j d h1 (by rw [← cls_zero]; exact h2), fun H2 b0 s2 nb0 hb0 => ?_⟩
      · obtain ⟨n, _, rfl⟩ := List.mem_map.mp hd
        exact shaped_of (lay_int _)
      refine ⟨(by show 1 ≤ sizeLine; decide), fun p np => ?_⟩
      have s3 : Same H H2 := s1.trans s2
      have hb0p : b0 ≠ p := fun e => by rw [e] at hb0; rw [hb0] at np; cases np
      have n0p : H p = none := s3.free np
      have B0 : BS W H (upd H2 p (.lst [.ref b0])) p [b0] := by
        refine ⟨upd_same, n0p, fun i b hi => ?_⟩
        cases i with
        | zero =>
          cases hi
          exact ⟨hb0p, by rw [upd_ne hb0p]; exact hb0⟩
        | succ i => simp at hi
      refine while_by (fun σ H' => ∃ (k : Nat) (bs : List Addr) (z1 z2 : Option V), σ = [some (.ref a), some (.ref p), z1, z2] ∧ bs.length = k + 1 ∧ Same H H' ∧ BS W H H' p bs ∧ ∀ i, i < k → cls W (i + 1) ≠ cls W i)
        (fun _ H' => 60 - lenAt H' p) ⟨0, [b0], none, none, rfl, rfl, s3.upd n0p, B0, fun i hi => absurd hi (Nat.not_lt_zero _)⟩ ?_ ?_
      · rintro σ H3 ⟨k, bs, z1, z2, rfl, hbl, s4, B, hne⟩
        have hk : k ≤ 49 := by
          have h1 := cls_turns ok hne
          have h2 : W.length * W.length ≤ 7 * 7 := Nat.mul_le_mul hn hn
          omega
        obtain ⟨bl, hbl2⟩ : ∃ b, bs[k]? = some b := ⟨bs[k]'(by omega), List.getElem?_eq_getElem _⟩
        obtain ⟨hblp, hbl3⟩ := B.row k bl hbl2
        refine ⟨true, rfl, iteT ?_⟩
        -- finer
        have hlast : bs.map V.ref = (bs.take k).map V.ref ++ [V.ref bl] := by
          have : bs = bs.take k ++ [bl] := by
            rw [← take_more hbl2, List.take_of_length_le (by omega)]
          rw [congrArg (List.map V.ref) this, List.map_append]
          rfl
        have hat : atI (bs.map V.ref) (-1) = some (.ref bl) := by
          rw [hlast]
          exact atI_last _ _
        refine ⟨_, rfl, a, rfl, ⟨_, s4.keep.sqL sq⟩, fun D2 nD2 => lc_list (K := K) (a := a) (xs := xs) (fun i H' => Same H3 H' ∧ ∃ rs, Rows H3 H' D2 rs ((W.take i).map (markW (cls W k)))) ⟨Same.new nD2, [], rfl, List.nodup_nil, upd_same, nD2, by simp, fun i r hi => by simp at hi⟩ (fun i H' _ h => (s4.trans h.1).keep.sqL sq) ?_ ?_⟩
        · rintro i x H' hx ⟨s5, rs, R⟩
          obtain ⟨d, hd1, hd2⟩ := al.getV hx
          rw [List.getElem?_map] at hd1
          obtain ⟨row, hrw, rfl⟩ := Option.map_eq_some_iff.mp hd1
          have s6 : Same H H' := s4.trans s5
          refine ⟨rfl, yes_of (iteT ⟨_, rfl, _, rfl, (1 : Int), rfl, p, _, _, _, rfl, rfl, SqL.of (s5 _ _ B.here), hat, x, .ref bl, row, cls W k, rfl, hd2.same s6, ⟨bl, rfl, SqL.of (s5 _ _ hbl3)⟩, ?_, ?_, fun H4 pr s7 npr ra => ⟨_, s7 _ _ R.here, ?_, ?_, ?_⟩⟩)⟩
          · exact Nat.le_trans (hrow row (List.mem_of_getElem? hrw)) (by decide)
          · intro p5 hp5
            rw [cls_len]
            exact ok i row p5 hrw hp5
          · rw [List.length_map, R.len, List.length_map, List.length_take]
            exact Nat.lt_of_le_of_lt (Nat.le_trans (Nat.min_le_right _ _) hn) (by decide)
          · exact (s5.trans s7).upd R.np
          · refine ⟨rs ++ [pr], ?_⟩
            rw [take_more hrw, List.map_append]
            exact R.more s5 s7 npr ra
        · rintro H4 ⟨s5, rs, R⟩
          rw [hxl, List.take_length] at R
          have dM : Dp K H4 (.ref D2) (dWays (W.map (markW (cls W k)))) := (R.dp (K := K)).same news_keep
          have hml : ((W.map (markW (cls W k))).map dRow).length = W.length := by simp
          refine ⟨.ref D2, (W.map (markW (cls W k))).map dRow, cls W (k + 1), rfl, dM, shaped_of (lay_ways _), fun d hd => ?_, by rw [hml]; omega, by rw [hml, cls_len], fun i j d h1 h2 => first_data eqv_row _ i j d h1 h2, fun H5 bf s6 nbf hbf => ?_⟩
          · obtain ⟨n, _, rfl⟩ := List.mem_map.mp hd
            exact shaped_of (lay_row _)
          have s7 : Same H3 H5 := s5.trans s6
          have B5 := B.up s7
          have hbl5 : H5 bl = some (.lst (vN (cls W k))) := s7 _ _ hbl3
          -- if finer == by_steps[-1]
          refine ⟨_, rfl, _, rfl, (1 : Int), rfl, p, _, _, _, rfl, rfl, SqL.of B5.here, hat, _, _, dp_nats (SqL.of hbf), dp_nats (SqL.of hbl5), shaped_of (lay_nats _), shaped_of (lay_nats _), _, rfl, ?_⟩
          rw [eqv_nats]
          have s8 : Same H H5 := s4.trans s7
          by_cases c : cls W (k + 1) = cls W k
          · exact if_true_of (decide_eq_true c) ⟨_, rfl, q H5 p bs k s8 hne c hbl B5⟩
          · refine if_false_of (decide_eq_false c) ?_
            have hbfp : bf ≠ p := fun e => by rw [e, s5 _ _ B.here] at nbf; cases nbf
            refine ⟨_, rfl, .inl ⟨rfl, _, SqL.of B5.here⟩, _, rfl, p, _, _, rfl, rfl, B5.here, ?_, ?_⟩
            · rw [List.length_map, hbl]
              exact Nat.lt_of_lt_of_le (show k + 1 < 60 by omega) (by decide)
            · refine ⟨⟨k + 1, bs ++ [bf], _, _, rfl, by simp [hbl], s8.upd n0p, B5.more (by rw [hbl]; exact hbf) hbfp, fun i hi => ?_⟩, ?_⟩
              · rcases Nat.lt_or_ge i k with h5 | h5
                · exact hne i h5
                · have : i = k := by omega
                  subst this
                  exact c
              · have e5 : lenAt (upd H5 p (HO.lst (bs.map V.ref ++ [V.ref bf]))) p = (bs.map V.ref ++ [V.ref bf]).length := lenAt_of upd_same
                rw [lenAt_of B.here, e5]
                simp only [List.length_append, List.length_map, List.length_cons, List.length_nil]
                omega
      · rintro σ H3 Q1 Q2 hQ ⟨b, h1, h2⟩
        exact ⟨b, h1, hQ _ _ h2⟩

def sp_classes_of (K : PySem.W.Frag) : Sp := fun vs H Q _ => ∃ (v : V) (W : Ways), vs = [v] ∧ Dp K H v (dWays W) ∧ WOk W ∧ W.length ≤ 7 ∧ (∀ r ∈ W, r.length ≤ 100) ∧
  ∀ H' z k, Same H H' → (∀ i, i < k → cls W (i + 1) ≠ cls W i) → cls W (k + 1) = cls W k → H' z = some (.lst (vN (cls W k))) → Q (.ref z) H'
theorem sc_classes_of : FnScope ["ways"] ["ways"] (defScope s_classes_of) := ⟨rfl, rfl, rfl, by decide +kernel, rfl, by decide +kernel, by decide +kernel⟩
theorem ok_classes_of (F : FnP K d_classes_of f fd) (G_classes_by_steps : Has P w K mg 2 "classes_by_steps" ["ways"] (sp_classes_by_steps K)) : FnOk P w K mg base CX0 3 f fd ["ways"] (sp_classes_of K) := by
  refine F.ok sc_classes_of (fun vs H Q E h => ?_) (fun cdv A outer s H vs Q E hr h => ⟨_, PSs.nox
    (pss_one (ps_ret (pe_ix ix_list (pe_has G_classes_by_steps hr (pa_cons (pv 0) pa_nil)) (pe_un un_neg pe_int) (fun _ _ => rfl)))), ?_⟩)
  · obtain ⟨v, W, rfl, _⟩ := h
    rfl
  · obtain ⟨v, W, rfl, hW, ok, hn, hrow, q⟩ := h
    refine ⟨_, rfl, v, W, rfl, hW, ok, hn, hrow, fun H' p bs k s1 hne hst hbl B => ?_⟩
    obtain ⟨bl, hb⟩ : ∃ b, bs[k]? = some b := ⟨bs[k]'(by omega), List.getElem?_eq_getElem _⟩
    have hat : atI (bs.map V.ref) (-1) = some (.ref bl) := by
      have e : bs = bs.take k ++ [bl] := by
        rw [← take_more hb, List.take_of_length_le (by omega)]
      rw [e, List.map_append]
      exact atI_last _ _
    exact ⟨(1 : Int), rfl, p, _, _, _, rfl, rfl, SqL.of B.here, hat, q H' bl k s1 hne hst (B.row k bl hb).2⟩

/-- in how few steps they're told apart -/
def apartK (W : Ways) (k u v : Nat) : Option Nat := (List.range (k + 1)).find? fun i => decide ((cls W i).getD u 0 ≠ (cls W i).getD v 0)
def sp_steps_apart (K : PySem.W.Frag) : Sp := fun vs H Q _ => ∃ (v : V) (W : Ways) (a b : Nat), vs = [v, .int a, .int b] ∧ Dp K H v (dWays W) ∧ WOk W ∧ W.length ≤ 7 ∧ (∀ r ∈ W, r.length ≤ 100) ∧ a < W.length ∧ b < W.length ∧
  ∀ H' k, Same H H' → (∀ i, i < k → cls W (i + 1) ≠ cls W i) → cls W (k + 1) = cls W k → Q (oV (apartK W k a b)) H'
theorem sc_steps_apart : FnScope ["ways", "u", "v", "steps", "classes"] ["ways", "u", "v"] (defScope s_steps_apart) := ⟨rfl, rfl, rfl, by decide +kernel, rfl, by decide +kernel, by decide +kernel⟩
theorem ok_steps_apart (T : Tx K mg) (F : FnP K d_steps_apart f fd) (G_classes_by_steps : Has P w K mg 2 "classes_by_steps" ["ways"] (sp_classes_by_steps K)) : FnOk P w K mg base CX0 3 f fd ["ways", "u", "v"] (sp_steps_apart K) := by
  refine F.ok sc_steps_apart (fun vs H Q E h => ?_) (fun cdv A outer s H vs Q E hr h => ⟨_, PSs.nox
    (pss_cons (ps_for PassesOwn.never rfl (pi_enum (by rfl) T.f_enumerate (pa_cons (pe_has G_classes_by_steps hr (pa_cons (pv 0) pa_nil)) pa_nil)) (pg_tup rfl (pgs_cons (pg_name (i := 3) sc_steps_apart.nd rfl (Or.inl rfl)) (pgs_cons (pg_name (i := 4) sc_steps_apart.nd rfl (Or.inl rfl)) pgs_nil))) (pss_one (ps_if (pt_cmpR op_ne (pe_ix ix_list (pv 4) (pv 1) (fun _ _ => rfl)) (pe_ix ix_list (pv 4) (pv 2) (fun _ _ => rfl)) (nomark _)) (pss_one (ps_ret (pv 3))) pss_nil)))
      (pss_one (ps_ret pe_non))), ?_⟩)
  · obtain ⟨v, W, a, b, rfl, _⟩ := h
    rfl
  · obtain ⟨v, W, a, b, rfl, hW, ok, hn, hrow, ha, hb, q⟩ := h
    refine ⟨_, rfl, v, W, rfl, hW, ok, hn, hrow, fun H' p bs k s1 hne hst hbl B => ?_⟩
    have hz : Dp K H' (.ref p) (.list ((List.range (k + 1)).map fun i => dNats (cls W i))) := by
      rw [← hbl]
      exact B.dp
    obtain ⟨c, xs, ec, sq, al⟩ := hz.lst_of
    cases ec
    have hl : xs.length = k + 1 := by
      rw [al.len]
      simp
    have get : ∀ i, i < k + 1 → ((List.range (k + 1)).map fun i => dNats (cls W i))[i]? = some (dNats (cls W i)) := fun i hi => by
      rw [List.getElem?_map, List.getElem?_range hi]
      rfl
    refine ⟨p, xs, rfl, sq, for_it (walk_enum (xs := xs)) (fun i σ H2 => ∃ z1 z2 : Option V, σ = [some v, some (.int (a : Int)), some (.int (b : Int)), z1, z2] ∧ Same H' H2 ∧ ∀ j, j < i → (cls W j).getD a 0 = (cls W j).getD b 0) ⟨none, none, rfl, Same.refl _, fun j hj => absurd hj (Nat.not_lt_zero _)⟩ (fun i σ H2 _ ⟨_, _, _, s2, _⟩ => s2.keep.sqL sq) ?_ ?_⟩
    · rintro i x σ H2 H3 hi ⟨z1, z2, rfl, s2, hall⟩ hy
      obtain ⟨t, y0, y, rfl, nt, rfl, hy0, hy⟩ := hy
      have hy0 : some (V.int (i : Nat)) = some y0 := hy0
      cases hy0
      have hy : xs[i]? = some y := hy
      have s3 : Same H' (upd H2 t (.tup [.int (i : Nat), y])) := s2.upd (s2.free nt)
      rw [hl] at hi
      obtain ⟨y', hy1, hy2⟩ := al.get (get i hi)
      rw [hy] at hy1
      cases hy1
      obtain ⟨ya, rfl, sqy⟩ := ln_of hy2
      have sq3 : SqL K (upd H2 t (.tup [.int (i : Nat), .ref ya])) ya (vN (cls W i)) := s3.keep.sqL sqy
      have gA : (cls W i)[a]? = some ((cls W i).getD a 0) := by
        rw [List.getD_eq_getElem?_getD, List.getElem?_eq_getElem (by rw [cls_len]; exact ha)]
        rfl
      have gB : (cls W i)[b]? = some ((cls W i).getD b 0) := by
        rw [List.getD_eq_getElem?_getD, List.getElem?_eq_getElem (by rw [cls_len]; exact hb)]
        rfl
      refine ⟨t, _, rfl, SqT.of upd_same, rfl, _, _, rfl, _, _, rfl, rfl, ?_⟩
      refine ⟨_, rfl, _, rfl, ya, _, (a : Int), _, rfl, rfl, sq3, at_nat (vN_get gA), _, rfl, _, rfl, ya, _, (b : Int), _, rfl, rfl, sq3, at_nat (vN_get gB), rfl, _, rfl, ?_⟩
      by_cases c1 : (cls W i).getD a 0 = (cls W i).getD b 0
      · refine if_false_of (by rw [decide_eq_true (by rw [c1])]; rfl) ⟨_, _, rfl, s3, fun j hj => ?_⟩
        rcases Nat.lt_or_ge j i with h5 | h5
        · exact hall j h5
        · have : j = i := by omega
          subst this
          exact c1
      · refine if_true_of (by rw [decide_eq_false (fun z => c1 (by injection z with z; omega))]; rfl) ⟨_, rfl, ?_⟩
        have e : apartK W k a b = some i := by
          unfold apartK
          rw [List.find?_range_eq_some]
          exact ⟨decide_eq_true c1, List.mem_range.mpr hi, fun j hj => by simpa using hall j hj⟩
        have q' := q _ k (s1.trans s3) hne hst
        rw [e] at q'
        exact q'
    · rintro σ H2 ⟨z1, z2, rfl, s2, hall⟩
      rw [hl] at hall
      have e : apartK W k a b = none := by
        unfold apartK
        rw [List.find?_eq_none]
        intro j hj
        simpa using hall j (List.mem_range.mp hj)
      have q' := q _ k (s1.trans s2) hne hst
      rw [e] at q'
      exact q'
end
end Nw
end
section
set_option maxRecDepth 100000
set_option maxHeartbeats 2000000
namespace Nw
open PySem PySem.Spec PyProof.Rows L2 LamX NdefX
abbrev KIt := It NestedKey
theorem KeyAt.same {H H' : Hp} {k : NestedKey} {v : V} (x : KeyAt H k v) (s : Same H H') : KeyAt H' k v := KeyAt.up (fun b xs e => s b _ e) k v x
theorem KeysOk.up {H H' : Hp} {xs : List WX} (x : KeysOk H xs) (t : ∀ b ys, H b = some (.tup ys) → H' b = some (.tup ys)) : KeysOk H' xs := ⟨fun y hy => ⟨KeyAt.up t _ _ (x.1 y hy).1, (x.1 y hy).2⟩, x.2⟩
/-- an entry and its word -/
abbrev XOk (H : Hp) (pl : Addr) (x : WX) (r : KIt) : Prop := x.1 = r.1 ∧ ∃ p, x.2.2 = .ref p ∧ p ≠ pl ∧ H p = some (.lst (vN r.2))
/-- what the search holds: entries in the order in which they were found -/
structure FW (P : Program) (w : World) (H0 H : Hp) (d pl : Addr) (xs : List WX) (L : List KIt) : Prop where
  same : Same H0 H
  nd : H0 d = none
  nl : H0 pl = none
  ne : pl ≠ d
  words : H d = some (WDO P w d xs none)
  keys : KeysOk H xs
  line : H pl = some (.lst (xs.map fun x => V.ref x.2.1))
  all : Paired (XOk H pl) xs L
theorem xok_keys : ∀ {H : Hp} {pl : Addr} {xs : List WX} {L : List KIt}, Paired (XOk H pl) xs L → xs.map (·.1) = L.map (·.1)
  | _, _, _, _, .nil => rfl
  | _, _, _, _, .cons h t => by rw [List.map_cons, List.map_cons, h.1, xok_keys t]
theorem xok_get : ∀ {H : Hp} {pl : Addr} {xs : List WX} {L : List KIt} {i : Nat} {r : KIt}, Paired (XOk H pl) xs L → L[i]? = some r → ∃ x, xs[i]? = some x ∧ XOk H pl x r
  | _, _, _, _, _, _, .nil, e => by simp at e
  | _, _, _, _, 0, _, .cons h t, e => by
    simp only [List.getElem?_cons_zero, Option.some.injEq] at e
    subst e
    exact ⟨_, rfl, h⟩
  | _, _, _, _, i + 1, _, .cons h t, e => by
    obtain ⟨x, h1, h2⟩ := xok_get (i := i) t (by simpa using e)
    exact ⟨x, by simpa using h1, h2⟩
theorem valW_at {xs : List WX} (nd : (xs.map (·.1)).Nodup) {i : Nat} {x : WX} (h : xs[i]? = some x) : valW xs x.1 = some x.2.2 := by
  unfold valW
  have : xs.find? (fun y => decide (y.1 = x.1)) = some x := by
    induction xs generalizing i with
    | nil => simp at h
    | cons y xs ih =>
      rw [List.map_cons, List.nodup_cons] at nd
      cases i with
      | zero =>
        simp only [List.getElem?_cons_zero, Option.some.injEq] at h
        subst h
        simp
      | succ i =>
        simp only [List.getElem?_cons_succ] at h
        have hne : ¬ y.1 = x.1 := fun e => nd.1 (by rw [e]; exact List.mem_map.mpr ⟨x, List.mem_of_getElem? h, rfl⟩)
        rw [List.find?_cons, decide_eq_false hne]
        exact ih nd.2 h
  rw [this]
  rfl
theorem valW_none {xs : List WX} {L : List KIt} {H : Hp} {pl : Addr} (P : Paired (XOk H pl) xs L) (k : NestedKey) : valW xs k = none ↔ ∀ r ∈ L, r.1 ≠ k := by
  have e := xok_keys P
  unfold valW
  rw [Option.map_eq_none_iff, List.find?_eq_none]
  constructor
  · intro h r hr hk
    have : r.1 ∈ xs.map (·.1) := by
      rw [e]
      exact List.mem_map.mpr ⟨r, hr, rfl⟩
    obtain ⟨x, hx, hxe⟩ := List.mem_map.mp this
    have := h x hx
    rw [hxe, hk] at this
    simp at this
  · intro h x hx
    have : x.1 ∈ L.map (·.1) := by
      rw [← e]
      exact List.mem_map.mpr ⟨x, hx, rfl⟩
    obtain ⟨r, hr, hre⟩ := List.mem_map.mp this
    have := h r hr
    rw [hre] at this
    simp [this]
theorem FW.up {P : Program} {w : World} {H0 H H' : Hp} {d pl : Addr} {xs : List WX} {L : List KIt} (F : FW P w H0 H d pl xs L) (s : Same H H') : FW P w H0 H' d pl xs L :=
  ⟨F.same.trans s, F.nd, F.nl, F.ne, s _ _ F.words, F.keys.up fun b ys e => s b _ e, s _ _ F.line, Paired.mapP F.all fun x r h => ⟨h.1, h.2.choose, h.2.choose_spec.1, h.2.choose_spec.2.1, s _ _ h.2.choose_spec.2.2⟩⟩
/-- a found key more: in the dict and in the line -/
theorem FW.more {P : Program} {w : World} {H0 H H' : Hp} {d pl a p : Addr} {xs : List WX} {L : List KIt} {r : KIt} (F : FW P w H0 H d pl xs L) (keep : ∀ b o, H b = some o → b ≠ d → b ≠ pl → H' b = some o) (h1 : H' d = some (WDO P w d (xs ++ [(r.1, a, .ref p)]) none))
    (h2 : H' pl = some (.lst (xs.map (fun x => V.ref x.2.1) ++ [.ref a]))) (hk : KeyAt H' r.1 (.ref a)) (dp : r.1.depth ≤ 8) (hp : H' p = some (.lst (vN r.2))) (hpl : p ≠ pl) (new : ∀ q ∈ L, q.1 ≠ r.1) : FW P w H0 H' d pl (xs ++ [(r.1, a, .ref p)]) (L ++ [r]) := by
  have tupk : ∀ b ys, H b = some (.tup ys) → H' b = some (.tup ys) := fun b ys e => keep b _ e (ne_of e F.words fun z => by unfold WDO at z; cases z) (ne_of e F.line fun z => by cases z)
  have lstk : ∀ b ys, b ≠ pl → H b = some (.lst ys) → H' b = some (.lst ys) := fun b ys n e => keep b _ e (ne_of e F.words fun z => by unfold WDO at z; cases z) n
  refine ⟨fun b o e => keep b o (F.same b o e) (ne_of_none e F.nd) (ne_of_none e F.nl), F.nd, F.nl, F.ne, h1, ?_, ?_, ?_⟩
  · refine ⟨fun y hy => ?_, ?_⟩
    · rcases List.mem_append.mp hy with hy | hy
      · obtain ⟨q1, q2⟩ := F.keys.1 y hy
        exact ⟨KeyAt.up tupk _ _ q1, q2⟩
      · simp only [List.mem_singleton] at hy
        subst hy
        exact ⟨hk, dp⟩
    · rw [List.map_append, List.nodup_append]
      refine ⟨F.keys.2, by simp, fun x hx y hy e => ?_⟩
      rw [xok_keys F.all] at hx
      obtain ⟨q, hq, rfl⟩ := List.mem_map.mp hx
      simp only [List.map_cons, List.map_nil, List.mem_singleton] at hy
      subst hy
      exact new q hq e
  · rw [h2, List.map_append]
    rfl
  · refine paired_snoc (Paired.mapP F.all fun x q h => ?_) ⟨rfl, p, rfl, hpl, hp⟩
    obtain ⟨q1, p2, q2, q3, q4⟩ := h
    exact ⟨q1, p2, q2, q3, lstk p2 _ q3 q4⟩
/-- what a search finds: the first word that leads to an end -/
def fwRes (go : NestedKey → Nat → NestedKey) (m : Nat) (s0 : NestedKey) (isE : NestedKey → Bool) (N : Nat) : Option (List Nat) := ((Q go m s0 N).find? fun r => isE r.1).map (·.2)
section
variable {P : Program} {w : World} {K : PySem.W.Frag} {mg : Str → Option Value} {base : Heap} {f : Addr} {fd : FuncData}
def sp_go (H0 : Hp) (U : NestedKey → Prop) (isE : NestedKey → Bool) (go : NestedKey → Nat → NestedKey) (most : Nat) : Sp := fun vs H Qq _ => ∃ (s : NestedKey) (v : V) (x : Nat), vs = [v, .int x] ∧ Same H0 H ∧ U s ∧ isE s = false ∧ x ≤ most ∧ KeyAt H s v ∧
  ∀ H' z, Same H H' → KeyAt H' (go s x) z → Qq z H'
def sp_is_end (H0 : Hp) (U : NestedKey → Prop) (isE : NestedKey → Bool) : Sp := fun vs H Qq _ => ∃ (s : NestedKey) (v : V), vs = [v] ∧ Same H0 H ∧ U s ∧ KeyAt H s v ∧ ∀ H', Same H H' → Qq (.bl (isE s)) H'
structure GoOk (w : World) (U : NestedKey → Prop) (isE : NestedKey → Bool) (go : NestedKey → Nat → NestedKey) (most : Nat) (s0 : NestedKey) (N : Nat) : Prop where
  start : U s0
  step : ∀ s x, U s → isE s = false → x ≤ most → U (go s x)
  kind : ∀ s, U s → s.depth ≤ 8 ∧ (s = .none ∨ ∃ ks, s = .tup ks)
  non : U .none → isE .none = true ∧ ∀ s, U s → s ≠ .none → NestedKey.hash w s ≠ NestedKey.hash w .none
  few : ∀ j, (Q go (most + 1) s0 j).length ≤ N
  small : N ≤ 100000
  most : most ≤ 1000
def sp_first_word (P : Program) (w : World) (K : PySem.W.Frag) (mg : Str → Option Value) (base : Heap) : Sp := fun vs H Qq _ => ∃ (sv : V) (most : Nat) (fg fe : Addr) (U : NestedKey → Prop) (isE : NestedKey → Bool) (go : NestedKey → Nat → NestedKey) (s0 : NestedKey) (N : Nat),
  vs = [sv, .int most, .ref fg, .ref fe] ∧ KeyAt H s0 sv ∧ GoOk w U isE go most s0 N ∧ Clo P w K mg base 4 fg H (sp_go H U isE go most) ∧ Clo P w K mg base 4 fe H (sp_is_end H U isE) ∧
  ∀ H' z, Same H H' → (match fwRes go (most + 1) s0 isE N with | none => z = .non | some l => ∃ p, z = .ref p ∧ H' p = some (.lst (vN l))) → Qq z H'
theorem Clo.same {P : Program} {w : World} {K : PySem.W.Frag} {mg : Str → Option Value} {base : Heap} {k : Nat} {f : Addr} {H H' : Hp} {sp : Sp} (c : Clo P w K mg base k f H sp) (s : Same H H') : Clo P w K mg base k f H' sp := c.ext fun b o e _ => s b o e
/-- a key is a tuple, or None -/
theorem key_tup {w : World} {U : NestedKey → Prop} {isE : NestedKey → Bool} {go : NestedKey → Nat → NestedKey} {most N : Nat} {s0 : NestedKey} (G : GoOk w U isE go most s0 N) {H : Hp} {s : NestedKey} {v : V} (hu : U s) (h : KeyAt H s v) : (∃ a, v = .ref a) ∨ (v = .non ∧ s = .none) := by
  rcases (G.kind s hu).2 with e | ⟨ks, e⟩
  · subst e
    cases h
    exact .inr ⟨rfl, rfl⟩
  · subst e
    cases h with
    | tup h1 h2 => exact .inl ⟨_, rfl⟩
theorem sc_first_word : FnScope ["start", "most", "go", "is_end", "words", "line", "at", "here", "letter", "there"] ["start", "most", "go", "is_end"] (defScope s_first_word) := ⟨rfl, rfl, rfl, by decide +kernel, rfl, by decide +kernel, by decide +kernel⟩
theorem ok_first_word (T : Tx K mg) (F : FnP K d_first_word f fd) : FnOk P w K mg base CX0 5 f fd ["start", "most", "go", "is_end"] (sp_first_word P w K mg base) := by
  refine F.ok sc_first_word (fun vs H Q E h => ?_) (fun cdv A outer s H vs Qq E hr h => ⟨_, PSs.nox
    (pss_cons (ps_set (i := 4) sc_first_word.nd rfl (Or.inl rfl) (pe_wnew (u9 hr) (pv 0) (pe_lst pa_nil)))
      (pss_cons (ps_if (pt_val (pe_callClo (k := 4) hr (by decide) pass0 (i := 3) rfl (Or.inl rfl) (pa_cons (pv 0) pa_nil))) (pss_one (ps_ret (pe_wget (u9 hr) (pv 4) (pv 0) (fun _ _ => rfl)))) pss_nil)
      (pss_cons (ps_set (i := 5) sc_first_word.nd rfl (Or.inl rfl) (pe_lst (pa_cons (pv 0) pa_nil)))
      (pss_cons (ps_set (i := 6) sc_first_word.nd rfl (Or.inl rfl) pe_int)
      (pss_cons (ps_while PassesOwn.never (pt_cmpR op_lt (pv 6) (pe_callB call_len_seq (by rfl) T.f_len PySem.boot_len (pa_cons (pv 5) pa_nil)) (nomark _)) (pss_cons (ps_set (i := 7) sc_first_word.nd rfl (Or.inl rfl) (pe_ix ix_list (pv 5) (pv 6) (fun _ _ => rfl)))
      (pss_cons (ps_for PassesOwn.never rfl (pi_range1 (by rfl) T.f_range (pa_cons (pe_op op_add (pv 1) pe_int) pa_nil)) (pg_name (i := 8) sc_first_word.nd rfl (Or.inl rfl)) (pss_cons (ps_set (i := 9) sc_first_word.nd rfl (Or.inl rfl) (pe_callClo (k := 4) hr (by decide) pass0 (i := 2) rfl (Or.inl rfl) (pa_cons (pv 7) (pa_cons (pv 8) pa_nil))))
      (pss_one (ps_if (pt_cmp (pc_wnotin (u9 hr) (pv 9) (pv 4))) (pss_cons (ps_wput (u9 hr) (pv 4) (pv 9) (pe_op op_cat (pe_wget (u9 hr) (pv 4) (pv 7) (fun _ _ => rfl)) (pe_lst (pa_cons (pv 8) pa_nil))) rfl)
      (pss_cons (ps_if (pt_val (pe_callClo (k := 4) hr (by decide) pass0 (i := 3) rfl (Or.inl rfl) (pa_cons (pv 9) pa_nil))) (pss_one (ps_ret (pe_wget (u9 hr) (pv 4) (pv 9) (fun _ _ => rfl)))) pss_nil)
      (pss_one (ps_expr (pe_bm PySem.F.plainAttrs_list PySem.F.slot_list_append PySem.F.type_list_append mt_append (pv 5) (pa_cons (pv 9) pa_nil)))))) pss_nil))))
      (pss_one (ps_set (i := 6) sc_first_word.nd rfl (Or.inl rfl) (pe_op op_add (pv 6) pe_int))))))
      (pss_one (ps_ret pe_non))))))), ?_⟩)
  · obtain ⟨sv, most, fg, fe, U, isE, go, s0, N, rfl, _⟩ := h
    rfl
  · obtain ⟨sv, most, fg, fe, U, isE, go, s0, N, rfl, hs0, G, cg, ce, q⟩ := h
    -- words = {start: []}
    intro d nd
    refine ⟨_, rfl, (by show 0 ≤ sizeLine; decide), fun pw npw => ?_⟩
    have hwd : pw ≠ d := fun e => by rw [e, upd_same] at npw; cases npw
    have npw0 : H pw = none := by rw [upd_ne hwd] at npw; exact npw
    have s1 : Same H (upd (upd H d (WDO P w d [] none)) pw (.lst [])) := (Same.new nd).upd npw0
    have hd1 : upd (upd H d (WDO P w d [] none)) pw (.lst []) d = some (WDO P w d [] none) := by
      rw [upd_ne (Ne.symm hwd), upd_same]
    have hs1 := KeyAt.same hs0 s1
    have hK0 : KeysOk (upd (upd H d (WDO P w d [] none)) pw (.lst [])) [] := ⟨(fun x hx => nomatch hx), List.nodup_nil⟩
    rcases key_tup G G.start hs0 with ⟨a0, rfl⟩ | ⟨rfl, rfl⟩
    · -- the start is a tuple
      refine ⟨_, ⟨[], hd1, by decide, .inl ⟨s0, a0, rfl, hs1, (G.kind s0 G.start).1, hK0, rfl, rfl⟩⟩, ?_⟩
      have hw2 : upd (upd (upd H d (WDO P w d [] none)) pw (.lst [])) d (WDO P w d [(s0, a0, .ref pw)] none) pw = some (.lst (vN [])) := by
        rw [upd_ne hwd, upd_same]
        rfl
      have s2 : Same H (upd (upd (upd H d (WDO P w d [] none)) pw (.lst [])) d (WDO P w d [(s0, a0, .ref pw)] none)) := s1.upd nd
      have hK1 : KeysOk (upd (upd (upd H d (WDO P w d [] none)) pw (.lst [])) d (WDO P w d [(s0, a0, .ref pw)] none)) [(s0, a0, .ref pw)] := ⟨fun x hx => by
        simp only [List.mem_singleton] at hx
        subst hx
        exact ⟨KeyAt.same hs0 s2, (G.kind s0 G.start).1⟩, by simp⟩
      -- if is_end(start)
      refine ⟨fe, _, rfl, ce.same s2, _, rfl, ce.same s2, s0, .ref a0, rfl, s2, G.start, KeyAt.same hs0 s2, fun H3 s3 => ⟨_, rfl, ?_⟩⟩
      have s3' : Same H H3 := s2.trans s3
      cases he : isE s0 with
      | true =>
        refine iteT ⟨_, rfl, _, rfl, d, .ref pw, rfl, ⟨_, _, s3 _ _ upd_same, .inl ⟨s0, a0, rfl, KeyAt.same hs0 s3', (G.kind s0 G.start).1, hK1.up fun b ys e => s3 b _ e, rfl, ?_⟩⟩, q H3 _ s3' ?_⟩
        · exact (valW_at hK1.2 (i := 0) rfl).symm
        · have e : (Nw.Q go (most + 1) s0 N).find? (fun r => isE r.1) = some (s0, []) := find_prefix (l := []) (x := (s0, [])) (by
            have := Q_mono go (most + 1) s0 (Nat.zero_le N)
            exact this) (fun y hy => nomatch hy) he
          unfold fwRes
          rw [e]
          exact ⟨pw, rfl, s3 _ _ hw2⟩
      | false =>
        refine iteF ?_
        -- line = [start]
        refine ⟨_, rfl, (by show 1 ≤ sizeLine; decide), fun pl npl => ?_⟩
        have hd3 : H3 d = some (WDO P w d [(s0, a0, .ref pw)] none) := s3 _ _ upd_same
        have hld : pl ≠ d := fun e => by rw [e, hd3] at npl; cases npl
        have hlw : pw ≠ pl := fun e => by rw [← e, s3 _ _ hw2] at npl; cases npl
        have nl0 : H pl = none := s3'.free npl
        have FW0 : FW P w H (upd H3 pl (.lst [.ref a0])) d pl [(s0, a0, .ref pw)] (Nw.Q go (most + 1) s0 0) := by
          refine ⟨s3'.upd nl0, nd, nl0, hld, ?_, hK1.up fun b ys e => ?_, upd_same, .cons ⟨rfl, pw, rfl, hlw, ?_⟩ .nil⟩
          · rw [upd_ne (Ne.symm hld)]
            exact hd3
          · have e3 := s3 b _ e
            rw [upd_ne (ne_of_none e3 npl)]
            exact e3
          · rw [upd_ne hlw]
            exact s3 _ _ hw2
        have few := G.few
        have small := G.small
        -- while at < len(line)
        refine while_by (fun σ H' => ∃ (j : Nat) (xs : List WX) (z1 z2 z3 : Option V), σ = [some (.ref a0), some (.int most), some (.ref fg), some (.ref fe), some (.ref d), some (.ref pl), some (.int (j : Int)), z1, z2, z3] ∧ j ≤ (Nw.Q go (most + 1) s0 j).length ∧ FW P w H H' d pl xs (Nw.Q go (most + 1) s0 j) ∧ ∀ r ∈ Nw.Q go (most + 1) s0 j, U r.1 ∧ isE r.1 = false)
          (fun σ _ => N + 1 - slotI σ 6) ⟨0, _, none, none, none, rfl, Nat.zero_le _, FW0, fun r hr => by
            have : r = (s0, []) := by simpa [Nw.Q] using hr
            subst this
            exact ⟨G.start, he⟩⟩ ?_ ?_
        · rintro σ H4 ⟨j, xs, z1, z2, z3, rfl, hj, Fj, hall⟩
          have hxl : xs.length = (Nw.Q go (most + 1) s0 j).length := paired_len Fj.all
          refine ⟨_, rfl, _, rfl, pl, _, rfl, .inl (SqL.of Fj.line), _, _, rfl, rfl, _, rfl, ?_⟩
          rw [List.length_map, hxl]
          by_cases c : j < (Nw.Q go (most + 1) s0 j).length
          · refine if_true_of (decide_eq_true (by omega)) ?_
            obtain ⟨rj, hrj⟩ : ∃ r, (Nw.Q go (most + 1) s0 j)[j]? = some r := ⟨_, List.getElem?_eq_getElem c⟩
            obtain ⟨xj, hxj, exj⟩ := xok_get Fj.all hrj
            obtain ⟨urj, erj⟩ := hall rj (List.mem_of_getElem? hrj)
            have hN : j + 1 ≤ N := Nat.le_trans c (few j)
            have hQ1 : Nw.Q go (most + 1) s0 (j + 1) = procTo go rj (most + 1) (Nw.Q go (most + 1) s0 j) := Q_some go (most + 1) s0 hrj
            have hline : (xs.map fun x => V.ref x.2.1)[j]? = some (.ref xj.2.1) := by
              rw [List.getElem?_map, hxj]
              rfl
            -- here = line[at]
            refine ⟨_, rfl, _, rfl, pl, _, (j : Int), _, rfl, rfl, SqL.of Fj.line, at_nat hline, ?_⟩
            -- for letter in range(most + 1)
            refine ⟨_, rfl, _, _, rfl, rfl, (most : Int) + 1, rfl, by have := G.most; omega, by have := G.most; omega, for_range (lo := 0) (n := ((most : Int) + 1 - 0).toNat) (fun x σ H' => ∃ (ys : List WX) (z2 z3 : Option V), xs <+: ys ∧ σ = [some (.ref a0), some (.int most), some (.ref fg), some (.ref fe), some (.ref d), some (.ref pl), some (.int (j : Int)), some (.ref xj.2.1), z2, z3] ∧
              FW P w H H' d pl ys (procTo go rj x (Nw.Q go (most + 1) s0 j)) ∧ ∀ r ∈ procTo go rj x (Nw.Q go (most + 1) s0 j), U r.1 ∧ isE r.1 = false) ⟨xs, _, _, List.prefix_refl _, rfl, Fj, hall⟩ ?_ ?_⟩
            · rintro x σ H5 hx ⟨ys, z2, z3, hpxs, rfl, F5, hall5⟩
              have hx' : x ≤ most := by omega
              have pre : Nw.Q go (most + 1) s0 j <+: procTo go rj x (Nw.Q go (most + 1) s0 j) := procTo_prefix go rj _ x
              have hrj5 : (procTo go rj x (Nw.Q go (most + 1) s0 j))[j]? = some rj := by
                obtain ⟨t, e⟩ := pre
                rw [← e, List.getElem?_append_left c]
                exact hrj
              obtain ⟨yj, hyj, eyj⟩ := xok_get F5.all hrj5
              have eadd := procTo_succ go rj x (Nw.Q go (most + 1) s0 j)
              have hpre2 : procTo go rj (x + 1) (Nw.Q go (most + 1) s0 j) <+: Nw.Q go (most + 1) s0 N := by
                refine (procTo_mono go rj _ (show x + 1 ≤ most + 1 by omega)).trans ?_
                rw [← hQ1]
                exact Q_mono go (most + 1) s0 hN
              have hLl : (procTo go rj x (Nw.Q go (most + 1) s0 j)).length ≤ N := by
                have h1 : procTo go rj x (Nw.Q go (most + 1) s0 j) <+: Nw.Q go (most + 1) s0 N := (procTo_mono go rj _ (Nat.le_succ x)).trans hpre2
                exact Nat.le_trans h1.length_le (few N)
              have hyl : ys.length = (procTo go rj x (Nw.Q go (most + 1) s0 j)).length := paired_len F5.all
              have eyx : yj = xj := by
                obtain ⟨t, e⟩ := hpxs
                rw [← e, List.getElem?_append_left (List.getElem?_eq_some_iff.mp hxj).1, hxj] at hyj
                exact (Option.some.inj hyj).symm
              subst eyx
              obtain ⟨ekj, pj, epj, npj, hpj⟩ := eyj
              generalize procTo go rj x (Nw.Q go (most + 1) s0 j) = L at F5 hall5 hrj5 eadd hLl hyl
              have hkj : KeyAt H5 rj.1 (.ref yj.2.1) := by
                have := (F5.keys.1 yj (List.mem_of_getElem? hyj)).1
                rw [ekj] at this
                exact this
              have hvj : valW ys rj.1 = some (.ref pj) := by
                have := valW_at F5.keys.2 hyj
                rw [ekj, epj] at this
                exact this
              have dj := (G.kind rj.1 urj).1
              show gName 8 (.int ((0 : Int) + (x : Int))) _ _ _
              rw [Int.zero_add]
              -- there = go(here, letter)
              refine ⟨fg, _, rfl, cg.same F5.same, _, rfl, _, rfl, cg.same F5.same, rj.1, .ref yj.2.1, x, rfl, F5.same, urj, erj, hx', hkj, fun H6 z s6 hz => ?_⟩
              have uz : U (go rj.1 x) := G.step _ _ urj erj hx'
              have F6 := F5.up s6
              have dz := (G.kind _ uz).1
              have hylt : ys.length < sizeLine := Nat.lt_of_le_of_lt (show ys.length ≤ 100000 by omega) (by decide)
              have hwl : rj.2.length ≤ 100000 := by
                have := Q_index go (most + 1) s0 j j rj hrj
                omega
              have newS : ∀ (H7 : Hp) (pb pc : Addr), H6 pb = none → upd H6 pb (.lst [.int (x : Int)]) pc = none → H7 = upd (upd H6 pb (.lst [.int (x : Int)])) pc (.lst (vN rj.2 ++ [.int (x : Int)])) → Same H6 H7 ∧ H6 pc = none := fun H7 pb pc n1 n2 e => by
                subst e
                have n2' := (Same.new (o := .lst [.int (x : Int)]) n1).free n2
                exact ⟨(Same.new n1).upd n2', n2'⟩
              rcases key_tup G uz hz with ⟨a, rfl⟩ | ⟨rfl, ez⟩
              · -- a tuple
                refine ⟨_, rfl, _, rfl, d, valW ys (go rj.1 x), rfl, ⟨ys, none, F6.words, .inl ⟨go rj.1 x, a, rfl, hz, dz, F6.keys, rfl, rfl⟩⟩, _, rfl, ?_⟩
                cases ev : valW ys (go rj.1 x) with
                | some vv =>
                  refine if_false_of rfl ⟨ys, _, _, hpxs, rfl, ?_⟩
                  have hin : ∃ r ∈ L, r.1 = go rj.1 x := by
                    refine Classical.byContradiction fun hno => ?_
                    have := (valW_none F5.all (go rj.1 x)).mpr fun r hr e => hno ⟨r, hr, e⟩
                    rw [this] at ev
                    cases ev
                  rw [eadd, add_old (q := (go rj.1 x, rj.2 ++ [x])) hin]
                  exact ⟨F6, hall5⟩
                | none =>
                  have hnew := (valW_none F5.all (go rj.1 x)).mp ev
                  have eadd2 := eadd.trans (add_new (q := (go rj.1 x, rj.2 ++ [x])) hnew)
                  refine if_true_of rfl ?_
                  -- words[there] = words[here] + [letter]
                  refine ⟨_, rfl, _, rfl, d, .ref pj, rfl, ⟨ys, none, F6.words, .inl ⟨rj.1, yj.2.1, rfl, KeyAt.same hkj s6, dj, F6.keys, rfl, hvj.symm⟩⟩, _, rfl, (by show 1 ≤ sizeLine; decide), fun pb npb => ?_⟩
                  have hpj6 := s6 _ _ hpj
                  refine ⟨pj, pb, vN rj.2, [.int (x : Int)], rfl, rfl, by rw [upd_ne (ne_of_none hpj6 npb)]; exact hpj6, upd_same, ?_, fun pc npc => ?_⟩
                  · rw [vN_len]
                    exact Nat.le_trans (show rj.2.length + 1 ≤ 100001 by omega) (by decide)
                  obtain ⟨s7, npc6⟩ := newS _ pb pc npb npc rfl
                  have F7 := F6.up s7
                  have hz7 := KeyAt.same hz s7
                  refine ⟨_, rfl, _, rfl, d, _, rfl, ⟨ys, F7.words, hylt, .inl ⟨go rj.1 x, a, rfl, hz7, dz, F7.keys, ev, rfl⟩⟩, ?_⟩
                  have hpcd : pc ≠ d := fun e => by rw [e, F6.words] at npc6; cases npc6
                  have hpcl : pc ≠ pl := fun e => by rw [e, F6.line] at npc6; cases npc6
                  have hpc8 : upd (upd (upd H6 pb (.lst [.int (x : Int)])) pc (.lst (vN rj.2 ++ [.int (x : Int)]))) d (WDO P w d (ys ++ [(go rj.1 x, a, .ref pc)]) none) pc = some (.lst (vN (rj.2 ++ [x]))) := by
                    rw [upd_ne hpcd, upd_same, vN_snoc]
                  have s8 : Same H (upd (upd (upd H6 pb (.lst [.int (x : Int)])) pc (.lst (vN rj.2 ++ [.int (x : Int)]))) d (WDO P w d (ys ++ [(go rj.1 x, a, .ref pc)]) none)) := F7.same.upd nd
                  have t8 : ∀ b zs, upd (upd H6 pb (.lst [.int (x : Int)])) pc (.lst (vN rj.2 ++ [.int (x : Int)])) b = some (.tup zs) → upd (upd (upd H6 pb (.lst [.int (x : Int)])) pc (.lst (vN rj.2 ++ [.int (x : Int)]))) d (WDO P w d (ys ++ [(go rj.1 x, a, .ref pc)]) none) b = some (.tup zs) := fun b zs e => by
                    rw [upd_ne (ne_of e F7.words fun z => by unfold WDO at z; cases z)]
                    exact e
                  have hz8 := KeyAt.up t8 _ _ hz7
                  -- if is_end(there)
                  refine ⟨fe, _, rfl, ce.same s8, _, rfl, ce.same s8, go rj.1 x, .ref a, rfl, s8, uz, hz8, fun H9 s9 => ⟨_, rfl, ?_⟩⟩
                  have hk9 : KeysOk H9 (ys ++ [(go rj.1 x, a, .ref pc)]) := by
                    refine KeysOk.up ?_ fun b zs e => s9 b _ e
                    refine ⟨fun y hy => ?_, ?_⟩
                    · rcases List.mem_append.mp hy with hy | hy
                      · exact ⟨KeyAt.up t8 _ _ (F7.keys.1 y hy).1, (F7.keys.1 y hy).2⟩
                      · simp only [List.mem_singleton] at hy
                        subst hy
                        exact ⟨hz8, dz⟩
                    · rw [List.map_append, List.nodup_append]
                      refine ⟨F7.keys.2, by simp, fun x' hx' y hy e => ?_⟩
                      rw [xok_keys F7.all] at hx'
                      obtain ⟨q', hq', rfl⟩ := List.mem_map.mp hx'
                      simp only [List.map_cons, List.map_nil, List.mem_singleton] at hy
                      subst hy
                      exact hnew q' hq' e
                  cases he2 : isE (go rj.1 x) with
                  | true =>
                    refine iteT ⟨_, rfl, _, rfl, d, .ref pc, rfl, ⟨_, none, s9 _ _ upd_same, .inl ⟨go rj.1 x, a, rfl, KeyAt.same hz8 s9, dz, hk9, rfl, ?_⟩⟩, q H9 _ (s8.trans s9) ?_⟩
                    · exact (valW_at hk9.2 (i := ys.length) (x := (go rj.1 x, a, .ref pc)) (by simp)).symm
                    · have e : (Nw.Q go (most + 1) s0 N).find? (fun r => isE r.1) = some (go rj.1 x, rj.2 ++ [x]) := find_prefix (l := L) (by rw [← eadd2]; exact hpre2) (fun y hy => (hall5 y hy).2) he2
                      unfold fwRes
                      rw [e]
                      exact ⟨pc, rfl, s9 _ _ hpc8⟩
                  | false =>
                    refine iteF ?_
                    have hl9 : H9 pl = some (.lst (ys.map fun x => V.ref x.2.1)) := by
                      refine s9 _ _ ?_
                      rw [upd_ne F7.ne]
                      exact F7.line
                    refine ⟨_, rfl, .inl ⟨rfl, _, SqL.of hl9⟩, _, rfl, pl, _, _, rfl, rfl, hl9, by rw [List.length_map]; exact hylt, ?_⟩
                    refine ⟨ys ++ [(go rj.1 x, a, .ref pc)], _, _, hpxs.trans (List.prefix_append _ _), rfl, ?_⟩
                    rw [eadd2]
                    have t9 : ∀ b zs, H9 b = some (.tup zs) → upd H9 pl (.lst (ys.map (fun x => V.ref x.2.1) ++ [.ref a])) b = some (.tup zs) := fun b zs e => by
                      rw [upd_ne (ne_of e hl9 fun z => by cases z)]
                      exact e
                    refine ⟨F7.more (r := (go rj.1 x, rj.2 ++ [x])) (fun b o e n1 n2 => ?_) ?_ upd_same (KeyAt.up t9 _ _ (KeyAt.same hz8 s9)) dz ?_ hpcl hnew, fun r hr => ?_⟩
                    · rw [upd_ne n2]
                      refine s9 _ _ ?_
                      rw [upd_ne n1]
                      exact e
                    · rw [upd_ne (Ne.symm F7.ne)]
                      exact s9 _ _ upd_same
                    · rw [upd_ne hpcl]
                      exact s9 _ _ hpc8
                    · rcases List.mem_append.mp hr with hr | hr
                      · exact hall5 r hr
                      · simp only [List.mem_singleton] at hr
                        subst hr
                        exact ⟨uz, he2⟩
              · -- None
                rw [ez] at uz hz eadd
                obtain ⟨en, hcol⟩ := G.non uz
                have nc : NoColl w ys := fun y hy => by
                  have : y.1 ∈ L.map (·.1) := by
                    rw [← xok_keys F5.all]
                    exact List.mem_map.mpr ⟨y, hy, rfl⟩
                  obtain ⟨r, hr, er⟩ := List.mem_map.mp this
                  rw [← er]
                  exact hcol r.1 (hall5 r hr).1 fun e => by
                    have := (hall5 r hr).2
                    rw [e, en] at this
                    cases this
                have hnew : ∀ r ∈ L, r.1 ≠ NestedKey.none := fun r hr e => by
                  have := (hall5 r hr).2
                  rw [e, en] at this
                  cases this
                have eadd2 := eadd.trans (add_new (q := (NestedKey.none, rj.2 ++ [x])) hnew)
                refine ⟨_, rfl, _, rfl, d, none, rfl, ⟨ys, none, F6.words, .inr ⟨rfl, nc, rfl⟩⟩, _, rfl, if_true_of rfl ?_⟩
                refine ⟨_, rfl, _, rfl, d, .ref pj, rfl, ⟨ys, none, F6.words, .inl ⟨rj.1, yj.2.1, rfl, KeyAt.same hkj s6, dj, F6.keys, rfl, hvj.symm⟩⟩, _, rfl, (by show 1 ≤ sizeLine; decide), fun pb npb => ?_⟩
                have hpj6 := s6 _ _ hpj
                refine ⟨pj, pb, vN rj.2, [.int (x : Int)], rfl, rfl, by rw [upd_ne (ne_of_none hpj6 npb)]; exact hpj6, upd_same, ?_, fun pc npc => ?_⟩
                · rw [vN_len]
                  exact Nat.le_trans (show rj.2.length + 1 ≤ 100001 by omega) (by decide)
                obtain ⟨s7, npc6⟩ := newS _ pb pc npb npc rfl
                have F7 := F6.up s7
                refine ⟨_, rfl, _, rfl, d, _, rfl, ⟨ys, F7.words, hylt, .inr ⟨rfl, nc, rfl⟩⟩, ?_⟩
                have hpcd : pc ≠ d := fun e => by rw [e, F6.words] at npc6; cases npc6
                have s8 : Same H (upd (upd (upd H6 pb (.lst [.int (x : Int)])) pc (.lst (vN rj.2 ++ [.int (x : Int)]))) d (WDO P w d ys (some (.ref pc)))) := F7.same.upd nd
                refine ⟨fe, _, rfl, ce.same s8, _, rfl, ce.same s8, .none, .non, rfl, s8, uz, .non, fun H9 s9 => ⟨_, rfl, ?_⟩⟩
                rw [en]
                refine iteT ⟨_, rfl, _, rfl, d, .ref pc, rfl, ⟨ys, some (.ref pc), s9 _ _ upd_same, .inr ⟨rfl, nc, rfl⟩⟩, q H9 _ (s8.trans s9) ?_⟩
                have e : (Nw.Q go (most + 1) s0 N).find? (fun r => isE r.1) = some (.none, rj.2 ++ [x]) := find_prefix (l := L) (by rw [← eadd2]; exact hpre2) (fun y hy => (hall5 y hy).2) en
                unfold fwRes
                rw [e]
                refine ⟨pc, rfl, s9 _ _ ?_⟩
                rw [upd_ne hpcd, upd_same, vN_snoc]
            · rintro σ H5 ⟨ys, z2, z3, hpxs, rfl, F5, hall5⟩
              have en : ((most : Int) + 1 - 0).toNat = most + 1 := by omega
              rw [en, ← hQ1] at F5 hall5
              refine ⟨_, rfl, _, _, rfl, rfl, ?_⟩
              refine ⟨⟨j + 1, ys, _, _, _, rfl, ?_, F5, hall5⟩, ?_⟩
              · exact Nat.le_trans c (Q_step go (most + 1) s0 j).length_le
              · show N + 1 - ((j : Int) + 1).toNat < N + 1 - (j : Int).toNat
                omega
          · refine if_false_of (decide_eq_false (by omega)) (q H4 .non Fj.same ?_)
            have ej : Nw.Q go (most + 1) s0 N = Nw.Q go (most + 1) s0 j := Q_stop go (most + 1) s0 (by omega) (by have := few j; omega)
            have e : (Nw.Q go (most + 1) s0 N).find? (fun r => isE r.1) = none := by
              rw [ej, List.find?_eq_none]
              intro r hr
              rw [(hall r hr).2]
              exact Bool.false_ne_true
            unfold fwRes
            rw [e]
            rfl
        · rintro σ H4 Q1 Q2 hQ ⟨x1, h1, x2, h2, p1, ys, h3, h4, i, j, h5, h6, b, h7, h8⟩
          exact ⟨x1, h1, x2, h2, p1, ys, h3, h4, i, j, h5, h6, b, h7, hQ _ _ h8⟩
    · -- the start is None
      obtain ⟨en, _⟩ := G.non G.start
      have nc0 : NoColl w [] := fun x hx => nomatch hx
      refine ⟨_, ⟨[], hd1, by decide, .inr ⟨rfl, nc0, rfl⟩⟩, ?_⟩
      have s2 : Same H (upd (upd (upd H d (WDO P w d [] none)) pw (.lst [])) d (WDO P w d [] (some (.ref pw)))) := s1.upd nd
      refine ⟨fe, _, rfl, ce.same s2, _, rfl, ce.same s2, .none, .non, rfl, s2, G.start, .non, fun H3 s3 => ⟨_, rfl, ?_⟩⟩
      rw [en]
      refine iteT ⟨_, rfl, _, rfl, d, .ref pw, rfl, ⟨[], some (.ref pw), s3 _ _ upd_same, .inr ⟨rfl, nc0, rfl⟩⟩, q H3 _ (s2.trans s3) ?_⟩
      have e : (Nw.Q go (most + 1) .none N).find? (fun r => isE r.1) = some (.none, []) := find_prefix (l := []) (x := (NestedKey.none, [])) (Q_mono go (most + 1) .none (Nat.zero_le N)) (fun y hy => nomatch hy) en
      unfold fwRes
      rw [e]
      refine ⟨pw, rfl, s3 _ _ ?_⟩
      rw [upd_ne hwd, upd_same]
      rfl
end
end Nw
end
section
set_option maxRecDepth 100000
set_option maxHeartbeats 2000000
namespace Nw
open PySem PySem.Spec PyProof.Rows L2 LamX NdefX
/-- the names of the functions that defs make, by their rows -/
def nmAll (l _c : Nat) : Str := if l = 85 then "word_as_near.<locals>.go" else if l = 88 then "word_as_near.<locals>.is_end" else if l = 109 then "meeting_word.<locals>.go" else if l = 113 then "meeting_word.<locals>.is_end" else if l = 135 then "pebble_word.<locals>.unless_apart" else if l = 138 then "pebble_word.<locals>.go" else "pebble_word.<locals>.is_end"
theorem nm85 : nmAll 85 4 = ("word_as_near" : Str) ++ ".<locals>." ++ "go" := by decide +kernel
theorem nm88 : nmAll 88 4 = ("word_as_near" : Str) ++ ".<locals>." ++ "is_end" := by decide +kernel
theorem nm109 : nmAll 109 4 = ("meeting_word" : Str) ++ ".<locals>." ++ "go" := by decide +kernel
theorem nm113 : nmAll 113 4 = ("meeting_word" : Str) ++ ".<locals>." ++ "is_end" := by decide +kernel
theorem nm135 : nmAll 135 4 = ("pebble_word" : Str) ++ ".<locals>." ++ "unless_apart" := by decide +kernel
theorem nm138 : nmAll 138 4 = ("pebble_word" : Str) ++ ".<locals>." ++ "go" := by decide +kernel
theorem nm144 : nmAll 144 4 = ("pebble_word" : Str) ++ ".<locals>." ++ "is_end" := by decide +kernel
abbrev Tn (K : PySem.W.Frag) : List NTab := nested.map fun p => ((He.cT K p).2, nmAll)
abbrev TabsB (K : PySem.W.Frag) (mg : Str → Option Value) (base : Heap) : Prop := ∀ p ∈ nested, TabB base mg (He.cT K p).1 (He.cT K p).2
theorem Tn_one (K : PySem.W.Frag) : ∀ p ∈ Tn K, ∀ P : Addr, p.1 = P → p.2 = nmAll := fun p hp P _ => by
  obtain ⟨q, _, rfl⟩ := List.mem_map.mp hp
  rfl
section
variable {P : Program} {w : World} {K : PySem.W.Frag} {mg : Str → Option Value} {base : Heap} {f : Addr} {fd : FuncData}
/-- a def whose code object is known -/
theorem okC {d : He.DefD} {CX : CXT} {N ps : List Str} {k : Nat} {sp : Sp} (F : FnP K d (He.fAd K d.at_) fd) (S : FnScope N ps d.scope) (len : ∀ vs H Q E, sp vs H Q E → vs.length = ps.length)
    (hbody : ∀ (A : Around) (outer : List Env) (s : Shared) (H : Hp) (vs : List V) (Q : VK) (E : XK), Room k (A.deeper (envOfC d.qual d.scope s.heap.objs.size (He.fAd K d.at_) (.ref (He.codeOf K d.at_)))) → sp vs H Q E →
      ∃ t, PSs (cxOf CX P w K mg base N d.qual d.scope (He.fAd K d.at_) (.ref (He.codeOf K d.at_)) A outer s H E) d.body t ∧ t { nx := fun _ H' => Q .non H', rt := Q } (start N vs) H) : FnOk P w K mg base CX (k + 1) (He.fAd K d.at_) fd ps sp := by
  obtain ⟨oc, od, dV, kV, doc, pm, an, cdv, ct, osl, rfl, lk, hcd, _, _⟩ := F.ex
  obtain ⟨c, rfl⟩ := He.codeIn_ref hcd
  have e := He.codeOf_eq (p := d.at_) lk rfl
  rw [e] at hbody
  exact fn_of lk hcd S len hbody
/-- a def that keeps over every base a promise that names the base -/
structure HasS (P : Program) (w : World) (K : PySem.W.Frag) (mg : Str → Option Value) (k : Nat) (x : Str) (ps : List Str) (sp : Heap → Sp) : Prop where
  ex : ∃ f fd, (∀ base, FnOk P w K mg base CX0 k f fd ps (sp base)) ∧ mg x = some (.ref f) ∧ PySem.W.keepIn K (.ref f) = true ∧ Binds K fd ps []
theorem pe_hasS {X : Cx} {k j : Nat} {x : Str} {ps : List Str} {sp : Heap → Sp} {p pos : Pos} {e : Expr} {es : List Expr} {t : TA} {cs : List CloAt} (G : HasS X.prog X.w X.K X.mg k x ps sp) (hr : Room j X.A) (hfn : ∀ y, X.fn y = true) (cp : X.Ok → ∀ c ∈ cs, Caps X c.1 c.2.1 c.2.2) (ha : PA X (e :: es) t)
    (hk : k ≤ j := by decide) (hx : Passes CX0 X E0 := by exact pass0) (hg : Gl X x := by rfl) (hdb : (x == ("__debug__" : Str)) = false := by decide)
    (he : starEach (e :: es) X.env = (false, eval e X.env) :: starEach es X.env := by rfl) (hpl : (backTo pos (starEach es X.env)).any (·.1) = false := by rfl) : PE X (.Call (.Name x p) (e :: es) [] pos) (tCallStill cs sp E0 t) := by
  obtain ⟨f, fd, F, hm, hkp, hb⟩ := G.ex
  exact pe_callStill F (hr.mono hk) hg hm hkp hb hx hfn cp ha hdb he hpl
abbrev pk (a b : Nat) : NestedKey := .tup [.num (a : Int), .num (b : Int)]
def goK (W : Ways) : NestedKey → Nat → NestedKey
  | .tup [.num a, .num b], x => pk (ledTo W a.toNat x) (ledTo W b.toNat x)
  | k, _ => k
theorem goK_pk (W : Ways) (a b x : Nat) : goK W (pk a b) x = pk (ledTo W a x) (ledTo W b x) := rfl
def isNear (W : Ways) (k : Nat) : NestedKey → Bool
  | .tup [.num a, .num b] => decide ((allFar W a.toNat).getD b.toNat none = some k)
  | _ => false
theorem isNear_pk (W : Ways) (k a b : Nat) : isNear W k (pk a b) = decide ((allFar W a).getD b none = some k) := rfl
theorem pk_at {H : Hp} {a b : Nat} {v : V} (h : KeyAt H (pk a b) v) : ∃ p, v = .ref p ∧ H p = some (.tup [.int (a : Int), .int (b : Int)]) := by
  cases h with
  | tup h1 h2 =>
    cases h2 with
    | cons k1 k2 =>
      cases k1
      cases k2 with
      | cons k3 k4 =>
        cases k3
        cases k4
        exact ⟨_, rfl, h1⟩
theorem pk_of {H : Hp} {p : Addr} {a b : Nat} (h : H p = some (.tup [.int (a : Int), .int (b : Int)])) : KeyAt H (pk a b) (.ref p) := .tup h (.cons (.num _) (.cons (.num _) .nil))
abbrev n_wan_go : Stmt := (defBody s_word_as_near).getD 0 (.Pass ⟨0, 0, 0, 0⟩)
abbrev n_wan_end : Stmt := (defBody s_word_as_near).getD 1 (.Pass ⟨0, 0, 0, 0⟩)
abbrev F_wan_go (cl : List (Str × Addr)) (c : Addr) : NF := NF.of n_wan_go "go" (("word_as_near" : Str) ++ ".<locals>." ++ "go") cl c
abbrev F_wan_end (cl : List (Str × Addr)) (c : Addr) : NF := NF.of n_wan_end "is_end" (("word_as_near" : Str) ++ ".<locals>." ++ "is_end") cl c
def spn_wan_go (K : PySem.W.Frag) (ws : List (Option V)) : Sp := fun vs H Q _ => ∃ (wv v : V) (W : Ways) (a b x : Nat), ws = [some wv] ∧ vs = [v, .int x] ∧ Dp K H wv (dWays W) ∧ a < W.length ∧ b < W.length ∧ KeyAt H (pk a b) v ∧ ∀ H' z, Same H H' → KeyAt H' (pk (ledTo W a x) (ledTo W b x)) z → Q z H'
theorem sc_word_as_near_go : NScope ["pair", "letter", "ways"] ["pair", "letter"] ["ways"] (C8.fnScope n_wan_go) := nscope_by (by decide +kernel)
theorem nok_wan_go (G_led_to : Has P w K mg 2 "led_to" ["ways", "place", "letter"] (sp_led_to K)) (f : Addr) (cl : List (Str × Addr)) (c : Addr) : NOk P w K mg base CX0 3 f (F_wan_go cl c) ["pair", "letter"] ["ways"] (spn_wan_go K) := by
  refine nok_of sc_word_as_near_go (fun _ _ _ us hl => match us, hl with | [_, _], _ => rfl) (fun ws vs H Q E h => ?_) fun A outer s H vs ws Q E hr hf hc hl h => ⟨_, PSs.nox
    (pss_one (ps_ret (pe_tup (pa_cons (pe_has G_led_to hr (pa_cons (pv 2) (pa_cons (pe_ix ix_tup (pv 0) pe_int (fun _ _ => rfl)) (pa_cons (pv 1) pa_nil)))) (pa_cons (pe_has G_led_to hr (pa_cons (pv 2) (pa_cons (pe_ix ix_tup (pv 0) pe_int (fun _ _ => rfl)) (pa_cons (pv 1) pa_nil)))) pa_nil))))), ?_⟩
  · obtain ⟨wv, v, W, a, b, x, rfl, rfl, _⟩ := h
    rfl
  · obtain ⟨wv, v, W, a, b, x, rfl, rfl, hW, ha, hb, hk, q⟩ := h
    obtain ⟨p, rfl, hp⟩ := pk_at hk
    refine ⟨_, rfl, _, rfl, p, _, (0 : Int), _, rfl, rfl, SqT.of hp, rfl, _, rfl, wv, W, a, x, rfl, hW, ha, ?_⟩
    refine ⟨_, rfl, _, rfl, p, _, (1 : Int), _, rfl, rfl, SqT.of hp, rfl, _, rfl, wv, W, b, x, rfl, hW, hb, (by show 2 ≤ sizeLine; decide), fun t nt => ?_⟩
    exact q _ _ (Same.new nt) (pk_of upd_same)
/-- how far all places are from all -/
abbrev dFars (W : Ways) : PyData := .list ((List.range W.length).map fun u => .list ((allFar W u).map dOpt))
def spn_wan_end (K : PySem.W.Frag) (ws : List (Option V)) : Sp := fun vs H Q _ => ∃ (fv v : V) (W : Ways) (a b k : Nat), ws = [some (.int (k : Int)), some fv] ∧ vs = [v] ∧ Dp K H fv (dFars W) ∧ WOk W ∧ a < W.length ∧ b < W.length ∧ KeyAt H (pk a b) v ∧ Q (.bl (decide ((allFar W a).getD b none = some k))) H
theorem sc_word_as_near_is_end : NScope ["pair", "steps", "far"] ["pair"] ["steps", "far"] (C8.fnScope n_wan_end) := nscope_by (by decide +kernel)
theorem allFar_len {W : Ways} (ok : WOk W) {u : Nat} (hu : u < W.length) : (allFar W u).length = W.length := (DQ_inv ok hu _).flen
theorem scal_oV (o : Option Nat) (k : Int) : scal (oV o) (.int k) = true := by cases o <;> rfl
theorem dec_oV (o : Option Nat) (k : Nat) : decide (oV o = V.int (k : Int)) = decide (o = some k) := by
  cases o with
  | none => rfl
  | some n =>
    refine decide_eq_decide.mpr ⟨fun z => ?_, fun z => ?_⟩
    · have z : V.int (n : Int) = V.int (k : Int) := z
      injection z with z
      rw [show n = k by omega]
    · cases z
      rfl
theorem far_at {K : PySem.W.Frag} {H : Hp} {fv : V} {W : Ways} (h : Dp K H fv (dFars W)) {a b : Nat} (ok : WOk W) (ha : a < W.length) (hb : b < W.length) : ∃ (p r : Addr) (xs ys : List V), fv = .ref p ∧ SqL K H p xs ∧ xs[a]? = some (.ref r) ∧ SqL K H r ys ∧ ys[b]? = some (oV ((allFar W a).getD b none)) := by
  obtain ⟨p, xs, rfl, sq, al⟩ := h.lst_of
  obtain ⟨x, hx1, hx2⟩ := al.get (i := a) (d := .list ((allFar W a).map dOpt)) (by rw [List.getElem?_map, List.getElem?_range ha]; rfl)
  obtain ⟨r, ys, rfl, sq2, al2⟩ := hx2.lst_of
  have hl : b < (allFar W a).length := by rw [allFar_len ok ha]; exact hb
  obtain ⟨y, hy1, hy2⟩ := al2.get (i := b) (d := dOpt ((allFar W a).getD b none)) (by rw [List.getElem?_map, List.getD_eq_getElem?_getD, List.getElem?_eq_getElem hl]; rfl)
  refine ⟨p, r, xs, ys, rfl, sq, hx1, sq2, ?_⟩
  rw [hy1]
  cases e : (allFar W a).getD b none with
  | none =>
    rw [e] at hy2
    rw [Dp.non_of hy2]
    rfl
  | some n =>
    rw [e] at hy2
    rw [Dp.int_of hy2]
    rfl
theorem nok_wan_end (f : Addr) (cl : List (Str × Addr)) (c : Addr) : NOk P w K mg base CX0 1 f (F_wan_end cl c) ["pair"] ["steps", "far"] (spn_wan_end K) := by
  refine nok_of sc_word_as_near_is_end (fun _ _ _ us hl => match us, hl with | [_], _ => rfl) (fun ws vs H Q E h => ?_) fun A outer s H vs ws Q E hr hf hc hl h => ⟨_, PSs.nox
    (pss_one (ps_ret (pe_cmpR op_eq (pe_ix ix_list (pe_ix ix_list (pv 2) (pe_ix ix_tup (pv 0) pe_int (fun _ _ => rfl)) (fun _ _ => rfl)) (pe_ix ix_tup (pv 0) pe_int (fun _ _ => rfl)) (fun _ _ => rfl)) (pv 1) (nomark _)))), ?_⟩
  · obtain ⟨fv, v, W, a, b, k, rfl, rfl, _⟩ := h
    rfl
  · obtain ⟨fv, v, W, a, b, k, rfl, rfl, hF, ok, ha, hb, hk, q⟩ := h
    obtain ⟨p, rfl, hp⟩ := pk_at hk
    obtain ⟨pf, r, xs, ys, rfl, sq, hx, sq2, hy⟩ := far_at hF ok ha hb
    refine ⟨_, rfl, _, rfl, p, _, (0 : Int), _, rfl, rfl, SqT.of hp, rfl, pf, xs, (a : Int), _, rfl, rfl, sq, at_nat hx, _, rfl, p, _, (1 : Int), _, rfl, rfl, SqT.of hp, rfl, r, ys, (b : Int), _, rfl, rfl, sq2, at_nat hy, _, rfl, scal_oV _ _, ?_⟩
    rw [dec_oV]
    exact q
end
end Nw
end
section
set_option maxRecDepth 100000
set_option maxHeartbeats 2000000
namespace Nw
open PySem PySem.Spec PyProof.Rows L2 LamX NdefX
/-- all pairs of places -/
theorem all_pairs (n : Nat) : ∃ u : List NestedKey, u.length = n * n ∧ ∀ a b, a < n → b < n → pk a b ∈ u := by
  refine ⟨(List.range (n * n)).map fun i => pk (i / n) (i % n), by simp, fun a b ha hb => ?_⟩
  refine List.mem_map.mpr ⟨a * n + b, List.mem_range.mpr ?_, ?_⟩
  · have : a * n + n ≤ n * n := by
      rw [← Nat.succ_mul]
      exact Nat.mul_le_mul_right n ha
    omega
  · have h1 : (a * n + b) / n = a := by
      rw [Nat.mul_comm, Nat.mul_add_div (by omega), Nat.div_eq_of_lt hb]
      rfl
    have h2 : (a * n + b) % n = b := by
      rw [Nat.mul_comm, Nat.mul_add_mod, Nat.mod_eq_of_lt hb]
    rw [h1, h2]
abbrev UP (W : Ways) (s : NestedKey) : Prop := ∃ a b, a < W.length ∧ b < W.length ∧ s = pk a b
theorem few_pairs {W : Ways} (ok : WOk W) {m u v : Nat} (hu : u < W.length) (hv : v < W.length) (j : Nat) : (Q (goK W) m (pk u v) j).length ≤ W.length * W.length := by
  obtain ⟨l, hl, hall⟩ := all_pairs W.length
  have key := nodup_le ((Q (goK W) m (pk u v) j).map (·.1)) l (Q_nodup _ _ _ j) fun x hx => by
    obtain ⟨r, hr, rfl⟩ := List.mem_map.mp hx
    obtain ⟨a, b, ha, hb, e⟩ := Q_in (goK W) m (pk u v) (U := UP W) ⟨u, v, hu, hv, rfl⟩ (fun s x hs _ => by
      obtain ⟨a, b, ha, hb, rfl⟩ := hs
      exact ⟨_, _, ledTo_lt ok ha, ledTo_lt ok hb, goK_pk W a b x⟩) j r hr
    rw [e]
    exact hall a b ha hb
  rw [List.length_map, hl] at key
  exact key
theorem goOk_pairs (w : World) {W : Ways} (ok : WOk W) (hn : W.length ≤ 100) (isE : NestedKey → Bool) {m u v : Nat} (hm : m ≤ 1000) (hu : u < W.length) (hv : v < W.length) : GoOk w (UP W) isE (goK W) m (pk u v) (W.length * W.length) where
  start := ⟨u, v, hu, hv, rfl⟩
  step := fun s x hs _ _ => by
    obtain ⟨a, b, ha, hb, rfl⟩ := hs
    exact ⟨_, _, ledTo_lt ok ha, ledTo_lt ok hb, goK_pk W a b x⟩
  kind := fun s hs => by
    obtain ⟨a, b, ha, hb, rfl⟩ := hs
    exact ⟨by simp [NestedKey.depth, NestedKey.depthAll], .inr ⟨_, rfl⟩⟩
  non := fun hs => by
    obtain ⟨a, b, ha, hb, e⟩ := hs
    cases e
  few := few_pairs ok hu hv
  small := by
    have : W.length * W.length ≤ 100 * 100 := Nat.mul_le_mul hn hn
    omega
  most := hm
/-- a word, or None -/
abbrev WordIs (H : Hp) (z : V) (r : Option (List Nat)) : Prop := match r with
  | none => z = .non
  | some l => ∃ p, z = .ref p ∧ H p = some (.lst (vN l))
section
variable {P : Program} {w : World} {K : PySem.W.Frag} {mg : Str → Option Value} {base : Heap} {f : Addr} {fd : FuncData}
/-- the first word by which they're k steps from one another -/
abbrev nearK (W : Ways) (u v k : Nat) : Option (List Nat) := fwRes (goK W) (mostW W + 1) (pk u v) (isNear W k) (W.length * W.length)
def sp_word_as_near (K : PySem.W.Frag) : Sp := fun vs H Q _ => ∃ (wv fv sv : V) (W : Ways) (u v k : Nat), vs = [wv, fv, sv, .int k] ∧ TabsN (Tn K) H ∧ Dp K H wv (dWays W) ∧ WOk W ∧ W.length ≤ 100 ∧ mostW W ≤ 1000 ∧ Dp K H fv (dFars W) ∧ u < W.length ∧ v < W.length ∧ KeyAt H (pk u v) sv ∧
  ∀ H' z, ExtN H H' → TabsN (Tn K) H' → WordIs H' z (nearK W u v k) → Q z H'
theorem sc_word_as_near : FnScope ["ways", "far", "start", "steps", "go", "is_end"] ["ways", "far", "start", "steps"] (defScope s_word_as_near) := ⟨rfl, rfl, rfl, by decide +kernel, rfl, by decide +kernel, by decide +kernel⟩
theorem extN_trans {H H1 H2 : Hp} (a : ExtN H H1) (b : ExtN H1 H2) : ExtN H H2 := fun c o e n => b c o (a c o e n) n
theorem same_ext {H H1 : Hp} (a : Same H H1) : ExtN H H1 := fun c o e _ => a c o e
theorem KeyAt.ext {H H' : Hp} {k : NestedKey} {v : V} (x : KeyAt H k v) (s : ExtN H H') : KeyAt H' k v := KeyAt.up (fun b xs e => s b _ e fun ps z => by cases z) k v x
theorem ok_word_as_near (TB : TabsB K mg base) (F : FnP K d_word_as_near (He.fAd K d_word_as_near.at_) fd) (G_first_word : HasS P w K mg 5 "first_word" ["start", "most", "go", "is_end"] (sp_first_word P w K mg)) (G_most_exits : Has P w K mg 1 "most_exits" ["ways"] (sp_most_exits K))
    (G_led_to : Has P w K mg 2 "led_to" ["ways", "place", "letter"] (sp_led_to K)) : FnOk P w K mg base CX0 6 (He.fAd K d_word_as_near.at_) fd ["ways", "far", "start", "steps"] (sp_word_as_near K) := by
  refine okC F sc_word_as_near (fun vs H Q E h => ?_) (fun A outer s H vs Q E hr h => ⟨_, PSs.nox
    (pss_cons (ps_ndefMS (st := n_wan_go) (T := Tn K) (nm := nmAll) (i := 4) rfl (TB ("word_as_near", none) (by decide)) rfl (List.mem_map.mpr ⟨("word_as_near", none), by decide, rfl⟩) nm85 (fun p hp => Tn_one K p hp _) (ndef_free (sc := defScope s_word_as_near) (nsc := C8.fnScope n_wan_go) (fr := ["ways"]) (by decide +kernel)) rfl rfl rfl sc_word_as_near.nd rfl (Or.inl rfl) (Or.inl rfl))
      (pss_cons (ps_ndefMS (st := n_wan_end) (T := Tn K) (nm := nmAll) (i := 5) rfl (TB ("word_as_near", none) (by decide)) rfl (List.mem_map.mpr ⟨("word_as_near", none), by decide, rfl⟩) nm88 (fun p hp => Tn_one K p hp _) (ndef_free (sc := defScope s_word_as_near) (nsc := C8.fnScope n_wan_end) (fr := ["steps", "far"]) (by decide +kernel)) rfl rfl rfl sc_word_as_near.nd rfl (Or.inl rfl) (Or.inl rfl))
      (pss_one (ps_ret (pe_hasS (cs := [(cloFrom (cellsFrom (s.heap.objs.size + 1) (defScope s_word_as_near).names []) (C8.fnScope n_wan_go).names [], ["ways"], [0]), (cloFrom (cellsFrom (s.heap.objs.size + 1) (defScope s_word_as_near).names []) (C8.fnScope n_wan_end).names [], ["steps", "far"], [3, 1])]) G_first_word hr (fun _ => rfl)
        (fun ok c hc => by
          rcases List.mem_cons.mp hc with e | hc
          · subst e
            exact Caps.made ok (ndef_free (sc := defScope s_word_as_near) (nsc := C8.fnScope n_wan_go) (fr := ["ways"]) (by decide +kernel)) (ndef_fr (sc := defScope s_word_as_near) (nsc := C8.fnScope n_wan_go) (fr := ["ways"]) (by decide +kernel)) rfl
          · rcases List.mem_cons.mp hc with e | hc
            · subst e
              exact Caps.made ok (ndef_free (sc := defScope s_word_as_near) (nsc := C8.fnScope n_wan_end) (fr := ["steps", "far"]) (by decide +kernel)) (ndef_fr (sc := defScope s_word_as_near) (nsc := C8.fnScope n_wan_end) (fr := ["steps", "far"]) (by decide +kernel)) rfl
            · cases hc)
        (pa_cons (pv 2) (pa_cons (pe_has G_most_exits hr (pa_cons (pv 0) pa_nil)) (pa_cons (pv 4) (pa_cons (pv 5) pa_nil))))))))), ?_⟩)
  · obtain ⟨wv, fv, sv, W, u, v, k, rfl, _⟩ := h
    rfl
  · obtain ⟨wv, fv, sv, W, u, v, k, rfl, hT, hW, ok, hn, hm, hF, hu, hv, hk, q⟩ := h
    refine ⟨hT, fun f1 c1 H1 e1 m1 t1 n1 hf1 hc1 => ⟨t1, fun f2 c2 H2 e2 m2 t2 n2 hf2 hc2 => ?_⟩⟩
    have e12 : ExtN H H2 := extN_trans e1 e2
    refine ⟨_, rfl, _, rfl, wv, W, rfl, hW.keep (extN_keep e12), by omega, by omega, fun H3 s3 => ⟨_, rfl, _, rfl, fun b hcl => ?_⟩⟩
    have e13 : ExtN H H3 := extN_trans e12 (same_ext s3)
    have cl1 := hcl _ List.mem_cons_self
    have cl2 := hcl _ (List.mem_cons_of_mem _ List.mem_cons_self)
    have hW3 : Dp K H3 wv (dWays W) := hW.keep (extN_keep e13)
    have hF3 : Dp K H3 fv (dFars W) := hF.keep (extN_keep e13)
    refine ⟨sv, mostW W, f1, f2, UP W, isNear W k, goK W, pk u v, W.length * W.length, rfl, KeyAt.ext hk e13, goOk_pairs w ok hn _ hm hu hv, ?_, ?_, fun H' z s4 hz => ?_⟩
    · refine ⟨F_wan_go _ c1, _, _, _, spn_wan_go K, s3 _ _ (e2 _ _ hf1 fnO_ne), s3 _ _ (e2 _ _ hc1 codeO_ne), cl1, (nok_wan_go G_led_to f1 _ c1).mono (by decide), fun vs H4 Q4 E4 h4 => ?_⟩
      obtain ⟨s5, z5, x5, rfl, s6, ⟨a, b5, ha, hb, rfl⟩, _, _, hk5, q5⟩ := h4
      exact ⟨wv, z5, W, a, b5, x5, rfl, rfl, hW3.same s6, ha, hb, hk5, q5⟩
    · refine ⟨F_wan_end _ c2, _, _, _, spn_wan_end K, s3 _ _ hf2, s3 _ _ hc2, cl2, (nok_wan_end f2 _ c2).mono (by decide), fun vs H4 Q4 E4 h4 => ?_⟩
      obtain ⟨s5, z5, rfl, s6, ⟨a, b5, ha, hb, rfl⟩, hk5, q5⟩ := h4
      exact ⟨fv, z5, W, a, b5, k, rfl, rfl, hF3.same s6, ok, ha, hb, hk5, q5 H4 (Same.refl _)⟩
    · exact q H' z (extN_trans e13 (same_ext s4)) (t2.ext fun b o e => s4 _ _ (s3 _ _ e)) hz
end
end Nw
end
section
set_option maxRecDepth 100000
set_option maxHeartbeats 2000000
namespace Nw
open PySem PySem.Spec PyProof.Rows L2 LamX NdefX
/-- a list of lists -/
structure LRows (H0 H : Hp) (p : Addr) (rs : List Addr) (M : Nat → List V) : Prop where
  here : H p = some (.lst (rs.map V.ref))
  np : H0 p = none
  row : ∀ (i : Nat) (r : Addr), rs[i]? = some r → r ≠ p ∧ H r = some (.lst (M i))
theorem LRows.more {H0 H H1 : Hp} {p r : Addr} {rs : List Addr} {M : Nat → List V} (R : LRows H0 H p rs M) (s : Same H H1) (nr : H r = none) (hr : H1 r = some (.lst (M rs.length))) : LRows H0 (upd H1 p (.lst (rs.map V.ref ++ [.ref r]))) p (rs ++ [r]) M := by
  have hrp : r ≠ p := fun e => by rw [e, R.here] at nr; cases nr
  refine ⟨by rw [upd_same, List.map_append]; rfl, R.np, fun i c hi => ?_⟩
  by_cases hl : i < rs.length
  · rw [List.getElem?_append_left hl] at hi
    obtain ⟨h1, h2⟩ := R.row i c hi
    exact ⟨h1, by rw [upd_ne h1]; exact s _ _ h2⟩
  · rw [List.getElem?_append_right (by omega)] at hi
    have e0 : i - rs.length = 0 := by
      have := (List.getElem?_eq_some_iff.mp hi).1
      simp at this
      omega
    rw [e0] at hi
    cases hi
    have : i = rs.length := by omega
    subst this
    exact ⟨hrp, by rw [upd_ne hrp]; exact hr⟩
theorem dOpt_all {K : PySem.W.Frag} {H : Hp} : ∀ (l : List (Option Nat)), DpAll K H (vO l) (l.map dOpt)
  | [] => .nil
  | none :: l => .cons .non (dOpt_all l)
  | some n :: l => .cons (.int _) (dOpt_all l)
theorem fars_dp {K : PySem.W.Frag} {W : Ways} {H0 H : Hp} {p : Addr} {rs : List Addr} (R : LRows H0 H p rs fun i => vO (allFar W i)) (hl : rs.length = W.length) : Dp K H (.ref p) (dFars W) := by
  refine .lst (SqL.of R.here) ?_
  have key : ∀ (m : List Addr) (o : Nat), (∀ (i : Nat) (b : Addr), m[i]? = some b → H b = some (.lst (vO (allFar W (o + i))))) → DpAll K H (m.map V.ref) ((List.range m.length).map fun i => .list ((allFar W (o + i)).map dOpt)) := by
    intro m
    induction m with
    | nil => exact fun _ _ => .nil
    | cons b m ih =>
      intro o h
      rw [List.map_cons, List.length_cons, List.range_succ_eq_map, List.map_cons, List.map_map]
      refine .cons (.lst (SqL.of (h 0 b rfl)) (dOpt_all _)) ?_
      have := ih (o + 1) fun i c hi => by
        have := h (i + 1) c hi
        rw [show o + 1 + i = o + (i + 1) by omega]
        exact this
      have e : ((fun i => PyData.list ((allFar W (o + i)).map dOpt)) ∘ Nat.succ) = fun i => PyData.list ((allFar W (o + 1 + i)).map dOpt) := by
        funext i
        show PyData.list ((allFar W (o + (i + 1))).map dOpt) = _
        rw [show o + 1 + i = o + (i + 1) by omega]
      rw [e]
      exact this
  have := key rs 0 fun i b hi => by
    rw [Nat.zero_add]
    exact (R.row i b hi).2
  have e : (fun i => PyData.list ((allFar W (0 + i)).map dOpt)) = fun i => PyData.list ((allFar W i).map dOpt) := by
    funext i
    rw [Nat.zero_add]
  rw [e, hl] at this
  exact this
/-- the pair itself is as near as it is far -/
theorem nearK_some {W : Ways} {u v k : Nat} (h : (allFar W u).getD v none = some k) : nearK W u v k = some [] := by
  have e : (Q (goK W) (mostW W + 1) (pk u v) (W.length * W.length)).find? (fun r => isNear W k r.1) = some (pk u v, []) := find_prefix (l := []) (x := (pk u v, [])) (Q_mono _ _ _ (Nat.zero_le _)) (fun y hy => nomatch hy) (by
    show isNear W k (pk u v) = true
    rw [isNear_pk, h]
    simp)
  show ((Q (goK W) (mostW W + 1) (pk u v) (W.length * W.length)).find? (fun r => isNear W k r.1)).map (·.2) = some []
  rw [e]
  rfl
section
variable {P : Program} {w : World} {K : PySem.W.Frag} {mg : Str → Option Value} {base : Heap} {f : Addr} {fd : FuncData}
def sp_nearest (K : PySem.W.Frag) : Sp := fun vs H Q _ => ∃ (wv : V) (W : Ways) (u v k0 : Nat), vs = [wv, .int u, .int v] ∧ TabsN (Tn K) H ∧ Dp K H wv (dWays W) ∧ WOk W ∧ W.length ≤ 100 ∧ mostW W ≤ 1000 ∧ u < W.length ∧ v < W.length ∧ (allFar W u).getD v none = some k0 ∧
  ∀ H' t p k l, ExtN H H' → TabsN (Tn K) H' → (∀ i, i < k → nearK W u v i = none) → nearK W u v k = some l → H' t = some (.tup [.int (k : Int), .ref p]) → H' p = some (.lst (vN l)) → Q (.ref t) H'
theorem sc_nearest : FnScope ["ways", "u", "v", "far", "steps", "word", "place"] ["ways", "u", "v"] (defScope s_nearest) := ⟨rfl, rfl, rfl, by decide +kernel, rfl, by decide +kernel, by decide +kernel⟩
theorem ok_nearest (T : Tx K mg) (TB : TabsB K mg base) (F : FnP K d_nearest f fd) (G_distances_from : Has P w K mg 2 "distances_from" ["ways", "start"] (sp_distances_from K)) (G_word_as_near : HasB P w K mg (TabsB K mg) 6 "word_as_near" ["ways", "far", "start", "steps"] (sp_word_as_near K)) : FnOk P w K mg base CX0 7 f fd ["ways", "u", "v"] (sp_nearest K) := by
  refine F.ok sc_nearest (fun vs H Q E h => ?_) (fun cdv A outer s H vs Q E hr h => ⟨_, PSs.nox
    (pss_cons (ps_setLc (i := 3) (own := [("place", 6)]) (by rfl) sc_nearest.nd rfl rfl (sw_true rfl rfl rfl (by decide +kernel)) (pi_range1 (by rfl) T.f_range (pa_cons (pe_callB call_len_seq (by rfl) T.f_len PySem.boot_len (pa_cons (pv 0) pa_nil)) pa_nil)) (blkOk_by (own := [("place", 6)]) (N := ["ways", "u", "v", "far", "steps", "word", "place"]) (sc := defScope s_nearest) (by decide +kernel)) (fun _ _ _ _ _ => (pg_name (i := 6) sc_nearest.nd rfl (Or.inl rfl))) (fun _ _ _ _ _ => pts_nil) (fun _ _ _ _ _ => (pe_has G_distances_from hr (pa_cons (pv 0) (pa_cons (pv 6) pa_nil)))))
      (pss_cons (ps_set (i := 4) sc_nearest.nd rfl (Or.inl rfl) pe_int)
      (pss_cons (ps_set (i := 5) sc_nearest.nd rfl (Or.inl rfl) (pe_hasB G_word_as_near TB hr (by decide) pass0 (by rfl) (pa_cons (pv 0) (pa_cons (pv 3) (pa_cons (pe_tup (pa_cons (pv 1) (pa_cons (pv 2) pa_nil))) (pa_cons (pv 4) pa_nil))))))
      (pss_cons (ps_while PassesOwn.never (pt_cmpR op_isN (pv 5) pe_non (nomark _)) (pss_cons (ps_set (i := 4) sc_nearest.nd rfl (Or.inl rfl) (pe_op op_add (pv 4) pe_int))
      (pss_one (ps_set (i := 5) sc_nearest.nd rfl (Or.inl rfl) (pe_hasB G_word_as_near TB hr (by decide) pass0 (by rfl) (pa_cons (pv 0) (pa_cons (pv 3) (pa_cons (pe_tup (pa_cons (pv 1) (pa_cons (pv 2) pa_nil))) (pa_cons (pv 4) pa_nil)))))))))
      (pss_one (ps_ret (pe_tup (pa_cons (pv 4) (pa_cons (pv 5) pa_nil))))))))), ?_⟩)
  · obtain ⟨wv, W, u, v, k0, rfl, _⟩ := h
    rfl
  · obtain ⟨wv, W, u, v, k0, rfl, hT, hW, ok, hn, hm, hu, hv, hk0, q⟩ := h
    obtain ⟨a, xs, rfl, sq, al⟩ := hW.lst_of
    have hxl : xs.length = W.length := by rw [al.len, List.length_map]
    refine ⟨_, rfl, a, xs, rfl, .inl sq, (xs.length : Int), rfl, by omega, by omega, fun D nD => lc_range (lo := 0) (n := ((xs.length : Int) - 0).toNat) (fun i H' => Same H H' ∧ ∃ rs, rs.length = i ∧ LRows H H' D rs fun i => vO (allFar W i)) ?_ ?_ ?_⟩
    · exact ⟨Same.new nD, [], rfl, upd_same, nD, fun i r hi => by simp at hi⟩
    · rintro i H' hi ⟨s1, rs, hrl, R⟩
      have hi' : i < W.length := by omega
      show gName 6 (.int ((0 : Int) + (i : Int))) _ _ _
      rw [Int.zero_add]
      refine ⟨rfl, yes_of (iteT ⟨_, rfl, _, rfl, .ref a, W, i, rfl, hW.same s1, ok, by omega, hi', fun H2 r s2 nr hr => ⟨rs.map V.ref, s2 _ _ R.here, ?_, ?_, ?_⟩⟩)⟩
      · rw [List.length_map, hrl]
        exact Nat.lt_of_lt_of_le (show i < 101 by omega) (by decide)
      · exact (s1.trans s2).upd R.np
      · exact ⟨rs ++ [r], by simp [hrl], R.more s2 nr (by rw [hrl]; exact hr)⟩
    · rintro H1 ⟨s1, rs, hrl, R⟩
      have en : ((xs.length : Int) - 0).toNat = W.length := by omega
      rw [en] at hrl
      have hF1 : Dp K H1 (.ref D) (dFars W) := fars_dp R hrl
      have hT1 : TabsN (Tn K) H1 := hT.ext fun b o e => s1 b o e
      -- steps = 0; word = word_as_near(..)
      refine ⟨_, rfl, _, rfl, _, rfl, _, rfl, (by show 2 ≤ sizeLine; decide), fun t nt => ?_⟩
      have s2 : Same H1 (upd H1 t (.tup [.int (u : Int), .int (v : Int)])) := Same.new nt
      refine ⟨_, rfl, .ref a, .ref D, .ref t, W, u, v, 0, rfl, hT1.ext fun b o e => s2 b o e, hW.same (s1.trans s2), ok, hn, hm, hF1.same s2, hu, hv, pk_of upd_same, fun H2 z e2 t2 hz => ?_⟩
      have e12 : ExtN H H2 := extN_trans (same_ext (s1.trans s2)) e2
      have hF2 : Dp K H2 (.ref D) (dFars W) := (hF1.same s2).keep (extN_keep e2)
      refine while_by (fun σ H' => ∃ (k : Nat) (z z1 : Option V) (zv : V), z = some zv ∧ σ = [some (.ref a), some (.int u), some (.int v), some (.ref D), some (.int (k : Int)), z, z1] ∧ k ≤ k0 ∧ ExtN H H' ∧ TabsN (Tn K) H' ∧ Dp K H' (.ref D) (dFars W) ∧ (∀ i, i < k → nearK W u v i = none) ∧ WordIs H' zv (nearK W u v k))
        (fun σ _ => k0 + 1 - slotI σ 4) ⟨0, _, _, z, rfl, rfl, Nat.zero_le _, e12, t2, hF2, fun i hi => absurd hi (Nat.not_lt_zero _), hz⟩ ?_ ?_
      · rintro σ H3 ⟨k, _, z1, zv, rfl, rfl, hk, e13, t3, hF3, hno, hz3⟩
        refine ⟨_, rfl, rfl, _, rfl, ?_⟩
        cases hr3 : nearK W u v k with
        | none =>
          have ez : zv = .non := by
            have := hz3
            unfold WordIs at this
            rw [hr3] at this
            exact this
          subst ez
          refine if_true_of (decide_eq_true rfl) ?_
          have hlt : k < k0 := by
            rcases Nat.lt_or_ge k k0 with h5 | h5
            · exact h5
            · have : k = k0 := by omega
              subst this
              rw [nearK_some hk0] at hr3
              cases hr3
          refine ⟨_, rfl, _, _, rfl, rfl, ?_⟩
          refine ⟨_, rfl, _, rfl, _, rfl, _, rfl, (by show 2 ≤ sizeLine; decide), fun t' nt' => ?_⟩
          have s4 : Same H3 (upd H3 t' (.tup [.int (u : Int), .int (v : Int)])) := Same.new nt'
          refine ⟨_, rfl, .ref a, .ref D, .ref t', W, u, v, k + 1, rfl, t3.ext fun b o e => s4 b o e, (hW.keep (extN_keep e13)).same s4, ok, hn, hm, hF3.same s4, hu, hv, pk_of upd_same, fun H4 z' e4 t4 hz4 => ?_⟩
          refine ⟨⟨k + 1, _, _, z', rfl, rfl, hlt, extN_trans e13 (extN_trans (same_ext s4) e4), t4, (hF3.same s4).keep (extN_keep e4), fun i hi => ?_, hz4⟩, ?_⟩
          · rcases Nat.lt_or_ge i k with h5 | h5
            · exact hno i h5
            · have : i = k := by omega
              subst this
              exact hr3
          · show k0 + 1 - ((k : Int) + 1).toNat < k0 + 1 - (k : Int).toNat
            omega
        | some l =>
          obtain ⟨p, rfl, hp⟩ : ∃ p, zv = .ref p ∧ H3 p = some (.lst (vN l)) := by
            have := hz3
            unfold WordIs at this
            rw [hr3] at this
            exact this
          refine if_false_of (decide_eq_false (fun z => by cases z)) ?_
          refine ⟨_, rfl, _, rfl, (by show 2 ≤ sizeLine; decide), fun t' nt' => ?_⟩
          have s4 : Same H3 (upd H3 t' (.tup [.int (k : Int), .ref p])) := Same.new nt'
          exact q _ t' p k l (extN_trans e13 (same_ext s4)) (t3.ext fun b o e => s4 b o e) hno hr3 upd_same (s4 _ _ hp)
      · rintro σ H3 Q1 Q2 hQ ⟨x1, h1, h2, b, h3, h4⟩
        exact ⟨x1, h1, h2, b, h3, hQ _ _ h4⟩
end
end Nw
end
section
set_option maxRecDepth 100000
set_option maxHeartbeats 2000000
namespace Nw
open PySem PySem.Spec PyProof.Rows L2 LamX NdefX
abbrev fstW (W : Ways) (u d : Nat) (l : List Nat) : List Nat := walkedW W u (l ++ List.replicate d 0)
abbrev sndW (W : Ways) (v d : Nat) (l : List Nat) : List Nat := walkedW W v (List.replicate d 0 ++ l)
def meetK (W : Ways) (u v d : Nat) (l : List Nat) : Option Nat := (List.range (l.length + d + 1)).find? fun k => decide ((sndW W v d l).getD k 0 = (fstW W u d l).getD k 0)
theorem rep_zero (d : Nat) : (List.replicate d [V.int 0]).flatten = vN (List.replicate d 0) := by
  rw [rep_flat, vN, List.map_replicate]
  rfl
theorem vN_app (l m : List Nat) : vN (l ++ m) = vN l ++ vN m := List.map_append ..
section
variable {P : Program} {w : World} {K : PySem.W.Frag} {mg : Str → Option Value} {base : Heap} {f : Addr} {fd : FuncData}
def sp_meeting (K : PySem.W.Frag) : Sp := fun vs H Q _ => ∃ (wv : V) (wa : Addr) (W : Ways) (u v d : Nat) (l : List Nat), vs = [wv, .int u, .int v, .int d, .ref wa] ∧ Dp K H wv (dWays W) ∧ WOk W ∧ u < W.length ∧ v < W.length ∧ d ≤ 100 ∧ H wa = some (.lst (vN l)) ∧ l.length ≤ 100 ∧
  (∀ H', Same H H' → meetK W u v d l = none → Q .non H') ∧ (∀ H' t k, Same H H' → meetK W u v d l = some k → H' t = some (.tup [.int (k : Int), .int ((fstW W u d l).getD k 0 : Nat)]) → Q (.ref t) H')
theorem sc_meeting : FnScope ["ways", "u", "v", "later", "word", "waiting", "first", "second", "steps", "place"] ["ways", "u", "v", "later", "word"] (defScope s_meeting) := ⟨rfl, rfl, rfl, by decide +kernel, rfl, by decide +kernel, by decide +kernel⟩
theorem ok_meeting (T : Tx K mg) (F : FnP K d_meeting f fd) (G_walked : Has P w K mg 3 "walked" ["ways", "start", "word"] (sp_walked K)) : FnOk P w K mg base CX0 4 f fd ["ways", "u", "v", "later", "word"] (sp_meeting K) := by
  refine F.ok sc_meeting (fun vs H Q E h => ?_) (fun cdv A outer s H vs Q E hr h => ⟨_, PSs.nox
    (pss_cons (ps_set (i := 5) sc_meeting.nd rfl (Or.inl rfl) (pe_op op_rep (pe_lst (pa_cons pe_int pa_nil)) (pv 3)))
      (pss_cons (ps_set (i := 6) sc_meeting.nd rfl (Or.inl rfl) (pe_has G_walked hr (pa_cons (pv 0) (pa_cons (pv 1) (pa_cons (pe_op op_cat (pv 4) (pv 5)) pa_nil)))))
      (pss_cons (ps_set (i := 7) sc_meeting.nd rfl (Or.inl rfl) (pe_has G_walked hr (pa_cons (pv 0) (pa_cons (pv 2) (pa_cons (pe_op op_cat (pv 5) (pv 4)) pa_nil)))))
      (pss_cons (ps_for PassesOwn.never rfl (pi_enum (by rfl) T.f_enumerate (pa_cons (pv 6) pa_nil)) (pg_tup rfl (pgs_cons (pg_name (i := 8) sc_meeting.nd rfl (Or.inl rfl)) (pgs_cons (pg_name (i := 9) sc_meeting.nd rfl (Or.inl rfl)) pgs_nil))) (pss_one (ps_if (pt_cmpR op_eq (pe_ix ix_list (pv 7) (pv 8) (fun _ _ => rfl)) (pv 9) (nomark _)) (pss_one (ps_ret (pe_tup (pa_cons (pv 8) (pa_cons (pv 9) pa_nil))))) pss_nil)))
      (pss_one (ps_ret pe_non)))))), ?_⟩)
  · obtain ⟨wv, wa, W, u, v, d, l, rfl, _⟩ := h
    rfl
  · obtain ⟨wv, wa, W, u, v, d, l, rfl, hW, ok, hu, hv, hd, hwa, hl, qN, qS⟩ := h
    -- waiting = [0] * later
    refine ⟨(by show 1 ≤ sizeLine; decide), fun p0 np0 => ⟨_, rfl, p0, (d : Int), [.int 0], rfl, rfl, upd_same, by omega, by omega, by show 1 * (d : Int).toNat ≤ sizeLine; exact Nat.le_trans (show 1 * (d : Int).toNat ≤ 100 by omega) (by decide), fun pw npw => ?_⟩⟩
    have ed : ((d : Int)).toNat = d := by omega
    rw [ed, rep_zero]
    have s0 : Same H (upd H p0 (.lst [.int 0])) := Same.new np0
    have nw0 := s0.free npw
    have s1 : Same H (upd (upd H p0 (.lst [.int 0])) pw (.lst (vN (List.replicate d 0)))) := s0.upd nw0
    have hlr : (List.replicate d 0).length = d := List.length_replicate
    -- first = walked(ways, u, word + waiting)
    refine ⟨_, rfl, _, rfl, _, rfl, _, rfl, wa, pw, _, _, rfl, rfl, s1 _ _ hwa, upd_same, by rw [vN_len, vN_len, hlr]; exact Nat.le_trans (show l.length + d ≤ 200 by omega) (by decide), fun p1 np1 => ?_⟩
    have n1 := s1.free np1
    have s2 := s1.upd (o := .lst (vN l ++ vN (List.replicate d 0))) n1
    refine ⟨wv, .ref p1, W, u, l ++ List.replicate d 0, rfl, hW.same s2, ok, hu, ⟨p1, rfl, SqL.of (by rw [upd_same, vN_app])⟩, by rw [List.length_append, hlr]; omega, fun H2 pf s3 npf hf => ?_⟩
    have s4 : Same H H2 := s2.trans s3
    -- second = walked(ways, v, waiting + word)
    have hpw2 : H2 pw = some (.lst (vN (List.replicate d 0))) := by
      refine s3 _ _ ?_
      rw [upd_ne (fun (e : pw = p1) => by rw [← e, upd_same] at np1; cases np1), upd_same]
    refine ⟨_, rfl, _, rfl, _, rfl, _, rfl, pw, wa, _, _, rfl, rfl, hpw2, s4 _ _ hwa, by rw [vN_len, vN_len, hlr]; exact Nat.le_trans (show d + l.length ≤ 200 by omega) (by decide), fun p2 np2 => ?_⟩
    have n2 := s4.free np2
    have s5 := s4.upd (o := .lst (vN (List.replicate d 0) ++ vN l)) n2
    refine ⟨wv, .ref p2, W, v, List.replicate d 0 ++ l, rfl, hW.same s5, ok, hv, ⟨p2, rfl, SqL.of (by rw [upd_same, vN_app])⟩, by rw [List.length_append, hlr]; omega, fun H3 ps s6 nps hs => ?_⟩
    have s7 : Same H H3 := s5.trans s6
    have hf3 : H3 pf = some (.lst (vN (fstW W u d l))) := by
      refine s6 _ _ ?_
      rw [upd_ne (ne_of_none hf np2)]
      exact hf
    have lf : (fstW W u d l).length = l.length + d + 1 := by rw [walkedW_len, List.length_append, hlr]
    have ls : (sndW W v d l).length = l.length + d + 1 := by rw [walkedW_len, List.length_append, hlr]; omega
    have hvl : (vN (fstW W u d l)).length = l.length + d + 1 := by rw [vN_len, lf]
    refine ⟨_, rfl, pf, _, rfl, SqL.of hf3, for_it (walk_enum (xs := vN (fstW W u d l))) (fun i σ H4 => ∃ z1 z2 : Option V, σ = [some wv, some (.int u), some (.int v), some (.int d), some (.ref wa), some (.ref pw), some (.ref pf), some (.ref ps), z1, z2] ∧ Same H3 H4 ∧ ∀ j, j < i → (sndW W v d l).getD j 0 ≠ (fstW W u d l).getD j 0) ⟨none, none, rfl, Same.refl _, fun j hj => absurd hj (Nat.not_lt_zero _)⟩ (fun i σ H4 _ ⟨_, _, _, s8, _⟩ => s8.keep.sqL (SqL.of hf3)) ?_ ?_⟩
    · rintro i x σ H4 H5 hi ⟨z1, z2, rfl, s8, hall⟩ hy
      obtain ⟨t, y0, y, rfl, nt, rfl, hy0, hy⟩ := hy
      have hy0 : some (V.int (i : Nat)) = some y0 := hy0
      cases hy0
      have hy : (vN (fstW W u d l))[i]? = some y := hy
      rw [hvl] at hi
      obtain ⟨n5, hn5, rfl⟩ := vN_of hy
      have en5 : (fstW W u d l).getD i 0 = n5 := getD_of hn5
      have s9 : Same H3 (upd H4 t (.tup [.int (i : Nat), .int (n5 : Int)])) := s8.upd (s8.free nt)
      have gs : (sndW W v d l)[i]? = some ((sndW W v d l).getD i 0) := by
        rw [List.getD_eq_getElem?_getD, List.getElem?_eq_getElem (by rw [ls]; exact hi)]
        rfl
      refine ⟨t, _, rfl, SqT.of upd_same, rfl, _, _, rfl, _, _, rfl, rfl, ?_⟩
      refine ⟨_, rfl, _, rfl, ps, _, (i : Int), _, rfl, rfl, SqL.of (s9 _ _ hs), at_nat (vN_get gs), _, rfl, rfl, _, rfl, ?_⟩
      by_cases c : (sndW W v d l).getD i 0 = n5
      · refine if_true_of (decide_eq_true (by rw [c])) ⟨_, rfl, _, rfl, (by show 2 ≤ sizeLine; decide), fun t' nt' => ?_⟩
        have e : meetK W u v d l = some i := by
          unfold meetK
          rw [List.find?_range_eq_some]
          exact ⟨decide_eq_true (by rw [c, en5]), List.mem_range.mpr hi, fun j hj => by
            have := hall j hj
            simpa using this⟩
        refine qS _ t' i (s7.trans (s9.trans (Same.new nt'))) e ?_
        rw [upd_same, en5]
      · refine if_false_of (decide_eq_false (fun z => c (by injection z with z; omega))) ⟨_, _, rfl, s9, fun j hj => ?_⟩
        rcases Nat.lt_or_ge j i with h5 | h5
        · exact hall j h5
        · have : j = i := by omega
          subst this
          rw [en5]
          exact c
    · rintro σ H4 ⟨z1, z2, rfl, s8, hall⟩
      rw [hvl] at hall
      refine qN _ (s7.trans s8) ?_
      unfold meetK
      rw [List.find?_eq_none]
      intro j hj
      have := hall j (List.mem_range.mp hj)
      simpa using this
end
end Nw
end
section
set_option maxRecDepth 100000
set_option maxHeartbeats 2000000
namespace Nw
open PySem PySem.Spec PyProof.Rows L2 LamX NdefX
abbrev kN (l : List Nat) : List NestedKey := l.map fun (n : Nat) => NestedKey.num (n : Int)
def unN : NestedKey → Nat
  | .num i => i.toNat
  | _ => 0
theorem unN_kN : ∀ l : List Nat, (kN l).map unN = l
  | [] => rfl
  | n :: l => by
    rw [kN, List.map_cons, List.map_cons]
    have := unN_kN l
    rw [kN] at this
    rw [this]
    rfl
abbrev mk3 (a b : Nat) (l : List Nat) : NestedKey := .tup [.num (a : Int), .num (b : Int), .tup (kN l)]
abbrev step3 (W : Ways) (a b : Nat) (l : List Nat) (x : Nat) : NestedKey := mk3 (ledTo W a x) (ledTo W b ((l ++ [x]).headD 0)) (l ++ [x]).tail
def goM (W : Ways) : NestedKey → Nat → NestedKey
  | .tup [.num a, .num b, .tup ls], x => step3 W a.toNat b.toNat (ls.map unN) x
  | k, _ => k
theorem goM_mk (W : Ways) (a b : Nat) (l : List Nat) (x : Nat) : goM W (mk3 a b l) x = step3 W a b l x := by
  show step3 W a b ((kN l).map unN) x = _
  rw [unN_kN]
def isMet : NestedKey → Bool
  | .tup (.num a :: .num b :: _) => decide (a.toNat = b.toNat)
  | _ => false
theorem isMet_mk (a b : Nat) (l : List Nat) : isMet (mk3 a b l) = decide (a = b) := rfl
/-- all words of so many letters -/
def words (m : Nat) : Nat → List (List Nat)
  | 0 => [[]]
  | d + 1 => (List.range m).flatMap fun x => (words m d).map (x :: ·)
theorem flat_len {α β : Type} (f : α → List β) (c : Nat) : ∀ l : List α, (∀ x ∈ l, (f x).length = c) → (l.flatMap f).length = l.length * c
  | [], _ => by simp
  | x :: l, h => by
    rw [List.flatMap_cons, List.length_append, h x List.mem_cons_self, flat_len f c l fun y hy => h y (List.mem_cons_of_mem _ hy), List.length_cons, Nat.succ_mul]
    omega
theorem words_len (m : Nat) : ∀ d, (words m d).length = m ^ d
  | 0 => rfl
  | d + 1 => by
    rw [words, flat_len _ (m ^ d) _ fun x _ => by rw [List.length_map, words_len m d], List.length_range, Nat.pow_succ, Nat.mul_comm]
theorem words_mem (m : Nat) : ∀ (l : List Nat), (∀ x ∈ l, x < m) → l ∈ words m l.length
  | [], _ => by simp [words]
  | x :: l, h => by
    rw [List.length_cons, words]
    exact List.mem_flatMap.mpr ⟨x, List.mem_range.mpr (h x List.mem_cons_self), List.mem_map.mpr ⟨l, words_mem m l fun y hy => h y (List.mem_cons_of_mem _ hy), rfl⟩⟩
abbrev numM (n m d : Nat) : Nat := n * (n * m ^ d)
theorem all_mk3 (n m d : Nat) : ∃ u : List NestedKey, u.length = numM n m d ∧ ∀ a b l, a < n → b < n → l.length = d → (∀ x ∈ l, x < m) → mk3 a b l ∈ u := by
  refine ⟨(List.range n).flatMap fun a => (List.range n).flatMap fun b => (words m d).map (mk3 a b), ?_, fun a b l ha hb hl hx => ?_⟩
  · rw [flat_len _ (n * m ^ d) _ fun a _ => ?_, List.length_range]
    rw [flat_len _ (m ^ d) _ fun b _ => by rw [List.length_map, words_len], List.length_range]
  · refine List.mem_flatMap.mpr ⟨a, List.mem_range.mpr ha, List.mem_flatMap.mpr ⟨b, List.mem_range.mpr hb, List.mem_map.mpr ⟨l, ?_, rfl⟩⟩⟩
    rw [← hl]
    exact words_mem m l hx
abbrev UM (W : Ways) (m d : Nat) (s : NestedKey) : Prop := ∃ a b l, a < W.length ∧ b < W.length ∧ l.length = d ∧ (∀ x ∈ l, x < m) ∧ s = mk3 a b l
theorem UM_step {W : Ways} (ok : WOk W) {m d : Nat} {s : NestedKey} {x : Nat} (hx : x < m) (hs : UM W m d s) : UM W m d (goM W s x) := by
  obtain ⟨a, b, l, ha, hb, hl, hm, rfl⟩ := hs
  refine ⟨_, _, _, ledTo_lt ok ha, ledTo_lt ok hb, ?_, fun y hy => ?_, goM_mk W a b l x⟩
  · rw [List.length_tail, List.length_append, hl]
    rfl
  · have := List.mem_of_mem_tail hy
    rcases List.mem_append.mp this with h | h
    · exact hm y h
    · simp only [List.mem_singleton] at h
      omega
theorem few_mk3 {W : Ways} (ok : WOk W) {m d u v : Nat} {l : List Nat} (hu : u < W.length) (hv : v < W.length) (hl : l.length = d) (hx : ∀ x ∈ l, x < m) (j : Nat) : (Q (goM W) m (mk3 u v l) j).length ≤ numM W.length m d := by
  obtain ⟨us, hus, hall⟩ := all_mk3 W.length m d
  have key := nodup_le ((Q (goM W) m (mk3 u v l) j).map (·.1)) us (Q_nodup _ _ _ j) fun x hx => by
    obtain ⟨r, hr, rfl⟩ := List.mem_map.mp hx
    obtain ⟨a, b, l2, ha, hb, h1, h2, e⟩ := Q_in (goM W) m (mk3 u v l) (U := UM W m d) ⟨u, v, l, hu, hv, hl, ‹_›, rfl⟩ (fun s x hs hx => UM_step ok hx hs) j r hr
    rw [e]
    exact hall a b l2 ha hb h1 h2
  rw [List.length_map, hus] at key
  exact key
theorem kN_depth : ∀ l : List Nat, NestedKey.depthAll (kN l) = 0
  | [] => by simp [kN, NestedKey.depthAll]
  | n :: l => by
    have := kN_depth l
    rw [kN] at this ⊢
    rw [List.map_cons, NestedKey.depthAll, this]
    simp [NestedKey.depth]
theorem goOk_mk3 (w : World) {W : Ways} (ok : WOk W) (hn : W.length ≤ 10) {m u v : Nat} {l : List Nat} (hm : m ≤ 9) (hu : u < W.length) (hv : v < W.length) (hl : l.length ≤ 2) (hx : ∀ x ∈ l, x < m + 1) : GoOk w (UM W (m + 1) l.length) isMet (goM W) m (mk3 u v l) (numM W.length (m + 1) l.length) where
  start := ⟨u, v, l, hu, hv, rfl, hx, rfl⟩
  step := fun s x hs _ hx => UM_step ok (Nat.lt_succ_of_le hx) hs
  kind := fun s hs => by
    obtain ⟨a, b, l2, ha, hb, _, _, rfl⟩ := hs
    refine ⟨?_, .inr ⟨_, rfl⟩⟩
    simp only [NestedKey.depth, NestedKey.depthAll, kN_depth]
    decide
  non := fun hs => by
    obtain ⟨a, b, l2, ha, hb, _, _, e⟩ := hs
    cases e
  few := few_mk3 ok hu hv rfl hx
  small := by
    have h1 : (m + 1) ^ l.length ≤ 10 ^ 2 := Nat.le_trans (Nat.pow_le_pow_left (show m + 1 ≤ 10 by omega) _) (Nat.pow_le_pow_right (by decide) hl)
    have h2 : W.length * (m + 1) ^ l.length ≤ 10 * 10 ^ 2 := Nat.mul_le_mul hn h1
    have h3 : W.length * (W.length * (m + 1) ^ l.length) ≤ 10 * (10 * 10 ^ 2) := Nat.mul_le_mul hn h2
    exact Nat.le_trans h3 (by decide)
  most := by omega
theorem kN_at {H : Hp} : ∀ (l : List Nat) (vs : List V), KeysAt H (kN l) vs → vs = vN l
  | [], _, h => by cases h; rfl
  | n :: l, _, h => by
    cases h with
    | cons k1 k2 =>
      cases k1
      rw [kN_at l _ k2]
      rfl
theorem kN_of {H : Hp} : ∀ (l : List Nat), KeysAt H (kN l) (vN l)
  | [] => .nil
  | n :: l => .cons (.num _) (kN_of l)
theorem mk3_at {H : Hp} {a b : Nat} {l : List Nat} {v : V} (h : KeyAt H (mk3 a b l) v) : ∃ p q, v = .ref p ∧ H p = some (.tup [.int (a : Int), .int (b : Int), .ref q]) ∧ H q = some (.tup (vN l)) := by
  cases h with
  | tup h1 h2 =>
    cases h2 with
    | cons k1 k2 =>
      cases k1
      cases k2 with
      | cons k3 k4 =>
        cases k3
        cases k4 with
        | cons k5 k6 =>
          cases k6
          cases k5 with
          | tup h3 h4 =>
            rw [kN_at l _ h4] at h3
            exact ⟨_, _, rfl, h1, h3⟩
theorem mk3_of {H : Hp} {p q : Addr} {a b : Nat} {l : List Nat} (h : H p = some (.tup [.int (a : Int), .int (b : Int), .ref q])) (hq : H q = some (.tup (vN l))) : KeyAt H (mk3 a b l) (.ref p) := .tup h (.cons (.num _) (.cons (.num _) (.cons (.tup hq (kN_of l)) .nil)))
abbrev n_mw_go : Stmt := (defBody s_meeting_word).getD 0 (.Pass ⟨0, 0, 0, 0⟩)
abbrev n_mw_end : Stmt := (defBody s_meeting_word).getD 1 (.Pass ⟨0, 0, 0, 0⟩)
abbrev F_mw_go (cl : List (Str × Addr)) (c : Addr) : NF := NF.of n_mw_go "go" (("meeting_word" : Str) ++ ".<locals>." ++ "go") cl c
abbrev F_mw_end (cl : List (Str × Addr)) (c : Addr) : NF := NF.of n_mw_end "is_end" (("meeting_word" : Str) ++ ".<locals>." ++ "is_end") cl c
theorem catA_one {K : PySem.W.Frag} {xs : List V} {y : V} {H : Hp} {a b : Addr} {R : VK} (ha : H a = some (.tup xs)) (hb : H b = some (.tup [y])) (hz : xs.length + 1 ≤ sizeLine) (h : ∀ pb H2, Same H H2 → H2 pb = some (.tup (xs ++ [y])) → R (.ref pb) H2) : rCatA K (.ref a) (.ref b) H R :=
  ⟨a, b, xs, [y], rfl, rfl, SqT.of ha, SqT.of hb, hz, fun e => h b H (Same.refl _) (by rw [e]; exact hb), fun _ e => (nomatch e), fun _ _ p np => h p _ (Same.new np) upd_same⟩
theorem repT_zero {K : PySem.W.Frag} {H : Hp} {a : Addr} {d : Nat} {R : VK} (ha : H a = some (.tup [.int 0])) (hd : d ≤ 1000) (h : ∀ pz Hz, Same H Hz → Hz pz = some (.tup (vN (List.replicate d 0))) → R (.ref pz) Hz) : rRepT3 K (.ref a) (.int (d : Int)) H R := by
  refine ⟨a, d, .int 0, rfl, rfl, SqT.of ha, hd, fun e => h a _ (Same.refl _) (by rw [e]; exact ha), fun _ p np => h p _ (Same.new np) ?_⟩
  rw [upd_same, vN, List.map_replicate]
  rfl
theorem cut_tail (n : V) (l : List V) : cutV (n :: l) (some 1) none = l := by
  unfold cutV
  have e1 : HT.sIx (n :: l).length 0 (some 1) = 1 := by
    rw [show (some (1 : Int)) = some ((1 : Nat) : Int) from rfl, HT.sIx_nat]
    simp
  rw [e1, HT.sIx_none]
  simp
section
variable {P : Program} {w : World} {K : PySem.W.Frag} {mg : Str → Option Value} {base : Heap} {f : Addr} {fd : FuncData}
def spn_mw_go (K : PySem.W.Frag) (ws : List (Option V)) : Sp := fun vs H Q _ => ∃ (wv v : V) (W : Ways) (a b : Nat) (l : List Nat) (x : Nat), ws = [some wv] ∧ vs = [v, .int x] ∧ Dp K H wv (dWays W) ∧ a < W.length ∧ b < W.length ∧ l.length ≤ 2 ∧ KeyAt H (mk3 a b l) v ∧ ∀ H' z, Same H H' → KeyAt H' (step3 W a b l x) z → Q z H'
theorem sc_meeting_word_go : NScope ["moment", "letter", "ways", "between"] ["moment", "letter"] ["ways"] (C8.fnScope n_mw_go) := nscope_by (by decide +kernel)
theorem nok_mw_go (G_led_to : Has P w K mg 2 "led_to" ["ways", "place", "letter"] (sp_led_to K)) (f : Addr) (cl : List (Str × Addr)) (c : Addr) : NOk P w K mg base CX0 3 f (F_mw_go cl c) ["moment", "letter"] ["ways"] (spn_mw_go K) := by
  refine nok_of sc_meeting_word_go (fun _ _ _ us hl => match us, hl with | [_, _], _ => rfl) (fun ws vs H Q E h => ?_) fun A outer s H vs ws Q E hr hf hc hl h => ⟨_, PSs.nox
    (pss_cons (ps_set (i := 3) sc_meeting_word_go.nd rfl (Or.inl rfl) (pe_op op_catA (pe_ix ix_tup (pv 0) pe_int (fun _ _ => rfl)) (pe_tup (pa_cons (pv 1) pa_nil))))
      (pss_one (ps_ret (pe_tup (pa_cons (pe_has G_led_to hr (pa_cons (pv 2) (pa_cons (pe_ix ix_tup (pv 0) pe_int (fun _ _ => rfl)) (pa_cons (pv 1) pa_nil)))) (pa_cons (pe_has G_led_to hr (pa_cons (pv 2) (pa_cons (pe_ix ix_tup (pv 0) pe_int (fun _ _ => rfl)) (pa_cons (pe_ix ix_tup (pv 3) pe_int (fun _ _ => rfl)) pa_nil)))) (pa_cons (pe_slice sl_tupA (pv 3) (po_some pe_int) po_none) pa_nil))))))), ?_⟩
  · obtain ⟨wv, v, W, a, b, l, x, rfl, rfl, _⟩ := h
    rfl
  · obtain ⟨wv, v, W, a, b, l, x, rfl, rfl, hW, ha, hb, hl2, hk, q⟩ := h
    obtain ⟨p, pl, rfl, hp, hpl⟩ := mk3_at hk
    -- between = moment[2] + (letter,)
    refine ⟨_, rfl, p, _, (2 : Int), .ref pl, rfl, rfl, SqT.of hp, rfl, _, rfl, (by show 1 ≤ sizeLine; decide), fun t nt => ?_⟩
    have s1 : Same H (upd H t (.tup [.int (x : Int)])) := Same.new nt
    refine catA_one (s1 _ _ hpl) upd_same (by rw [vN_len]; exact Nat.le_trans (show l.length + 1 ≤ 3 by omega) (by decide)) fun pb H2 s2 hpb => ?_
    have s3 : Same H H2 := s1.trans s2
    have ebt : vN l ++ [V.int (x : Int)] = vN (l ++ [x]) := (vN_snoc l x).symm
    rw [ebt] at hpb
    obtain ⟨n, ns, ens⟩ : ∃ n ns, l ++ [x] = n :: ns := by
      cases l with
      | nil => exact ⟨_, _, rfl⟩
      | cons n ns => exact ⟨_, _, rfl⟩
    have eS : step3 W a b l x = mk3 (ledTo W a x) (ledTo W b n) ns := by
      unfold step3
      rw [ens]
      rfl
    rw [ens] at hpb
    rw [eS] at q
    have hp2 := s3 _ _ hp
    refine ⟨_, rfl, _, rfl, p, _, (0 : Int), _, rfl, rfl, SqT.of hp2, rfl, _, rfl, wv, W, a, x, rfl, hW.same s3, ha, ?_⟩
    refine ⟨_, rfl, _, rfl, p, _, (1 : Int), _, rfl, rfl, SqT.of hp2, rfl, _, rfl, pb, _, (0 : Int), _, rfl, rfl, SqT.of hpb, at_nat (i := 0) rfl, wv, W, b, n, rfl, hW.same s3, hb, ?_⟩
    refine ⟨_, rfl, _, rfl, pb, _, rfl, SqT.of hpb, fun z => ?_, fun _ pr npr => ?_⟩
    · have e1 : HT.sIx (vN (n :: ns)).length 0 (some ((1 : Nat) : Int)) = 0 := z.1
      rw [HT.sIx_nat] at e1
      simp at e1
    · have ec : cutV (vN (n :: ns)) (some 1) none = vN ns := cut_tail _ _
      rw [ec]
      refine ⟨(by show 3 ≤ sizeLine; decide), fun t' nt' => q _ _ ((s3.trans (Same.new npr)).trans (Same.new nt')) ?_⟩
      exact mk3_of upd_same (by rw [upd_ne (fun (e : pr = t') => by rw [e, upd_same] at nt'; cases nt'), upd_same])
def spn_mw_end (ws : List (Option V)) : Sp := fun vs H Q _ => ∃ (v : V) (a b : Nat) (l : List Nat), ws = [] ∧ vs = [v] ∧ KeyAt H (mk3 a b l) v ∧ Q (.bl (decide (a = b))) H
theorem sc_meeting_word_is_end : NScope ["moment"] ["moment"] [] (C8.fnScope n_mw_end) := nscope_by (by decide +kernel)
theorem nok_mw_end (f : Addr) (cl : List (Str × Addr)) (c : Addr) : NOk P w K mg base CX0 1 f (F_mw_end cl c) ["moment"] [] spn_mw_end := by
  refine nok_of sc_meeting_word_is_end (fun _ _ _ us hl => match us, hl with | [_], _ => rfl) (fun ws vs H Q E h => ?_) fun A outer s H vs ws Q E hr hf hc hl h => ⟨_, PSs.nox
    (pss_one (ps_ret (pe_cmpR op_eq (pe_ix ix_tup (pv 0) pe_int (fun _ _ => rfl)) (pe_ix ix_tup (pv 0) pe_int (fun _ _ => rfl)) (nomark _)))), ?_⟩
  · obtain ⟨v, a, b, l, rfl, rfl, _⟩ := h
    rfl
  · obtain ⟨v, a, b, l, rfl, rfl, hk, q⟩ := h
    obtain ⟨p, pl, rfl, hp, hpl⟩ := mk3_at hk
    refine ⟨_, rfl, p, _, (0 : Int), _, rfl, rfl, SqT.of hp, rfl, _, rfl, p, _, (1 : Int), _, rfl, rfl, SqT.of hp, rfl, rfl, ?_⟩
    have e : decide (V.int (a : Int) = V.int (b : Int)) = decide (a = b) := decide_eq_decide.mpr ⟨fun z => by injection z with z; omega, fun z => by rw [z]⟩
    show Q (.bl (decide (V.int (a : Int) = V.int (b : Int)))) H
    rw [e]
    exact q
/-- the first word by which they meet -/
abbrev meetW (W : Ways) (u v d : Nat) : Option (List Nat) := fwRes (goM W) (mostW W + 1) (mk3 u v (List.replicate d 0)) isMet (numM W.length (mostW W + 1) d)
def sp_meeting_word (K : PySem.W.Frag) : Sp := fun vs H Q _ => ∃ (wv : V) (W : Ways) (u v d : Nat), vs = [wv, .int u, .int v, .int d] ∧ TabsN (Tn K) H ∧ Dp K H wv (dWays W) ∧ WOk W ∧ W.length ≤ 10 ∧ mostW W ≤ 9 ∧ u < W.length ∧ v < W.length ∧ d ≤ 2 ∧
  ∀ H' z, ExtN H H' → TabsN (Tn K) H' → WordIs H' z (meetW W u v d) → Q z H'
theorem sc_meeting_word : FnScope ["ways", "u", "v", "later", "go", "is_end"] ["ways", "u", "v", "later"] (defScope s_meeting_word) := ⟨rfl, rfl, rfl, by decide +kernel, rfl, by decide +kernel, by decide +kernel⟩
theorem ok_meeting_word (TB : TabsB K mg base) (F : FnP K d_meeting_word (He.fAd K d_meeting_word.at_) fd) (G_first_word : HasS P w K mg 5 "first_word" ["start", "most", "go", "is_end"] (sp_first_word P w K mg)) (G_most_exits : Has P w K mg 1 "most_exits" ["ways"] (sp_most_exits K))
    (G_led_to : Has P w K mg 2 "led_to" ["ways", "place", "letter"] (sp_led_to K)) : FnOk P w K mg base CX0 6 (He.fAd K d_meeting_word.at_) fd ["ways", "u", "v", "later"] (sp_meeting_word K) := by
  refine okC F sc_meeting_word (fun vs H Q E h => ?_) (fun A outer s H vs Q E hr h => ⟨_, PSs.nox
    (pss_cons (ps_ndefMS (st := n_mw_go) (T := Tn K) (nm := nmAll) (i := 4) rfl (TB ("meeting_word", none) (by decide)) rfl (List.mem_map.mpr ⟨("meeting_word", none), by decide, rfl⟩) nm109 (fun p hp => Tn_one K p hp _) (ndef_free (sc := defScope s_meeting_word) (nsc := C8.fnScope n_mw_go) (fr := ["ways"]) (by decide +kernel)) rfl rfl rfl sc_meeting_word.nd rfl (Or.inl rfl) (Or.inl rfl))
      (pss_cons (ps_ndefMS (st := n_mw_end) (T := Tn K) (nm := nmAll) (i := 5) rfl (TB ("meeting_word", none) (by decide)) rfl (List.mem_map.mpr ⟨("meeting_word", none), by decide, rfl⟩) nm113 (fun p hp => Tn_one K p hp _) (ndef_free (sc := defScope s_meeting_word) (nsc := C8.fnScope n_mw_end) (fr := []) (by decide +kernel)) rfl rfl rfl sc_meeting_word.nd rfl (Or.inl rfl) (Or.inl rfl))
      (pss_one (ps_ret (pe_hasS (cs := [(cloFrom (cellsFrom (s.heap.objs.size + 1) (defScope s_meeting_word).names []) (C8.fnScope n_mw_go).names [], ["ways"], [0]), (cloFrom (cellsFrom (s.heap.objs.size + 1) (defScope s_meeting_word).names []) (C8.fnScope n_mw_end).names [], [], [])]) G_first_word hr (fun _ => rfl)
        (fun ok c hc => by
          rcases List.mem_cons.mp hc with e | hc
          · subst e
            exact Caps.made ok (ndef_free (sc := defScope s_meeting_word) (nsc := C8.fnScope n_mw_go) (fr := ["ways"]) (by decide +kernel)) (ndef_fr (sc := defScope s_meeting_word) (nsc := C8.fnScope n_mw_go) (fr := ["ways"]) (by decide +kernel)) rfl
          · rcases List.mem_cons.mp hc with e | hc
            · subst e
              exact Caps.made ok (ndef_free (sc := defScope s_meeting_word) (nsc := C8.fnScope n_mw_end) (fr := []) (by decide +kernel)) (ndef_fr (sc := defScope s_meeting_word) (nsc := C8.fnScope n_mw_end) (fr := []) (by decide +kernel)) rfl
            · cases hc)
        (pa_cons (pe_tup (pa_cons (pv 1) (pa_cons (pv 2) (pa_cons (pe_op op_repT3 (pe_tup (pa_cons pe_int pa_nil)) (pv 3)) pa_nil)))) (pa_cons (pe_has G_most_exits hr (pa_cons (pv 0) pa_nil)) (pa_cons (pv 4) (pa_cons (pv 5) pa_nil))))))))), ?_⟩)
  · obtain ⟨wv, W, u, v, d, rfl, _⟩ := h
    rfl
  · obtain ⟨wv, W, u, v, d, rfl, hT, hW, ok, hn, hm, hu, hv, hd, q⟩ := h
    refine ⟨hT, fun f1 c1 H1 e1 m1 t1 n1 hf1 hc1 => ⟨t1, fun f2 c2 H2 e2 m2 t2 n2 hf2 hc2 => ?_⟩⟩
    have e12 : ExtN H H2 := extN_trans e1 e2
    refine ⟨_, rfl, _, rfl, (by show 1 ≤ sizeLine; decide), fun p0 np0 => ⟨_, rfl, ?_⟩⟩
    have s0 : Same H2 (upd H2 p0 (.tup [.int 0])) := Same.new np0
    refine repT_zero upd_same (by omega) fun pz Hz sz0 hpz => ⟨(by show 3 ≤ sizeLine; decide), fun pt npt => ?_⟩
    have sz := s0.trans sz0
    have s4 := sz.trans (Same.new (o := .tup [.int (u : Int), .int (v : Int), .ref pz]) npt)
    have e14 := extN_trans e12 (same_ext s4)
    refine ⟨_, rfl, wv, W, rfl, hW.keep (extN_keep e14), by omega, by omega, fun H3 s3 => ⟨_, rfl, _, rfl, fun b hcl => ?_⟩⟩
    have e13 : ExtN H H3 := extN_trans e14 (same_ext s3)
    have s23 : Same H2 H3 := s4.trans s3
    have cl1 := hcl _ List.mem_cons_self
    have cl2 := hcl _ (List.mem_cons_of_mem _ List.mem_cons_self)
    have hW3 : Dp K H3 wv (dWays W) := hW.keep (extN_keep e13)
    have hk3 : KeyAt H3 (mk3 u v (List.replicate d 0)) (.ref pt) := KeyAt.same (mk3_of upd_same (by rw [upd_ne (ne_of_none hpz npt)]; exact hpz)) s3
    have hlr : (List.replicate d 0).length = d := List.length_replicate
    have hG := goOk_mk3 w ok hn hm hu hv (l := List.replicate d 0) (by rw [hlr]; exact hd) (fun x hx => by rw [(List.mem_replicate.mp hx).2]; omega)
    rw [hlr] at hG
    refine ⟨.ref pt, mostW W, f1, f2, UM W (mostW W + 1) d, isMet, goM W, mk3 u v (List.replicate d 0), numM W.length (mostW W + 1) d, rfl, hk3, hG, ?_, ?_, fun H' z s4 hz => ?_⟩
    · refine ⟨F_mw_go _ c1, _, _, _, spn_mw_go K, s23 _ _ (e2 _ _ hf1 fnO_ne), s23 _ _ (e2 _ _ hc1 codeO_ne), cl1, (nok_mw_go G_led_to f1 _ c1).mono (by decide), fun vs H4 Q4 E4 h4 => ?_⟩
      obtain ⟨s5, z5, x5, rfl, s6, ⟨a, b5, l5, ha, hb, hl5, hm5, rfl⟩, _, _, hk5, q5⟩ := h4
      rw [goM_mk] at q5
      exact ⟨wv, z5, W, a, b5, l5, x5, rfl, rfl, hW3.same s6, ha, hb, by omega, hk5, q5⟩
    · refine ⟨F_mw_end _ c2, _, _, _, spn_mw_end, s23 _ _ hf2, s23 _ _ hc2, cl2, (nok_mw_end f2 _ c2).mono (by decide), fun vs H4 Q4 E4 h4 => ?_⟩
      obtain ⟨s5, z5, rfl, s6, ⟨a, b5, l5, ha, hb, hl5, hm5, rfl⟩, hk5, q5⟩ := h4
      exact ⟨z5, a, b5, l5, rfl, rfl, hk5, q5 H4 (Same.refl _)⟩
    · exact q H' z (extN_trans e13 (same_ext s4)) (t2.ext fun b o e => s4 _ _ (s23 _ _ e)) hz
end
end Nw
end
section
set_option maxRecDepth 100000
set_option maxHeartbeats 2000000
namespace Nw
open PySem PySem.Spec PyProof.Rows L2 LamX NdefX
abbrev One := Nat × Option Nat
def goneW (W : Ways) (a : One) (x : Nat) : One := if x = 1 ∧ a.2 = none then (a.1, some a.1) else if x = 2 ∧ a.2 = some a.1 then (a.1, none) else (ledTo W a.1 (x - 2), a.2)
def sightW (W : Ways) (a : One) : Nat × Nat := ((rowAt W a.1).length, match a.2 with | none => 2 | some q => if q = a.1 then 1 else 0)
def lK : Option Nat → NestedKey
  | none => .none
  | some q => .num (q : Int)
abbrev oneK (a : One) : NestedKey := .tup [.num (a.1 : Int), lK a.2]
abbrev pairK (a b : One) : NestedKey := .tup [oneK a, oneK b]
abbrev unlessK (W : Ways) (a b : One) : NestedKey := if sightW W a = sightW W b then pairK a b else .none
abbrev stepP (W : Ways) (a b : One) (x : Nat) : NestedKey := if cameIn W a.1 (x - 2) = cameIn W b.1 (x - 2) then unlessK W (goneW W a x) (goneW W b x) else .none
def unL : NestedKey → Option Nat
  | .num i => some i.toNat
  | _ => none
def goP (W : Ways) : NestedKey → Nat → NestedKey
  | .tup [.tup [.num p, l], .tup [.num q, m]], x => stepP W (p.toNat, unL l) (q.toNat, unL m) x
  | k, _ => k
theorem unL_lK (l : Option Nat) : unL (lK l) = l := by cases l <;> rfl
theorem goP_pair (W : Ways) (a b : One) (x : Nat) : goP W (pairK a b) x = stepP W a b x := by
  obtain ⟨p, l⟩ := a
  obtain ⟨q, m⟩ := b
  show stepP W (p, unL (lK l)) (q, unL (lK m)) x = _
  rw [unL_lK, unL_lK]
def isApart : NestedKey → Bool
  | .none => true
  | _ => false
theorem lK_at {H : Hp} {l : Option Nat} {v : V} (h : KeyAt H (lK l) v) : v = oV l := by
  cases l with
  | none =>
    cases h
    rfl
  | some q =>
    cases h
    rfl
theorem lK_of {H : Hp} (l : Option Nat) : KeyAt H (lK l) (oV l) := by
  cases l with
  | none => exact .non
  | some q => exact .num _
theorem oneK_at {H : Hp} {a : One} {v : V} (h : KeyAt H (oneK a) v) : ∃ p, v = .ref p ∧ H p = some (.tup [.int (a.1 : Int), oV a.2]) := by
  cases h with
  | tup h1 h2 =>
    cases h2 with
    | cons k1 k2 =>
      cases k1
      cases k2 with
      | cons k3 k4 =>
        cases k4
        rw [lK_at k3] at h1
        exact ⟨_, rfl, h1⟩
theorem oneK_of {H : Hp} {a : One} {p : Addr} (h : H p = some (.tup [.int (a.1 : Int), oV a.2])) : KeyAt H (oneK a) (.ref p) := .tup h (.cons (.num _) (.cons (lK_of _) .nil))
theorem pairK_at {H : Hp} {a b : One} {v : V} (h : KeyAt H (pairK a b) v) : ∃ p q r, v = .ref p ∧ H p = some (.tup [.ref q, .ref r]) ∧ KeyAt H (oneK a) (.ref q) ∧ KeyAt H (oneK b) (.ref r) := by
  cases h with
  | tup h1 h2 =>
    cases h2 with
    | cons k1 k2 =>
      cases k2 with
      | cons k3 k4 =>
        cases k4
        obtain ⟨q, rfl, _⟩ := oneK_at k1
        obtain ⟨r, rfl, _⟩ := oneK_at k3
        exact ⟨_, q, r, rfl, h1, k1, k3⟩
theorem pairK_of {H : Hp} {a b : One} {p q r : Addr} (h : H p = some (.tup [.ref q, .ref r])) (h1 : KeyAt H (oneK a) (.ref q)) (h2 : KeyAt H (oneK b) (.ref r)) : KeyAt H (pairK a b) (.ref p) := .tup h (.cons h1 (.cons h2 .nil))
theorem dec_oVN (o : Option Nat) : decide (oV o = V.non) = decide (o = none) := by
  cases o with
  | none => rfl
  | some n => rfl
theorem and_is {t u : TT} {σ : L2.St} {H : Hp} {Q : Bool → Hp → Prop} (b1 b2 : Bool) (h1 : ∀ R : Bool → Hp → Prop, R b1 H → t σ H R) (h2 : b1 = true → ∀ R : Bool → Hp → Prop, R b2 H → u σ H R) (q : Q (b1 && b2) H) : tAndI t u σ H Q := by
  rw [tAndI_eq]
  refine h1 _ ?_
  cases b1 with
  | true => exact if_true_of rfl (h2 rfl _ q)
  | false => exact if_false_of rfl q
theorem or_is {t u : TT} {σ : L2.St} {H : Hp} {Q : Bool → Hp → Prop} (b1 b2 : Bool) (h1 : ∀ R : Bool → Hp → Prop, R b1 H → t σ H R) (h2 : b1 = false → ∀ R : Bool → Hp → Prop, R b2 H → u σ H R) (q : Q (b1 || b2) H) : tOrI t u σ H Q := by
  rw [tOrI_eq]
  refine h1 _ ?_
  cases b1 with
  | true => exact if_true_of rfl q
  | false => exact if_false_of rfl (h2 rfl _ q)
theorem dec_nat (a b : Nat) : decide (V.int (a : Int) = V.int (b : Int)) = decide (a = b) := decide_eq_decide.mpr ⟨fun z => by injection z with z; omega, fun z => by rw [z]⟩
section
variable {P : Program} {w : World} {K : PySem.W.Frag} {mg : Str → Option Value} {base : Heap} {f : Addr} {fd : FuncData}
def sp_bare : Sp := fun vs H Q _ => ∃ x : Nat, vs = [.int x] ∧ Q (.int ((x - 2 : Nat) : Int)) H
theorem sc_bare : FnScope ["letter"] ["letter"] (defScope s_bare) := ⟨rfl, rfl, rfl, by decide +kernel, rfl, by decide +kernel, by decide +kernel⟩
theorem ok_bare (T : Tx K mg) (F : FnP K d_bare f fd) : FnOk P w K mg base CX0 1 f fd ["letter"] sp_bare := by
  refine F.ok sc_bare (fun vs H Q E h => ?_) (fun cdv A outer s H vs Q E hr h => ⟨_, PSs.nox
    (pss_one (ps_ret (pe_callB (call_max2 rfl) (by rfl) T.f_max (by decide +kernel) (pa_cons (pe_op op_sub (pv 0) (pe_gint T.c_TAKE)) (pa_cons pe_int pa_nil))))), ?_⟩)
  · obtain ⟨x, rfl, _⟩ := h
    rfl
  · obtain ⟨x, rfl, q⟩ := h
    refine ⟨_, rfl, _, _, rfl, rfl, _, _, rfl, ?_⟩
    have e : (if (0 : Int) > (x : Int) - 2 then (0 : Int) else (x : Int) - 2) = ((x - 2 : Nat) : Int) := by split <;> omega
    rw [e]
    exact q
def sp_gone (K : PySem.W.Frag) : Sp := fun vs H Q _ => ∃ (wv ov : V) (W : Ways) (a : One) (x : Nat), vs = [wv, ov, .int x] ∧ Dp K H wv (dWays W) ∧ a.1 < W.length ∧ KeyAt H (oneK a) ov ∧ ∀ H' z, Same H H' → KeyAt H' (oneK (goneW W a x)) z → Q z H'
theorem sc_gone : FnScope ["ways", "one", "letter", "place", "lies"] ["ways", "one", "letter"] (defScope s_gone) := ⟨rfl, rfl, rfl, by decide +kernel, rfl, by decide +kernel, by decide +kernel⟩
theorem ok_gone (T : Tx K mg) (F : FnP K d_gone f fd) (G_led_to : Has P w K mg 2 "led_to" ["ways", "place", "letter"] (sp_led_to K)) (G_bare : Has P w K mg 1 "bare" ["letter"] sp_bare) : FnOk P w K mg base CX0 3 f fd ["ways", "one", "letter"] (sp_gone K) := by
  refine F.ok sc_gone (fun vs H Q E h => ?_) (fun cdv A outer s H vs Q E hr h => ⟨_, PSs.nox
    (pss_cons (ps_set (i := 3) sc_gone.nd rfl (Or.inl rfl) (pe_ix ix_tup (pv 1) pe_int (fun _ _ => rfl)))
      (pss_cons (ps_set (i := 4) sc_gone.nd rfl (Or.inl rfl) (pe_ix ix_tup (pv 1) pe_int (fun _ _ => rfl)))
      (pss_cons (ps_if (PW.pt (pw_andI (pt_cmpR op_eq (pv 2) (pe_gint T.c_PUT) (nomark _)) (pw_and1 (pt_cmpR op_isN (pv 4) pe_non (nomark _))))) (pss_one (ps_ret (pe_tup (pa_cons (pv 3) (pa_cons (pv 3) pa_nil))))) pss_nil)
      (pss_cons (ps_if (PW.pt (pw_andI (pt_cmpR op_eq (pv 2) (pe_gint T.c_TAKE) (nomark _)) (pw_and1 (pt_cmpR op_eq (pv 4) (pv 3) (nomark _))))) (pss_one (ps_ret (pe_tup (pa_cons (pv 3) (pa_cons pe_non pa_nil))))) pss_nil)
      (pss_one (ps_ret (pe_tup (pa_cons (pe_has G_led_to hr (pa_cons (pv 0) (pa_cons (pv 3) (pa_cons (pe_has G_bare hr (pa_cons (pv 2) pa_nil)) pa_nil)))) (pa_cons (pv 4) pa_nil))))))))), ?_⟩)
  · obtain ⟨wv, ov, W, a, x, rfl, _⟩ := h
    rfl
  · obtain ⟨wv, ov, W, a, x, rfl, hW, ha, hk, q⟩ := h
    obtain ⟨p, rfl, hp⟩ := oneK_at hk
    refine ⟨_, rfl, p, _, (0 : Int), _, rfl, rfl, SqT.of hp, rfl, _, rfl, p, _, (1 : Int), _, rfl, rfl, SqT.of hp, rfl, ?_⟩
    refine and_is (decide (x = 1)) (decide (a.2 = none)) (fun R r => ⟨_, rfl, rfl, _, rfl, ?_⟩) (fun _ R r => ⟨_, rfl, rfl, _, rfl, ?_⟩) ?_
    · show R (decide (V.int (x : Int) = V.int ((1 : Nat) : Int))) H
      rw [dec_nat]
      exact r
    · show R (decide (oV a.2 = V.non)) H
      rw [dec_oVN]
      exact r
    by_cases c : x = 1 ∧ a.2 = none
    · have e : goneW W a x = (a.1, some a.1) := by
        unfold goneW
        rw [if_pos c]
      rw [e] at q
      refine if_true_of (by rw [decide_eq_true c.1, decide_eq_true c.2]; rfl) ⟨_, rfl, _, rfl, (by show 2 ≤ sizeLine; decide), fun t nt => q _ _ (Same.new nt) (oneK_of upd_same)⟩
    · refine if_false_of ?_ ?_
      · cases c1 : decide (x = 1) with
        | false => rfl
        | true => rw [decide_eq_false fun z => c ⟨of_decide_eq_true c1, z⟩]; rfl
      refine and_is (decide (x = 2)) (decide (a.2 = some a.1)) (fun R r => ⟨_, rfl, rfl, _, rfl, ?_⟩) (fun _ R r => ⟨_, rfl, _, rfl, scal_oV _ _, _, rfl, ?_⟩) ?_
      · show R (decide (V.int (x : Int) = V.int ((2 : Nat) : Int))) H
        rw [dec_nat]
        exact r
      · rw [dec_oV]
        exact r
      by_cases c2 : x = 2 ∧ a.2 = some a.1
      · have e : goneW W a x = (a.1, none) := by
          unfold goneW
          rw [if_neg c, if_pos c2]
        rw [e] at q
        refine if_true_of (by rw [decide_eq_true c2.1, decide_eq_true c2.2]; rfl) ⟨_, rfl, (by show 2 ≤ sizeLine; decide), fun t nt => q _ _ (Same.new nt) (oneK_of upd_same)⟩
      · have e : goneW W a x = (ledTo W a.1 (x - 2), a.2) := by
          unfold goneW
          rw [if_neg c, if_neg c2]
        rw [e] at q
        refine if_false_of ?_ ⟨_, rfl, _, rfl, _, rfl, x, rfl, wv, W, a.1, x - 2, rfl, hW, ha, _, rfl, (by show 2 ≤ sizeLine; decide), fun t nt => q _ _ (Same.new nt) (oneK_of upd_same)⟩
        cases c1 : decide (x = 2) with
        | false => rfl
        | true => rw [decide_eq_false fun z => c2 ⟨of_decide_eq_true c1, z⟩]; rfl
def sp_sight (K : PySem.W.Frag) : Sp := fun vs H Q _ => ∃ (wv ov : V) (W : Ways) (a : One), vs = [wv, ov] ∧ Dp K H wv (dWays W) ∧ a.1 < W.length ∧ KeyAt H (oneK a) ov ∧ ∀ H' z, Same H H' → Dp K H' z (dPair (sightW W a)) → Q z H'
theorem sc_sight : FnScope ["ways", "one"] ["ways", "one"] (defScope s_sight) := ⟨rfl, rfl, rfl, by decide +kernel, rfl, by decide +kernel, by decide +kernel⟩
theorem ok_sight (T : Tx K mg) (F : FnP K d_sight f fd) : FnOk P w K mg base CX0 1 f fd ["ways", "one"] (sp_sight K) := by
  refine F.ok sc_sight (fun vs H Q E h => ?_) (fun cdv A outer s H vs Q E hr h => ⟨_, PSs.nox
    (pss_cons (ps_if (pt_cmpR op_isN (pe_ix ix_tup (pv 1) pe_int (fun _ _ => rfl)) pe_non (nomark _)) (pss_one (ps_ret (pe_tup (pa_cons (pe_callB call_len_seq (by rfl) T.f_len PySem.boot_len (pa_cons (pe_ix ix_list (pv 0) (pe_ix ix_tup (pv 1) pe_int (fun _ _ => rfl)) (fun _ _ => rfl)) pa_nil)) (pa_cons pe_int pa_nil))))) pss_nil)
      (pss_one (ps_ret (pe_tup (pa_cons (pe_callB call_len_seq (by rfl) T.f_len PySem.boot_len (pa_cons (pe_ix ix_list (pv 0) (pe_ix ix_tup (pv 1) pe_int (fun _ _ => rfl)) (fun _ _ => rfl)) pa_nil)) (pa_cons (pe_ifExp (pt_cmpR op_eq (pe_ix ix_tup (pv 1) pe_int (fun _ _ => rfl)) (pe_ix ix_tup (pv 1) pe_int (fun _ _ => rfl)) (nomark _)) pe_int pe_int) pa_nil)))))), ?_⟩)
  · obtain ⟨wv, ov, W, a, rfl, _⟩ := h
    rfl
  · obtain ⟨wv, ov, W, a, rfl, hW, ha, hk, q⟩ := h
    obtain ⟨p, rfl, hp⟩ := oneK_at hk
    obtain ⟨pw, xs, rfl, sq, al⟩ := hW.lst_of
    obtain ⟨r, hr1, hr2⟩ := al.get (rowsGet (row_some ha))
    obtain ⟨b, ys, rfl, sq2, al2⟩ := hr2.lst_of
    have len : ys.length = (rowAt W a.1).length := by rw [al2.len, List.length_map]
    obtain ⟨a1, l⟩ := a
    refine ⟨_, rfl, p, _, (1 : Int), _, rfl, rfl, SqT.of hp, rfl, rfl, _, rfl, ?_⟩
    rw [dec_oVN]
    cases l with
    | none =>
      refine if_true_of rfl ⟨_, rfl, _, rfl, p, _, (0 : Int), _, rfl, rfl, SqT.of hp, rfl, pw, xs, a1, _, rfl, rfl, sq, at_nat hr1, b, ys, rfl, .inl sq2, (by show 2 ≤ sizeLine; decide), fun t nt => q _ _ (Same.new nt) (pair_at ?_)⟩
      rw [upd_same, len]
      rfl
    | some m =>
      refine if_false_of rfl ⟨_, rfl, _, rfl, p, _, (0 : Int), _, rfl, rfl, SqT.of hp, rfl, pw, xs, a1, _, rfl, rfl, sq, at_nat hr1, b, ys, rfl, .inl sq2, ?_⟩
      refine ⟨_, rfl, p, _, (1 : Int), _, rfl, rfl, SqT.of hp, rfl, _, rfl, p, _, (0 : Int), _, rfl, rfl, SqT.of hp, rfl, rfl, _, rfl, ?_⟩
      have e : decide (oV (some m) = V.int (a1 : Int)) = decide (m = a1) := dec_nat m a1
      rw [e]
      by_cases c : m = a1
      · refine if_true_of (decide_eq_true c) ⟨(by show 2 ≤ sizeLine; decide), fun t nt => q _ _ (Same.new nt) (pair_at ?_)⟩
        rw [upd_same, len]
        show _ = some (HO.tup [V.int (((rowAt W a1).length : Nat) : Int), V.int ((if m = a1 then 1 else 0 : Nat) : Int)])
        rw [if_pos c]
        rfl
      · refine if_false_of (decide_eq_false c) ⟨(by show 2 ≤ sizeLine; decide), fun t nt => q _ _ (Same.new nt) (pair_at ?_)⟩
        rw [upd_same, len]
        show _ = some (HO.tup [V.int (((rowAt W a1).length : Nat) : Int), V.int ((if m = a1 then 1 else 0 : Nat) : Int)])
        rw [if_neg c]
        rfl
end
end Nw
end
section
set_option maxRecDepth 100000
set_option maxHeartbeats 2000000
namespace Nw
open PySem PySem.Spec PyProof.Rows L2 LamX NdefX
abbrev n_pw_un : Stmt := (defBody s_pebble_word).getD 0 (.Pass ⟨0, 0, 0, 0⟩)
abbrev n_pw_go : Stmt := (defBody s_pebble_word).getD 1 (.Pass ⟨0, 0, 0, 0⟩)
abbrev n_pw_end : Stmt := (defBody s_pebble_word).getD 2 (.Pass ⟨0, 0, 0, 0⟩)
abbrev F_pw_un (cl : List (Str × Addr)) (c : Addr) : NF := NF.of n_pw_un "unless_apart" (("pebble_word" : Str) ++ ".<locals>." ++ "unless_apart") cl c
abbrev F_pw_go (cl : List (Str × Addr)) (c : Addr) : NF := NF.of n_pw_go "go" (("pebble_word" : Str) ++ ".<locals>." ++ "go") cl c
abbrev F_pw_end (cl : List (Str × Addr)) (c : Addr) : NF := NF.of n_pw_end "is_end" (("pebble_word" : Str) ++ ".<locals>." ++ "is_end") cl c
section
variable {P : Program} {w : World} {K : PySem.W.Frag} {mg : Str → Option Value} {base : Heap} {f : Addr} {fd : FuncData}
def spn_pw_un (K : PySem.W.Frag) (ws : List (Option V)) : Sp := fun vs H Q _ => ∃ (wv v1 v2 : V) (W : Ways) (a b : One), ws = [some wv] ∧ vs = [v1, v2] ∧ Dp K H wv (dWays W) ∧ a.1 < W.length ∧ b.1 < W.length ∧ KeyAt H (oneK a) v1 ∧ KeyAt H (oneK b) v2 ∧ ∀ H' z, Same H H' → KeyAt H' (unlessK W a b) z → Q z H'
theorem sc_pebble_word_unless_apart : NScope ["first", "second", "ways"] ["first", "second"] ["ways"] (C8.fnScope n_pw_un) := nscope_by (by decide +kernel)
theorem nok_pw_un (G_sight : Has P w K mg 1 "sight" ["ways", "one"] (sp_sight K)) (f : Addr) (cl : List (Str × Addr)) (c : Addr) : NOk P w K mg base CX0 2 f (F_pw_un cl c) ["first", "second"] ["ways"] (spn_pw_un K) := by
  refine nok_of sc_pebble_word_unless_apart (fun _ _ _ us hl => match us, hl with | [_, _], _ => rfl) (fun ws vs H Q E h => ?_) fun A outer s H vs ws Q E hr hf hc hl h => ⟨_, PSs.nox
    (pss_one (ps_ret (pe_ifExp (pt_cmpR (op_eqD hr.units) (pe_has G_sight hr (pa_cons (pv 2) (pa_cons (pv 0) pa_nil))) (pe_has G_sight hr (pa_cons (pv 2) (pa_cons (pv 1) pa_nil))) (nomark _)) (pe_tup (pa_cons (pv 0) (pa_cons (pv 1) pa_nil))) pe_non))), ?_⟩
  · obtain ⟨wv, v1, v2, W, a, b, rfl, rfl, _⟩ := h
    rfl
  · obtain ⟨wv, v1, v2, W, a, b, rfl, rfl, hW, ha, hb, hk1, hk2, q⟩ := h
    refine ⟨_, rfl, _, rfl, wv, v1, W, a, rfl, hW, ha, hk1, fun H1 z1 s1 d1 => ?_⟩
    refine ⟨_, rfl, _, rfl, wv, v2, W, b, rfl, hW.same s1, hb, hk2.same s1, fun H2 z2 s2 d2 => ?_⟩
    refine ⟨_, _, d1.same s2, d2, shaped_of (lay_pair _), shaped_of (lay_pair _), _, rfl, ?_⟩
    rw [eqv_pair]
    obtain ⟨p1, rfl, _⟩ := oneK_at hk1
    obtain ⟨p2, rfl, _⟩ := oneK_at hk2
    have s12 := s1.trans s2
    by_cases c : sightW W a = sightW W b
    · rw [show unlessK W a b = pairK a b from if_pos c] at q
      refine if_true_of (decide_eq_true c) ⟨_, rfl, _, rfl, (by show 2 ≤ sizeLine; decide), fun t nt => q _ _ (s12.trans (Same.new nt)) ?_⟩
      exact pairK_of upd_same (hk1.same (s12.trans (Same.new nt))) (hk2.same (s12.trans (Same.new nt)))
    · rw [show unlessK W a b = .none from if_neg c] at q
      exact if_false_of (decide_eq_false c) (q _ _ s12 .non)
def spn_pw_end (ws : List (Option V)) : Sp := fun vs H Q _ => ∃ (v : V) (s : NestedKey), ws = [] ∧ vs = [v] ∧ KeyAt H s v ∧ (s = .none ∨ ∃ ks, s = .tup ks) ∧ Q (.bl (isApart s)) H
theorem sc_pebble_word_is_end : NScope ["pair"] ["pair"] [] (C8.fnScope n_pw_end) := nscope_by (by decide +kernel)
theorem nok_pw_end (f : Addr) (cl : List (Str × Addr)) (c : Addr) : NOk P w K mg base CX0 1 f (F_pw_end cl c) ["pair"] [] spn_pw_end := by
  refine nok_of sc_pebble_word_is_end (fun _ _ _ us hl => match us, hl with | [_], _ => rfl) (fun ws vs H Q E h => ?_) fun A outer s H vs ws Q E hr hf hc hl h => ⟨_, PSs.nox
    (pss_one (ps_ret (pe_cmpR op_isN (pv 0) pe_non (nomark _)))), ?_⟩
  · obtain ⟨v, s, rfl, rfl, _⟩ := h
    rfl
  · obtain ⟨v, s, rfl, rfl, hk, hs, q⟩ := h
    refine ⟨_, rfl, rfl, ?_⟩
    rcases hs with rfl | ⟨ks, rfl⟩
    · cases hk
      exact q
    · cases hk
      exact q
/-- unless_apart, as go sees it -/
def sp_un (K : PySem.W.Frag) (W : Ways) (H0 : Hp) : Sp := fun vs H Q _ => ∃ (v1 v2 : V) (a b : One), vs = [v1, v2] ∧ Same H0 H ∧ a.1 < W.length ∧ b.1 < W.length ∧ KeyAt H (oneK a) v1 ∧ KeyAt H (oneK b) v2 ∧ ∀ H' z, Same H H' → KeyAt H' (unlessK W a b) z → Q z H'
def spn_pw_go (P : Program) (w : World) (K : PySem.W.Frag) (mg : Str → Option Value) (base : Heap) (ws : List (Option V)) : Sp := fun vs H Q _ => ∃ (fu : Addr) (wv v : V) (W : Ways) (H0 : Hp) (a b : One) (x : Nat), ws = [some (.ref fu), some wv] ∧ vs = [v, .int x] ∧ Dp K H wv (dWays W) ∧ WOk W ∧ a.1 < W.length ∧ b.1 < W.length ∧ KeyAt H (pairK a b) v ∧
  Same H0 H ∧ Clo P w K mg base 2 fu H (sp_un K W H0) ∧ ∀ H' z, Same H H' → KeyAt H' (stepP W a b x) z → Q z H'
theorem sc_pebble_word_go : NScopeC ["pair", "letter", "unless_apart", "ways", "entries", "one"] ["pair", "letter"] ["unless_apart", "ways"] (C8.fnScope n_pw_go) := nscopeC_by (by decide +kernel)
theorem gone_lt {W : Ways} (ok : WOk W) {a : One} (x : Nat) (h : a.1 < W.length) : (goneW W a x).1 < W.length := by
  unfold goneW
  split
  · exact h
  · split
    · exact h
    · exact ledTo_lt ok h
theorem nok_pw_go (T : Tx K mg) (G_came_in : Has P w K mg 2 "came_in" ["ways", "place", "letter"] (sp_came_in K)) (G_bare : Has P w K mg 1 "bare" ["letter"] sp_bare) (G_gone : Has P w K mg 3 "gone" ["ways", "one", "letter"] (sp_gone K)) (f : Addr) (cl : List (Str × Addr)) (c : Addr) : NOk P w K mg base CX0 4 f (F_pw_go cl c) ["pair", "letter"] ["unless_apart", "ways"] (spn_pw_go P w K mg base) := by
  refine nok_ofC sc_pebble_word_go (fun _ _ _ us hl => match us, hl with | [_, _], _ => rfl) (fun ws vs H Q E h => ?_) fun A outer s H vs ws Q E hr hf hc hl h => ⟨_, PSs.nox
    (pss_cons (ps_setLc (i := 4) (own := [("one", 5)]) (by rfl) sc_pebble_word_go.nd rfl rfl (sw_true rfl rfl rfl (by decide +kernel)) (pi_tup (pv 0)) (blkOk_by (own := [("one", 5)]) (N := ["pair", "letter", "unless_apart", "ways", "entries", "one"]) (sc := C8.fnScope n_pw_go) (by decide +kernel)) (fun _ _ _ _ _ => (pg_name (i := 5) sc_pebble_word_go.nd rfl (Or.inl rfl))) (fun _ _ _ _ _ => pts_nil) (fun _ _ _ _ _ => (pe_has G_came_in hr (pa_cons (pv 3) (pa_cons (pe_ix (ixtK K) (pv 5) pe_int (fun _ _ => rfl)) (pa_cons (pe_has G_bare hr (pa_cons (pv 1) pa_nil)) pa_nil))))))
      (pss_cons (ps_if (pt_cmpR op_ne (pe_ix ix_list (pv 4) pe_int (fun _ _ => rfl)) (pe_ix ix_list (pv 4) pe_int (fun _ _ => rfl)) (nomark _)) (pss_one (ps_ret pe_non)) pss_nil)
      (pss_one (ps_ret (pe_callClo (k := 2) hr (by decide) pass0 (i := 2) rfl (Or.inr (Or.inr rfl)) (pa_cons (pe_has G_gone hr (pa_cons (pv 3) (pa_cons (pe_ix ix_tup (pv 0) pe_int (fun _ _ => rfl)) (pa_cons (pv 1) pa_nil)))) (pa_cons (pe_has G_gone hr (pa_cons (pv 3) (pa_cons (pe_ix ix_tup (pv 0) pe_int (fun _ _ => rfl)) (pa_cons (pv 1) pa_nil)))) pa_nil))))))), ?_⟩
  · obtain ⟨fu, wv, v, W, H0, a, b, x, rfl, rfl, _⟩ := h
    rfl
  · obtain ⟨fu, wv, v, W, H0, a, b, x, rfl, rfl, hW, ok, ha, hb, hk, s0, hcl, q⟩ := h
    obtain ⟨p, p1, p2, rfl, hp, hk1, hk2⟩ := pairK_at hk
    obtain ⟨_, e1, hp1⟩ := oneK_at hk1
    cases e1
    obtain ⟨_, e2, hp2⟩ := oneK_at hk2
    cases e2
    -- entries
    have sqp : SqT K H p [V.ref p1, V.ref p2] := SqT.of hp
    refine ⟨_, rfl, p, rfl, ⟨_, sqp⟩, fun D nD => lc_tup (K := K) (a := p) (xs := [V.ref p1, V.ref p2]) (fun i H' => Same H H' ∧ H' D = some (.lst (vN (([a, b].take i).map fun o => cameIn W o.1 (x - 2))))) ⟨Same.new nD, upd_same⟩ (fun i H' _ h => h.1.keep.sqT sqp) ?_ ?_⟩
    · rintro i y H' hy ⟨s1, hD⟩
      obtain ⟨o, po, ho, hlo, rfl, hpo⟩ : ∃ (o : One) (po : Addr), [a, b][i]? = some o ∧ o.1 < W.length ∧ y = .ref po ∧ H po = some (.tup [.int (o.1 : Int), oV o.2]) := by
        match i, hy with
        | 0, hy => exact ⟨a, p1, rfl, ha, (Option.some.inj hy).symm, hp1⟩
        | 1, hy => exact ⟨b, p2, rfl, hb, (Option.some.inj hy).symm, hp2⟩
      refine ⟨rfl, yes_of (iteT ⟨_, rfl, _, rfl, po, _, (0 : Int), _, rfl, rfl, SqT.of (s1 _ _ hpo), rfl, _, rfl, x, rfl, wv, W, o.1, x - 2, rfl, hW.same s1, hlo, _, hD, ?_, s1.upd nD, ?_⟩)⟩
      · rw [vN_len, List.length_map, List.length_take]
        exact Nat.lt_of_le_of_lt (Nat.min_le_right _ _) (by show 2 < sizeLine; decide)
      · rw [upd_same, take_more ho, List.map_append, vN_app]
        rfl
    · rintro H1 ⟨s1, hD⟩
      have hD : H1 D = some (.lst (vN [cameIn W a.1 (x - 2), cameIn W b.1 (x - 2)])) := hD
      refine ⟨_, rfl, D, _, (0 : Int), _, rfl, rfl, SqL.of hD, rfl, _, rfl, D, _, (1 : Int), _, rfl, rfl, SqL.of hD, rfl, rfl, _, rfl, ?_⟩
      have e : (!decide (V.int (cameIn W a.1 (x - 2) : Nat) = V.int (cameIn W b.1 (x - 2) : Nat))) = !decide (cameIn W a.1 (x - 2) = cameIn W b.1 (x - 2)) := by rw [dec_nat]
      by_cases c : cameIn W a.1 (x - 2) = cameIn W b.1 (x - 2)
      · rw [show stepP W a b x = unlessK W (goneW W a x) (goneW W b x) from if_pos c] at q
        refine if_false_of (e.trans (by rw [decide_eq_true c]; rfl)) ?_
        refine ⟨fu, _, rfl, hcl.same s1, _, rfl, _, rfl, p, _, (0 : Int), _, rfl, rfl, SqT.of (s1 _ _ hp), rfl, _, rfl, wv, .ref p1, W, a, x, rfl, hW.same s1, ha, hk1.same s1, fun H2 z1 s2 k1 => ?_⟩
        have s12 := s1.trans s2
        refine ⟨_, rfl, _, rfl, p, _, (1 : Int), _, rfl, rfl, SqT.of (s12 _ _ hp), rfl, _, rfl, wv, .ref p2, W, b, x, rfl, hW.same s12, hb, hk2.same s12, fun H3 z2 s3 k2 => ?_⟩
        have s13 := s12.trans s3
        exact ⟨hcl.same s13, z1, z2, _, _, rfl, s0.trans s13, gone_lt ok x ha, gone_lt ok x hb, k1.same s3, k2, fun H4 z s4 kz => q _ _ (s13.trans s4) kz⟩
      · rw [show stepP W a b x = .none from if_neg c] at q
        exact if_true_of (e.trans (by rw [decide_eq_false c]; rfl)) (q _ _ s1 .non)
end
end Nw
end
section
set_option maxRecDepth 100000
set_option maxHeartbeats 2000000
namespace Nw
open PySem PySem.Spec PyProof.Rows L2 LamX NdefX
abbrev OneOk (n : Nat) (a : One) : Prop := a.1 < n ∧ ∀ q, a.2 = some q → q < n
abbrev UPb (W : Ways) (s : NestedKey) : Prop := s = .none ∨ ∃ a b, OneOk W.length a ∧ OneOk W.length b ∧ s = pairK a b
theorem gone_ok {W : Ways} (ok : WOk W) {a : One} (x : Nat) (h : OneOk W.length a) : OneOk W.length (goneW W a x) := by
  refine ⟨gone_lt ok x h.1, fun q e => ?_⟩
  unfold goneW at e
  split at e
  · cases e
    exact h.1
  · split at e
    · cases e
    · exact h.2 q e
theorem UPb_unless {W : Ways} {a b : One} (ha : OneOk W.length a) (hb : OneOk W.length b) : UPb W (unlessK W a b) := by
  unfold unlessK
  split
  · exact .inr ⟨a, b, ha, hb, rfl⟩
  · exact .inl rfl
theorem UPb_step {W : Ways} (ok : WOk W) {a b : One} (x : Nat) (ha : OneOk W.length a) (hb : OneOk W.length b) : UPb W (stepP W a b x) := by
  unfold stepP
  split
  · exact UPb_unless (gone_ok ok x ha) (gone_ok ok x hb)
  · exact .inl rfl
theorem UPb_go {W : Ways} (ok : WOk W) {s : NestedKey} (x : Nat) (h : UPb W s) : UPb W (goP W s x) := by
  rcases h with rfl | ⟨a, b, ha, hb, rfl⟩
  · exact .inl rfl
  · rw [goP_pair]
    exact UPb_step ok x ha hb
def opts (n : Nat) : List (Option Nat) := none :: (List.range n).map some
def ones (n : Nat) : List One := (List.range n).flatMap fun p => (opts n).map fun l => (p, l)
theorem opts_mem {n : Nat} {l : Option Nat} (h : ∀ q, l = some q → q < n) : l ∈ opts n := by
  cases l with
  | none => exact List.mem_cons_self
  | some q => exact List.mem_cons_of_mem _ (List.mem_map.mpr ⟨q, List.mem_range.mpr (h q rfl), rfl⟩)
theorem ones_mem {n : Nat} {a : One} (h : OneOk n a) : a ∈ ones n := List.mem_flatMap.mpr ⟨a.1, List.mem_range.mpr h.1, List.mem_map.mpr ⟨a.2, opts_mem h.2, rfl⟩⟩
theorem ones_len (n : Nat) : (ones n).length = n * (n + 1) := by
  unfold ones
  rw [flat_len _ (n + 1) _ fun p _ => by simp [opts], List.length_range]
abbrev numP (n : Nat) : Nat := n * (n + 1) * (n * (n + 1)) + 1
def allP (n : Nat) : List NestedKey := .none :: (ones n).flatMap fun a => (ones n).map fun b => pairK a b
theorem allP_len (n : Nat) : (allP n).length = numP n := by
  unfold allP
  rw [List.length_cons, flat_len _ (n * (n + 1)) _ fun a _ => by rw [List.length_map, ones_len], ones_len]
theorem allP_mem {W : Ways} {s : NestedKey} (h : UPb W s) : s ∈ allP W.length := by
  rcases h with rfl | ⟨a, b, ha, hb, rfl⟩
  · exact List.mem_cons_self
  · exact List.mem_cons_of_mem _ (List.mem_flatMap.mpr ⟨a, ones_mem ha, List.mem_map.mpr ⟨b, ones_mem hb, rfl⟩⟩)
theorem few_pb {W : Ways} (ok : WOk W) {m : Nat} {s0 : NestedKey} (h0 : UPb W s0) (j : Nat) : (Q (goP W) m s0 j).length ≤ numP W.length := by
  have key := nodup_le ((Q (goP W) m s0 j).map (·.1)) (allP W.length) (Q_nodup _ _ _ j) fun x hx => by
    obtain ⟨r, hr, rfl⟩ := List.mem_map.mp hx
    exact allP_mem (Q_in (goP W) m s0 (U := UPb W) h0 (fun s x hs _ => UPb_go ok x hs) j r hr)
  rw [List.length_map, allP_len] at key
  exact key
def hL : Option Nat → Int
  | none => reduceHash 0xFCA86420
  | some q => hashInt (q : Int)
def hOne (a : One) : Int := reduceHash (Builtin.Tuple.tupleHashOf [hashInt (a.1 : Int), hL a.2])
def hPair (a b : One) : Int := reduceHash (Builtin.Tuple.tupleHashOf [hOne a, hOne b])
theorem hL_is (w : World) (l : Option Nat) : NestedKey.hash w (lK l) = hL l := by
  cases l <;> simp [lK, hL, NestedKey.hash]
theorem hOne_is (w : World) (a : One) : NestedKey.hash w (oneK a) = hOne a := by
  simp only [oneK, hOne, NestedKey.hash, NestedKey.hashes, hL_is]
theorem hPair_is (w : World) (a b : One) : NestedKey.hash w (pairK a b) = hPair a b := by
  show reduceHash (Builtin.Tuple.tupleHashOf _) = _
  simp only [NestedKey.hashes]
  rw [hOne_is, hOne_is]
  rfl
def noneApart (n : Nat) : Bool := (ones n).all fun a => (ones n).all fun b => decide (hPair a b ≠ reduceHash 0xFCA86420)
theorem none5 : noneApart 5 = true := by decide +kernel
theorem ones_up {n : Nat} {a : One} (h : OneOk n a) (hn : n ≤ 5) : a ∈ ones 5 := ones_mem ⟨Nat.lt_of_lt_of_le h.1 hn, fun q e => Nat.lt_of_lt_of_le (h.2 q e) hn⟩
theorem goOk_pb (w : World) {W : Ways} (ok : WOk W) (hn : W.length ≤ 5) {m : Nat} {s0 : NestedKey} (hm : m ≤ 1000) (h0 : UPb W s0) : GoOk w (UPb W) isApart (goP W) m s0 (numP W.length) where
  start := h0
  step := fun s x hs _ _ => UPb_go ok x hs
  kind := fun s hs => by
    rcases hs with rfl | ⟨a, b, ha, hb, rfl⟩
    · exact ⟨by simp [NestedKey.depth], .inl rfl⟩
    · refine ⟨?_, .inr ⟨_, rfl⟩⟩
      obtain ⟨p, l⟩ := a
      obtain ⟨q, k⟩ := b
      cases l <;> cases k <;> simp [NestedKey.depth, NestedKey.depthAll, lK]
  non := fun _ => ⟨rfl, fun s hs hne => by
    rcases hs with rfl | ⟨a, b, ha, hb, rfl⟩
    · exact absurd rfl hne
    · rw [hPair_is]
      have h := none5
      unfold noneApart at h
      rw [List.all_eq_true] at h
      have h1 := h a (ones_up ha hn)
      rw [List.all_eq_true] at h1
      have h2 := of_decide_eq_true (h1 b (ones_up hb hn))
      simpa [NestedKey.hash] using h2⟩
  few := few_pb ok h0
  small := by
    have h1 : W.length * (W.length + 1) ≤ 5 * 6 := Nat.mul_le_mul hn (by omega)
    have h2 : W.length * (W.length + 1) * (W.length * (W.length + 1)) ≤ 5 * 6 * (5 * 6) := Nat.mul_le_mul h1 h1
    show _ + 1 ≤ 100000
    omega
  most := hm
end Nw
end
section
set_option maxRecDepth 100000
set_option maxHeartbeats 2000000
namespace Nw
open PySem PySem.Spec PyProof.Rows L2 LamX NdefX
section
variable {P : Program} {w : World} {K : PySem.W.Frag} {mg : Str → Option Value} {base : Heap} {f : Addr} {fd : FuncData}
/-- the first word by which one with a pebble tells u and v apart -/
abbrev pebW (W : Ways) (u v : Nat) : Option (List Nat) := fwRes (goP W) (mostW W + 2 + 1) (unlessK W (u, none) (v, none)) isApart (numP W.length)
def sp_pebble_word (K : PySem.W.Frag) : Sp := fun vs H Q _ => ∃ (wv : V) (W : Ways) (u v : Nat), vs = [wv, .int u, .int v] ∧ TabsN (Tn K) H ∧ Dp K H wv (dWays W) ∧ WOk W ∧ W.length ≤ 5 ∧ mostW W ≤ 900 ∧ u < W.length ∧ v < W.length ∧
  ∀ H' z, ExtN H H' → TabsN (Tn K) H' → WordIs H' z (pebW W u v) → Q z H'
theorem sc_pebble_word : FnScope ["ways", "u", "v", "unless_apart", "go", "is_end"] ["ways", "u", "v"] (defScope s_pebble_word) := ⟨rfl, rfl, rfl, by decide +kernel, rfl, by decide +kernel, by decide +kernel⟩
abbrev clP (n : Nat) (st : Stmt) : List (Str × Addr) := cloFrom (cellsFrom (n + 1) (defScope s_pebble_word).names []) (C8.fnScope st).names []
theorem ok_pebble_word (T : Tx K mg) (TB : TabsB K mg base) (F : FnP K d_pebble_word (He.fAd K d_pebble_word.at_) fd) (G_first_word : HasS P w K mg 5 "first_word" ["start", "most", "go", "is_end"] (sp_first_word P w K mg)) (G_most_exits : Has P w K mg 1 "most_exits" ["ways"] (sp_most_exits K))
    (G_sight : Has P w K mg 1 "sight" ["ways", "one"] (sp_sight K)) (G_came_in : Has P w K mg 2 "came_in" ["ways", "place", "letter"] (sp_came_in K)) (G_bare : Has P w K mg 1 "bare" ["letter"] sp_bare) (G_gone : Has P w K mg 3 "gone" ["ways", "one", "letter"] (sp_gone K)) :
    FnOk P w K mg base CX0 6 (He.fAd K d_pebble_word.at_) fd ["ways", "u", "v"] (sp_pebble_word K) := by
  have nU := ndef_free (sc := defScope s_pebble_word) (nsc := C8.fnScope n_pw_un) (fr := ["ways"]) (by decide +kernel)
  have nUf := ndef_fr (sc := defScope s_pebble_word) (nsc := C8.fnScope n_pw_un) (fr := ["ways"]) (by decide +kernel)
  have nG := ndef_free (sc := defScope s_pebble_word) (nsc := C8.fnScope n_pw_go) (fr := ["unless_apart", "ways"]) (by decide +kernel)
  have nGf := ndef_fr (sc := defScope s_pebble_word) (nsc := C8.fnScope n_pw_go) (fr := ["unless_apart", "ways"]) (by decide +kernel)
  have nE := ndef_free (sc := defScope s_pebble_word) (nsc := C8.fnScope n_pw_end) (fr := []) (by decide +kernel)
  have nEf := ndef_fr (sc := defScope s_pebble_word) (nsc := C8.fnScope n_pw_end) (fr := []) (by decide +kernel)
  refine okC F sc_pebble_word (fun vs H Q E h => ?_) (fun A outer s H vs Q E hr h => ⟨_, PSs.nox
    (pss_cons (ps_ndefMS (st := n_pw_un) (T := Tn K) (nm := nmAll) (i := 3) rfl (TB ("pebble_word", none) (by decide)) rfl (List.mem_map.mpr ⟨("pebble_word", none), by decide, rfl⟩) nm135 (fun p hp => Tn_one K p hp _) nU rfl rfl rfl sc_pebble_word.nd rfl (Or.inr rfl) (Or.inl rfl))
      (pss_cons (ps_ndefMS (st := n_pw_go) (T := Tn K) (nm := nmAll) (i := 4) rfl (TB ("pebble_word", none) (by decide)) rfl (List.mem_map.mpr ⟨("pebble_word", none), by decide, rfl⟩) nm138 (fun p hp => Tn_one K p hp _) nG rfl rfl rfl sc_pebble_word.nd rfl (Or.inl rfl) (Or.inl rfl))
      (pss_cons (ps_ndefMS (st := n_pw_end) (T := Tn K) (nm := nmAll) (i := 5) rfl (TB ("pebble_word", none) (by decide)) rfl (List.mem_map.mpr ⟨("pebble_word", none), by decide, rfl⟩) nm144 (fun p hp => Tn_one K p hp _) nE rfl rfl rfl sc_pebble_word.nd rfl (Or.inl rfl) (Or.inl rfl))
      (pss_one (ps_ret (pe_hasS (cs := [(clP s.heap.objs.size n_pw_un, ["ways"], [0]), (clP s.heap.objs.size n_pw_go, ["unless_apart", "ways"], [3, 0]), (clP s.heap.objs.size n_pw_end, [], [])]) G_first_word hr (fun _ => rfl)
        (fun ok c hc => by
          rcases List.mem_cons.mp hc with e | hc
          · subst e
            exact Caps.made ok nU nUf rfl
          · rcases List.mem_cons.mp hc with e | hc
            · subst e
              exact Caps.made ok nG nGf rfl
            · rcases List.mem_cons.mp hc with e | hc
              · subst e
                exact Caps.made ok nE nEf rfl
              · cases hc)
        (pa_cons (pe_calln (k := 2) (mk := F_pw_un (clP s.heap.objs.size n_pw_un)) (cl := clP s.heap.objs.size n_pw_un) (ps := ["first", "second"]) (fr := ["ways"]) (js := [0]) (sp := fun _ _ => spn_pw_un K) (E := E0) (fun f c' => nok_pw_un G_sight f _ c') (fun _ => rfl) (fun ok => Caps.made ok nU nUf rfl) hr (by decide) pass0 (i := 3) rfl (Or.inr (Or.inl rfl))
            (pa_cons (pe_tup (pa_cons (pv 1) (pa_cons pe_non pa_nil))) (pa_cons (pe_tup (pa_cons (pv 2) (pa_cons pe_non pa_nil))) pa_nil)))
          (pa_cons (pe_op op_add (pe_has G_most_exits hr (pa_cons (pv 0) pa_nil)) (pe_gint T.c_TAKE)) (pa_cons (pv 4) (pa_cons (pv 5) pa_nil)))))))))), ?_⟩)
  · obtain ⟨wv, W, u, v, rfl, _⟩ := h
    rfl
  · obtain ⟨wv, W, u, v, rfl, hT, hW, ok, hn, hm, hu, hv, q⟩ := h
    refine ⟨hT, fun f1 c1 H1 e1 m1 t1 n1 hf1 hc1 => ⟨t1, fun f2 c2 H2 e2 m2 t2 n2 hf2 hc2 => ⟨t2, fun f3 c3 H3 e3 m3 t3 n3 hf3 hc3 => ?_⟩⟩⟩
    have e12 : ExtN H H2 := extN_trans e1 e2
    have e13 : ExtN H H3 := extN_trans e12 e3
    have e23 : ExtN H1 H3 := extN_trans e2 e3
    have hfu := e23 _ _ hf1 fnO_ne
    have hcu := e23 _ _ hc1 codeO_ne
    -- unless_apart((u, None), (v, None))
    refine ⟨f1, c1, rfl, hfu, _, rfl, (by show 2 ≤ sizeLine; decide), fun pu npu => ⟨_, rfl, (by show 2 ≤ sizeLine; decide), fun pv npv => ?_⟩⟩
    have s1 : Same H3 (upd H3 pu (.tup [.int (u : Int), .non])) := Same.new npu
    have s2 := s1.trans (Same.new (o := .tup [.int (v : Int), .non]) npv)
    have k1 : KeyAt (upd (upd H3 pu (.tup [.int (u : Int), .non])) pv (.tup [.int (v : Int), .non])) (oneK (u, none)) (.ref pu) := oneK_of (by rw [upd_ne (fun (e : pu = pv) => by rw [← e, upd_same] at npv; cases npv), upd_same]; rfl)
    have k2 : KeyAt (upd (upd H3 pu (.tup [.int (u : Int), .non])) pv (.tup [.int (v : Int), .non])) (oneK (v, none)) (.ref pv) := oneK_of upd_same
    have hW3 : Dp K H3 wv (dWays W) := hW.keep (extN_keep e13)
    refine ⟨s2 _ _ hfu, s2 _ _ hcu, wv, .ref pu, .ref pv, W, (u, none), (v, none), rfl, rfl, hW3.same s2, hu, hv, k1, k2, fun H4 z4 s4 kz => ?_⟩
    have s34 := s2.trans s4
    refine ⟨_, rfl, wv, W, rfl, hW3.same s34, by omega, by omega, fun H5 s5 => ?_⟩
    have s35 : Same H3 H5 := s34.trans s5
    refine ⟨_, _, rfl, rfl, _, rfl, _, rfl, fun b hcl => ?_⟩
    have e15 : ExtN H H5 := extN_trans e13 (same_ext s35)
    have cl1 := hcl _ List.mem_cons_self
    have cl2 := hcl _ (List.mem_cons_of_mem _ List.mem_cons_self)
    have cl3 := hcl _ (List.mem_cons_of_mem _ (List.mem_cons_of_mem _ List.mem_cons_self))
    have hW5 : Dp K H5 wv (dWays W) := hW3.same s35
    have h0 : UPb W (unlessK W (u, none) (v, none)) := UPb_unless ⟨hu, fun q e => by cases e⟩ ⟨hv, fun q e => by cases e⟩
    have cU : Clo P w K mg b 2 f1 H5 (sp_un K W H5) := by
      refine ⟨F_pw_un _ c1, _, _, _, spn_pw_un K, s35 _ _ hfu, s35 _ _ hcu, cl1, nok_pw_un G_sight f1 _ c1, fun vs H6 Q6 E6 h6 => ?_⟩
      obtain ⟨v1, v2, a, b6, rfl, s6, ha, hb, ka, kb, q6⟩ := h6
      exact ⟨wv, v1, v2, W, a, b6, rfl, rfl, hW5.same s6, ha, hb, ka, kb, q6⟩
    refine ⟨z4, mostW W + 2, f2, f3, UPb W, isApart, goP W, unlessK W (u, none) (v, none), numP W.length, rfl, kz.same s5, goOk_pb w ok hn (by omega) h0, ?_, ?_, fun H' z s6 hz => ?_⟩
    · refine ⟨F_pw_go _ c2, _, _, _, spn_pw_go P w K mg b, s35 _ _ (e3 _ _ hf2 fnO_ne), s35 _ _ (e3 _ _ hc2 codeO_ne), cl2, nok_pw_go T G_came_in G_bare G_gone f2 _ c2, fun vs H6 Q6 E6 h6 => ?_⟩
      obtain ⟨s7, z7, x7, rfl, s8, hU, hE, _, hk7, q7⟩ := h6
      rcases hU with rfl | ⟨a, b7, ha, hb, rfl⟩
      · cases hE
      · rw [goP_pair] at q7
        exact ⟨f1, wv, z7, W, H5, a, b7, x7, rfl, rfl, hW5.same s8, ok, ha.1, hb.1, hk7, s8, cU.same s8, q7⟩
    · refine ⟨F_pw_end _ c3, _, _, _, spn_pw_end, s35 _ _ hf3, s35 _ _ hc3, cl3, (nok_pw_end f3 _ c3).mono (by decide), fun vs H6 Q6 E6 h6 => ?_⟩
      obtain ⟨s7, z7, rfl, s8, hU, hk7, q7⟩ := h6
      refine ⟨z7, s7, rfl, rfl, hk7, ?_, q7 H6 (Same.refl _)⟩
      rcases hU with rfl | ⟨a, b7, ha, hb, rfl⟩
      · exact .inl rfl
      · exact .inr ⟨_, rfl⟩
    · exact q H' z (extN_trans e15 (same_ext s6)) (t3.ext fun b o e => s6 _ _ (s35 _ _ e)) hz
end
end Nw
end
section
set_option maxRecDepth 100000
set_option maxHeartbeats 2000000
namespace Nw
open PySem PySem.Spec PyProof.Rows L2 LamX NdefX
abbrev PAt (H : Hp) (t : V) (q : Nat × Nat) : Prop := ∃ a, t = .ref a ∧ H a = some (.tup [.int (q.1 : Int), .int (q.2 : Int)])
abbrev ipOf (p : Nat × Nat) : Int × Int := ((p.1 : Int), (p.2 : Int))
theorem PAt.dps {K : PySem.W.Frag} {H : Hp} : ∀ {ts : List V} {ps : List (Nat × Nat)}, Paired (PAt H) ts ps → DpAll K H ts ((ps.map ipOf).map dIP)
  | _, _, .nil => .nil
  | _, _, .cons h t => by
    obtain ⟨a, rfl, ha⟩ := h
    exact .cons (.tup (SqT.of ha) (.cons (.int _) (.cons (.int _) .nil))) (PAt.dps t)
theorem ipLt (p q : Nat × Nat) : PySem.W.DatumOrd.lt (ipOf p) (ipOf q) = decide (pLt p q) := by
  have e : PySem.W.DatumOrd.lt (ipOf p) (ipOf q) = if (p.1 : Int) = (q.1 : Int) then decide ((p.2 : Int) < (q.2 : Int)) else decide ((p.1 : Int) < (q.1 : Int)) := rfl
  rw [e]
  unfold pLt
  by_cases c : p.1 = q.1
  · rw [if_pos (by rw [c])]
    exact decide_eq_decide.mpr (by omega)
  · rw [if_neg (by omega)]
    exact decide_eq_decide.mpr (by omega)
theorem minOf_is (p : Nat × Nat) (l : List (Nat × Nat)) : PySem.W.minOf (ipOf p) (l.map ipOf) = ipOf (l.foldl (fun a y => if pLt y a then y else a) p) := by
  unfold PySem.W.minOf
  induction l generalizing p with
  | nil => rfl
  | cons y l ih =>
    rw [List.map_cons, List.foldl_cons, List.foldl_cons, ← ih, ipLt]
    by_cases c : pLt y p
    · rw [if_pos c, if_pos (decide_eq_true c)]
    · rw [if_neg c, if_neg (by rw [decide_eq_false c]; exact Bool.false_ne_true)]
theorem maxOf_is (p : Nat) (l : List Nat) : PySem.W.maxOf (p : Int) (l.map fun n : Nat => (n : Int)) = ((l.foldl max p : Nat) : Int) := by
  unfold PySem.W.maxOf
  induction l generalizing p with
  | nil => rfl
  | cons y l ih =>
    rw [List.map_cons, List.foldl_cons, List.foldl_cons, ← ih]
    have e : (if PySem.W.DatumOrd.lt (p : Int) (y : Int) = true then (y : Int) else (p : Int)) = ((max p y : Nat) : Int) := by
      have e1 : PySem.W.DatumOrd.lt (p : Int) (y : Int) = decide ((p : Int) < (y : Int)) := rfl
      rw [e1]
      by_cases c : p < y
      · rw [if_pos (decide_eq_true (by omega)), Nat.max_eq_right (by omega)]
      · rw [if_neg (by rw [decide_eq_false (by omega)]; exact Bool.false_ne_true), Nat.max_eq_left (by omega)]
    rw [e]
theorem paired_at {α β : Type} {R : α → β → Prop} : ∀ {xs : List α} {ys : List β} {i : Nat} {x : α} {y : β}, Paired R xs ys → xs[i]? = some x → ys[i]? = some y → R x y
  | _, _, _, _, _, .nil, e, _ => by simp at e
  | _, _, 0, _, _, .cons h t, e1, e2 => by
    simp only [List.getElem?_cons_zero, Option.some.injEq] at e1 e2
    subst e1 e2
    exact h
  | _, _, i + 1, _, _, .cons h t, e1, e2 => paired_at (i := i) t (by simpa using e1) (by simpa using e2)
section
variable {P : Program} {w : World} {K : PySem.W.Frag} {mg : Str → Option Value} {base : Heap} {f : Addr} {fd : FuncData}
def sp_at_worst (K : PySem.W.Frag) : Sp := fun vs H Q _ => ∃ (v : V) (l : List Nat), vs = [v] ∧ LN K H v l ∧ Q (.int (worstL l : Nat)) H
theorem sc_at_worst : FnScope ["known"] ["known"] (defScope s_at_worst) := ⟨rfl, rfl, rfl, by decide +kernel, rfl, by decide +kernel, by decide +kernel⟩
theorem ok_at_worst (T : Tx K mg) (F : FnP K d_at_worst f fd) : FnOk P w K mg base CX0 1 f fd ["known"] (sp_at_worst K) := by
  refine F.ok sc_at_worst (fun vs H Q E h => ?_) (fun cdv A outer s H vs Q E hr h => ⟨_, PSs.nox
    (pss_one (ps_ret (pe_callBK (cr_max_default rfl (u65 hr)) (by rfl) T.f_max (by decide +kernel) (pa_cons (pv 0) pa_nil) (pk_cons pe_int pk_nil)))), ?_⟩)
  · obtain ⟨v, l, rfl, _⟩ := h
    rfl
  · obtain ⟨v, l, rfl, ⟨a, rfl, ha⟩, q⟩ := h
    refine ⟨_, rfl, a, l.map fun n : Nat => (n : Int), .int 0, rfl, rfl, by rw [← vN_ints]; exact ha, fun e => ?_, fun p qs e => ?_⟩
    · have : l = [] := by simpa using e
      rw [this] at q
      exact q
    · cases l with
      | nil => cases e
      | cons x l =>
        rw [List.map_cons] at e
        injection e with e1 e2
        subst e1 e2
        rw [maxOf_is]
        have e3 : worstL (x :: l) = l.foldl max x := by
          unfold worstL
          rw [List.foldl_cons, Nat.max_eq_right (Nat.zero_le _)]
        rw [e3] at q
        exact q
def sp_all_together (K : PySem.W.Frag) : Sp := fun vs H Q _ => ∃ (v : V) (l : List Nat), vs = [v] ∧ LN K H v l ∧ Q (.int (l.sum : Nat)) H
theorem sc_all_together : FnScope ["known"] ["known"] (defScope s_all_together) := ⟨rfl, rfl, rfl, by decide +kernel, rfl, by decide +kernel, by decide +kernel⟩
theorem sum_nat : ∀ l : List Nat, (l.map fun n : Nat => (n : Int)).sum = ((l.sum : Nat) : Int)
  | [] => rfl
  | x :: l => by
    rw [List.map_cons, List.sum_cons, List.sum_cons, sum_nat l]
    omega
theorem ok_all_together (T : Tx K mg) (F : FnP K d_all_together f fd) : FnOk P w K mg base CX0 1 f fd ["known"] (sp_all_together K) := by
  refine F.ok sc_all_together (fun vs H Q E h => ?_) (fun cdv A outer s H vs Q E hr h => ⟨_, PSs.nox
    (pss_one (ps_ret (pe_callB (cr_sum rfl) (by rfl) T.f_sum (by decide +kernel) (pa_cons (pv 0) pa_nil)))), ?_⟩)
  · obtain ⟨v, l, rfl, _⟩ := h
    rfl
  · obtain ⟨v, l, rfl, ⟨a, rfl, ha⟩, q⟩ := h
    refine ⟨_, rfl, a, l.map fun n : Nat => (n : Int), rfl, by rw [← vN_ints]; exact ha, ?_⟩
    rw [sum_nat]
    exact q
def sp_all_but : Sp := fun vs H Q _ => ∃ (n h : Nat), vs = [.int n, .int h] ∧ n ≤ 1000 ∧ ∀ H' p, Same H H' → H p = none → H' p = some (.lst (vN (allBut n h))) → Q (.ref p) H'
theorem sc_all_but : FnScope ["size", "home", "place"] ["size", "home"] (defScope s_all_but) := ⟨rfl, rfl, rfl, by decide +kernel, rfl, by decide +kernel, by decide +kernel⟩
theorem ok_all_but (T : Tx K mg) (F : FnP K d_all_but f fd) : FnOk P w K mg base CX0 1 f fd ["size", "home"] sp_all_but := by
  refine F.ok sc_all_but (fun vs H Q E h => ?_) (fun cdv A outer s H vs Q E hr h => ⟨_, PSs.nox
    (pss_one (ps_ret (pe_lc (own := [("place", 2)]) (by rfl) sc_all_but.nd (pi_range1 (by rfl) T.f_range (pa_cons (pv 0) pa_nil)) (blkOk_by (own := [("place", 2)]) (N := ["size", "home", "place"]) (sc := defScope s_all_but) (by decide +kernel)) (fun _ _ _ _ _ => (pg_name (i := 2) sc_all_but.nd rfl (Or.inl rfl))) (fun _ _ _ _ _ => pts_one (pt_cmpR op_ne (pv 2) (pv 1) (nomark _))) (fun _ _ _ _ _ => (pv 2))))), ?_⟩)
  · obtain ⟨n, h, rfl, _⟩ := h
    rfl
  · obtain ⟨n, h, rfl, hn, q⟩ := h
    refine ⟨_, rfl, (n : Int), rfl, by omega, by omega, fun D nD => lc_range (lo := 0) (n := (n : Int).toNat) (fun i H' => Same H H' ∧ H' D = some (.lst (vN (allBut i h)))) ⟨Same.new nD, upd_same⟩ ?_ ?_⟩
    · rintro i H' hi ⟨s1, hD⟩
      show gName 2 (.int ((0 : Int) + (i : Int))) _ _ _
      rw [Int.zero_add]
      have e : (!decide (V.int (i : Int) = V.int (h : Int))) = decide (i ≠ h) := by
        rw [dec_nat]
        by_cases c : i = h
        · simp [c]
        · simp [c]
      refine ⟨rfl, _, rfl, _, rfl, rfl, _, rfl, ?_⟩
      rw [e]
      by_cases c : i = h
      · refine if_false_of (decide_eq_false (fun z => z c)) ⟨s1, ?_⟩
        rw [hD]
        unfold allBut
        rw [List.range_succ, List.filter_append]
        simp [c]
      · refine if_true_of (decide_eq_true c) ⟨_, rfl, _, hD, ?_, s1.upd nD, ?_⟩
        · rw [vN_len]
          unfold allBut
          exact Nat.lt_of_le_of_lt (Nat.le_trans (List.length_filter_le _ _) (by rw [List.length_range]; exact (show i ≤ 1000 by omega))) (by decide)
        · rw [upd_same]
          unfold allBut
          rw [List.range_succ, List.filter_append, vN_app]
          simp [c]
    · rintro H' ⟨s1, hD⟩
      have en : ((n : Int)).toNat = n := by omega
      rw [en] at hD
      exact q _ _ s1 nD hD
def sp_look_out (K : PySem.W.Frag) : Sp := fun vs H Q _ => ∃ (wv sv : V) (W : Ways) (S : List Nat) (here x : Nat), vs = [wv, sv, .int here, .int x] ∧ Dp K H wv (dWays W) ∧ WOk W ∧ W.length ≤ 1000 ∧ mostW W ≤ 1000 ∧ LN K H sv S ∧ here < W.length ∧ x < W.length ∧ (∀ q ∈ rowAt W x, q.1 ∈ S → ∃ d, (farW W S here).getD q.1 none = some d) ∧
  (∀ H', Same H H' → lookW W S here x = none → Q .non H') ∧ (∀ H' t p, Same H H' → lookW W S here x = some p → H' t = some (.tup [.int (p.1 : Int), .int (p.2 : Int)]) → Q (.ref t) H')
theorem sc_look_out : FnScope ["ways", "safe", "here", "place", "far", "beside", "other", "entry"] ["ways", "safe", "here", "place"] (defScope s_look_out) := ⟨rfl, rfl, rfl, by decide +kernel, rfl, by decide +kernel, by decide +kernel⟩
theorem ok_look_out (T : Tx K mg) (F : FnP K d_look_out f fd) (G_distances_among : Has P w K mg 1 "distances_among" ["ways", "among", "start"] (sp_distances_among K)) : FnOk P w K mg base CX0 2 f fd ["ways", "safe", "here", "place"] (sp_look_out K) := by
  refine F.ok sc_look_out (fun vs H Q E h => ?_) (fun cdv A outer s H vs Q E hr h => ⟨_, PSs.nox
    (pss_cons (ps_set (i := 4) sc_look_out.nd rfl (Or.inr rfl) (pe_has G_distances_among hr (pa_cons (pv 0) (pa_cons (pv 1) (pa_cons (pv 2) pa_nil)))))
      (pss_cons (ps_setLc (i := 5) (own := [("other", 6), ("entry", 7)]) (by rfl) sc_look_out.nd rfl rfl (sw_true rfl rfl rfl (by decide +kernel)) (pi_list (pe_ix ix_list (pv 0) (pv 3) (fun _ _ => rfl))) (blkOk_by (own := [("other", 6), ("entry", 7)]) (N := ["ways", "safe", "here", "place", "far", "beside", "other", "entry"]) (sc := defScope s_look_out) (by decide +kernel)) (fun _ _ _ _ _ => (gtupK K 2 rfl (pgs_cons (pg_name (i := 6) sc_look_out.nd rfl (Or.inl rfl)) (pgs_cons (pg_name (i := 7) sc_look_out.nd rfl (Or.inl rfl)) pgs_nil)))) (fun _ _ _ _ _ => pts_one (pt_cmpR (inseqK K) (pv 6) (pv 1) (by rfl))) (fun _ _ _ _ _ => (pe_tup (pa_cons (pe_ix (ixlK K) (pv 4) (pv 6) (fun _ _ => rfl)) (pa_cons (pv 6) pa_nil)))))
      (pss_one (ps_ret (pe_callBK (cr_min_default rfl (u65 hr)) (by rfl) T.f_min (by decide +kernel) (pa_cons (pv 5) pa_nil) (pk_cons pe_non pk_nil)))))), ?_⟩)
  · obtain ⟨wv, sv, W, S, here, x, rfl, _⟩ := h
    rfl
  · obtain ⟨wv, sv, W, S, here, x, rfl, hW, ok, hn, hm, hS, hh, hx, hfar, qN, qS⟩ := h
    obtain ⟨sa, rfl, hsa⟩ := hS
    refine ⟨_, rfl, _, rfl, _, rfl, wv, .ref sa, W, S, here, rfl, hW, ok, hn, ⟨sa, rfl, hsa⟩, hh, fun H1 pf s1 npf hpf => ?_⟩
    have hW1 := hW.same s1
    obtain ⟨a, xs, rfl, sq, al⟩ := hW1.lst_of
    obtain ⟨r, hr1, hr2⟩ := al.get (rowsGet (row_some hx))
    obtain ⟨b, ys, rfl, sq2, al2⟩ := hr2.lst_of
    have hyl : ys.length = (rowAt W x).length := by rw [al2.len, List.length_map]
    have flen : (farW W S here).length = W.length := (DQ_inv ok hh _).flen
    have hrow := mostW_le W x
    refine ⟨_, rfl, _, rfl, a, xs, x, _, rfl, rfl, sq, at_nat hr1, b, rfl, ⟨_, sq2⟩, fun D nD => lc_list (K := K) (a := b) (xs := ys) (fun i H' => Same H1 H' ∧ ∃ ts, H' D = some (.lst ts) ∧ Paired (PAt H') ts ((((rowAt W x).take i).filter fun q => decide (q.1 ∈ S)).map fun q => (farD W S here q.1, q.1))) ⟨Same.new nD, [], upd_same, .nil⟩ (fun i H' _ h => h.1.keep.sqL sq2) ?_ ?_⟩
    · rintro i y H' hy ⟨s2, ts, hD, hts⟩
      obtain ⟨d, hd1, hd2⟩ := al2.getV hy
      rw [List.getElem?_map] at hd1
      obtain ⟨p, hp, rfl⟩ := Option.map_eq_some_iff.mp hd1
      obtain ⟨c1, zs, rfl, sq3, al3⟩ := hd2.tup_of
      have ezs : zs = [.int (p.1 : Int), .int (p.2 : Int)] := DpAll.ints [(p.1 : Int), (p.2 : Int)] al3
      subst ezs
      have hp1 : p.1 < W.length := row_lt ok hx p (List.mem_of_getElem? hp)
      refine ⟨c1, _, rfl, s2.keep.sqT sq3, rfl, _, _, rfl, _, _, rfl, rfl, rfl, _, rfl, _, rfl, sa, _, rfl, .inl ((s1.trans s2).keep.sqL hsa), rfl, all_flat_vN S, _, rfl, ?_⟩
      show if (if false = true then !inV (.int (p.1 : Int)) (vN S) else inV (.int (p.1 : Int)) (vN S)) = true then _ else _
      rw [if_neg Bool.false_ne_true, inV_nat]
      cases c2 : S.contains p.1 with
      | false =>
        have hns : p.1 ∉ S := fun z => by rw [List.contains_iff_mem.mpr z] at c2; cases c2
        refine if_false_of rfl ⟨s2, ts, hD, ?_⟩
        rw [take_more hp, List.filter_append]
        simpa [hns] using hts
      | true =>
        have hin : p.1 ∈ S := List.contains_iff_mem.mp c2
        obtain ⟨dd, hdd⟩ := hfar p (List.mem_of_getElem? hp) hin
        refine if_true_of rfl ⟨_, rfl, _, rfl, pf, _, (p.1 : Int), _, rfl, rfl, SqL.of (s2 _ _ hpf), at_nat (vO_get (by rw [flen]; exact hp1)), _, rfl, (by show 2 ≤ sizeLine; decide), fun t nt => ⟨ts, ?_, ?_, ?_, ts ++ [.ref t], upd_same, ?_⟩⟩
        · rw [upd_ne (ne_of_none hD nt)]
          exact hD
        · rw [paired_len hts, List.length_map]
          exact Nat.lt_of_le_of_lt (Nat.le_trans (List.length_filter_le _ _) (Nat.le_trans (List.length_take_le' _ _) (show (rowAt W x).length ≤ 1000 by omega))) (by decide)
        · exact (s2.trans (Same.new nt)).upd nD
        · rw [take_more hp, List.filter_append, List.map_append]
          have e1 : (List.filter (fun q : Nat × Nat => decide (q.1 ∈ S)) [p]).map (fun q => (farD W S here q.1, q.1)) = [(farD W S here p.1, p.1)] := by simp [hin]
          rw [e1]
          have htD : t ≠ D := fun e => by rw [e, hD] at nt; cases nt
          refine paired_snoc (Paired.mapP hts fun v q h => ?_) ⟨t, rfl, ?_⟩
          · obtain ⟨c5, rfl, hc5⟩ := h
            refine ⟨c5, rfl, ?_⟩
            rw [upd_ne (ne_of hc5 hD fun z => by cases z), upd_ne (ne_of_none hc5 nt)]
            exact hc5
          · rw [upd_ne htD, upd_same]
            unfold farD
            rw [hdd]
            rfl
    · rintro H2 ⟨s2, ts, hD, hts⟩
      rw [hyl, List.take_length] at hts
      have hts : Paired (PAt H2) ts (beside W S here x) := hts
      have s12 := s1.trans s2
      refine ⟨_, rfl, D, ts, (beside W S here x).map ipOf, .non, rfl, rfl, SqL.of hD, PAt.dps hts, fun e => qN _ s12 ?_, fun p qs i v e hv hi => ?_⟩
      · have : beside W S here x = [] := by simpa using e
        unfold lookW
        rw [this]
        rfl
      · cases eb : beside W S here x with
        | nil => rw [eb] at e; cases e
        | cons p0 l =>
          rw [eb, List.map_cons] at e
          injection e with e1 e2
          subst e1 e2
          have el : lookW W S here x = some (l.foldl (fun a y => if pLt y a then y else a) p0) := by
            unfold lookW
            rw [eb]
            rfl
          generalize l.foldl (fun a y => if pLt y a then y else a) p0 = pm at el
          rw [minOf_is] at hi
          have hi2 : ∃ pi, (beside W S here x)[i]? = some pi ∧ ipOf pi = ipOf (l.foldl (fun a y => if pLt y a then y else a) p0) := by
            rw [List.getElem?_map] at hi
            obtain ⟨pi, h1, h2⟩ := Option.map_eq_some_iff.mp hi
            exact ⟨pi, h1, h2⟩
          obtain ⟨pi, h1, h2⟩ := hi2
          have el2 : lookW W S here x = some pi := by
            unfold lookW
            rw [eb]
            show some (l.foldl (fun a y => if pLt y a then y else a) p0) = some pi
            congr 1
            have h3 : (pi.1 : Int) = ((l.foldl (fun a y => if pLt y a then y else a) p0).1 : Int) := congrArg Prod.fst h2
            have h4 : (pi.2 : Int) = ((l.foldl (fun a y => if pLt y a then y else a) p0).2 : Int) := congrArg Prod.snd h2
            exact Prod.ext (by omega) (by omega)
          obtain ⟨t, rfl, ht⟩ := paired_at hts hv h1
          exact qS _ t pi s12 el2 ht
end
end Nw
end
section
set_option maxRecDepth 100000
set_option maxHeartbeats 2000000
namespace Nw
open PySem PySem.Spec PyProof.Rows L2 LamX NdefX
theorem cut_last (l : List V) : cutV l none (some (-1)) = l.dropLast := by
  unfold cutV
  rw [HT.sIx_none]
  have e : HT.sIx l.length l.length (some (-1)) = l.length - 1 := by
    show (if (-1 : Int) < 0 then ((-1 : Int) + (l.length : Int)).toNat else min (-1 : Int).toNat l.length) = _
    rw [if_pos (by decide)]
    omega
  rw [e, List.drop_zero, List.dropLast_eq_take]
  rfl
theorem vN_dropLast (l : List Nat) : (vN l).dropLast = vN l.dropLast := by
  rw [vN, vN, List.map_dropLast]
section
variable {P : Program} {w : World} {K : PySem.W.Frag} {mg : Str → Option Value} {base : Heap} {f : Addr} {fd : FuncData}
def sp_steps_known (K : PySem.W.Frag) : Sp := fun vs H Q _ => ∃ (wv ov : V) (W : Ways) (home : Nat) (o : List Nat), vs = [wv, .int home, ov] ∧ Dp K H wv (dWays W) ∧ WOk W ∧ WSym W ∧ W.length ≤ 1000 ∧ mostW W ≤ 1000 ∧ LN K H ov o ∧ home < W.length ∧ (∀ x ∈ o, x < W.length) ∧ o.length ≤ 100 ∧
  (∀ H', Same H H' → knownW W home o = none → Q .non H') ∧ (∀ H' t l, Same H H' → knownW W home o = some l → H t = none → H' t = some (.lst (vN l)) → Q (.ref t) H')
theorem sc_steps_known : FnScope ["ways", "home", "order", "safe", "here", "steps", "known", "place", "nearest"] ["ways", "home", "order"] (defScope s_steps_known) := ⟨rfl, rfl, rfl, by decide +kernel, rfl, by decide +kernel, by decide +kernel⟩
theorem known_len {W : Ways} {home : Nat} : ∀ (l : List Nat) {s : KSt}, knownSt W home l = some s → s.known.length = l.length ∧ s.safe.length = l.length + 1 := by
  have key : ∀ (l : List Nat) (s0 s : KSt), l.foldl (fun o x => o.bind (stepK W x)) (some s0) = some s → s.known.length = s0.known.length + l.length ∧ s.safe.length = s0.safe.length + l.length := by
    intro l
    induction l with
    | nil =>
      intro s0 s h
      cases h
      exact ⟨rfl, rfl⟩
    | cons x l ih =>
      intro s0 s h
      rw [List.foldl_cons] at h
      cases e : (some s0).bind (stepK W x) with
      | none => rw [e, knownSt_none] at h; cases h
      | some t =>
        rw [e] at h
        have e2 : stepK W x s0 = some t := e
        unfold stepK at e2
        obtain ⟨p, _, rfl⟩ := Option.map_eq_some_iff.mp e2
        obtain ⟨a, b⟩ := ih _ s h
        simp only [List.length_append, List.length_cons, List.length_nil] at a b ⊢
        omega
  intro l s h
  obtain ⟨a, b⟩ := key l _ s h
  simp only [List.length_cons, List.length_nil] at a b
  omega
theorem known_ok {W : Ways} (sym : WSym W) (ok : WOk W) {home : Nat} (hh : home < W.length) (l : List Nat) (hl : ∀ x ∈ l, x < W.length) {s : KSt} (h : knownSt W home l = some s) : KOk W s := by
  have key : ∀ (l : List Nat) (s0 : KSt), (∀ x ∈ l, x < W.length) → KOk W s0 → l.foldl (fun o x => o.bind (stepK W x)) (some s0) = some s → KOk W s := by
    intro l
    induction l with
    | nil =>
      intro s0 _ h0 h
      cases h
      exact h0
    | cons x l ih =>
      intro s0 hl h0 h
      rw [List.foldl_cons] at h
      cases e : (some s0).bind (stepK W x) with
      | none => rw [e, knownSt_none] at h; cases h
      | some t =>
        rw [e] at h
        exact ih t (fun y hy => hl y (List.mem_cons_of_mem _ hy)) (stepK_ok sym ok (hl x List.mem_cons_self) h0 e) h
  exact key l _ hl (KOk.first hh) h
theorem ok_steps_known (T : Tx K mg) (F : FnP K d_steps_known f fd) (G_look_out : Has P w K mg 2 "look_out" ["ways", "safe", "here", "place"] (sp_look_out K)) : FnOk P w K mg base CX0 3 f fd ["ways", "home", "order"] (sp_steps_known K) := by
  refine F.ok sc_steps_known (fun vs H Q E h => ?_) (fun cdv A outer s H vs Q E hr h => ⟨_, PSs.nox
    (pss_cons (ps_set (i := 3) sc_steps_known.nd rfl (Or.inl rfl) (pe_lst (pa_cons (pv 1) pa_nil)))
      (pss_cons (ps_set (i := 4) sc_steps_known.nd rfl (Or.inl rfl) (pv 1))
      (pss_cons (ps_set (i := 5) sc_steps_known.nd rfl (Or.inl rfl) pe_int)
      (pss_cons (ps_set (i := 6) sc_steps_known.nd rfl (Or.inl rfl) (pe_lst pa_nil))
      (pss_cons (ps_for PassesOwn.never rfl (pi_list (pe_slice sl_list (pv 2) po_none (po_some (pe_un un_neg pe_int)))) (pg_name (i := 7) sc_steps_known.nd rfl (Or.inl rfl)) (pss_cons (ps_set (i := 8) sc_steps_known.nd rfl (Or.inl rfl) (pe_has G_look_out hr (pa_cons (pv 0) (pa_cons (pv 3) (pa_cons (pv 4) (pa_cons (pv 7) pa_nil))))))
      (pss_cons (ps_if (pt_cmpR op_isN (pv 8) pe_non (nomark _)) (pss_one (ps_ret pe_non)) pss_nil)
      (pss_cons (ps_set (i := 4) sc_steps_known.nd rfl (Or.inl rfl) (pe_ix ix_tup (pv 8) pe_int (fun _ _ => rfl)))
      (pss_cons (ps_set (i := 5) sc_steps_known.nd rfl (Or.inl rfl) (pe_op op_add (pe_op op_add (pv 5) (pe_ix ix_tup (pv 8) pe_int (fun _ _ => rfl))) (pe_gint T.c_IN_AND_BACK)))
      (pss_cons (ps_expr (pe_bm PySem.F.plainAttrs_list PySem.F.slot_list_append PySem.F.type_list_append mt_append (pv 6) (pa_cons (pv 5) pa_nil)))
      (pss_one (ps_expr (pe_bm PySem.F.plainAttrs_list PySem.F.slot_list_append PySem.F.type_list_append mt_append (pv 3) (pa_cons (pv 7) pa_nil))))))))))
      (pss_cons (ps_if (pt_cmpR op_gt (pe_callB call_len_seq (by rfl) T.f_len PySem.boot_len (pa_cons (pv 2) pa_nil)) pe_int (nomark _)) (pss_one (ps_expr (pe_bm PySem.F.plainAttrs_list PySem.F.slot_list_append PySem.F.type_list_append mt_append (pv 6) (pa_cons (pv 5) pa_nil)))) pss_nil)
      (pss_one (ps_ret (pv 6))))))))), ?_⟩)
  · obtain ⟨wv, ov, W, home, o, rfl, _⟩ := h
    rfl
  · obtain ⟨wv, ov, W, home, o, rfl, hW, ok, sym, hn, hm, ⟨oa, rfl, hoa⟩, hh, ho, hol, qN, qS⟩ := h
    -- safe = [home]
    refine ⟨_, rfl, (by show 1 ≤ sizeLine; decide), fun ps nps => ⟨_, rfl, (by show 0 ≤ sizeLine; decide), fun pk npk => ?_⟩⟩
    have s1 : Same H (upd H ps (.lst [.int (home : Int)])) := Same.new nps
    have nk0 := s1.free npk
    have hks : pk ≠ ps := fun e => by rw [e, upd_same] at npk; cases npk
    have s2 := s1.upd (o := .lst []) nk0
    -- order[:-1]
    refine ⟨_, rfl, ?_⟩
    refine ⟨(1 : Int), rfl, _, rfl, oa, _, rfl, s2.keep.sqL hoa, fun pc npc => ?_⟩
    have nc0 := s2.free npc
    have ec : cutV (vN o) none (some (-1)) = vN o.dropLast := by rw [cut_last, vN_dropLast]
    have ec2 : cutV (vN o) none (some (-(1 : Int))) = vN o.dropLast := ec
    rw [ec2]
    have s3 := s2.upd (o := .lst (vN o.dropLast)) nc0
    have hps2 : upd (upd H ps (.lst [.int (home : Int)])) pk (.lst []) ps = some (.lst [.int (home : Int)]) := by rw [upd_ne (Ne.symm hks), upd_same]
    have hcs : pc ≠ ps := fun e => by rw [e, hps2] at npc; cases npc
    have hck : pc ≠ pk := fun e => by rw [e, upd_same] at npc; cases npc
    have hdl : ∀ x ∈ o.dropLast, x < W.length := fun x hx => ho x (List.dropLast_subset o hx)
    have hdn : o.dropLast.length ≤ 100 := by rw [List.length_dropLast]; omega
    refine ⟨pc, rfl, ⟨_, SqL.of upd_same⟩, for_list (K := K) (a := pc) (xs := vN o.dropLast) (fun i σ H' => ∃ (st : KSt) (z1 z2 : Option V), knownSt W home (o.dropLast.take i) = some st ∧ σ = [some wv, some (.int home), some (.ref oa), some (.ref ps), some (.int (st.here : Nat)), some (.int (st.steps : Nat)), some (.ref pk), z1, z2] ∧ Same H H' ∧ H' pc = some (.lst (vN o.dropLast)) ∧ H' ps = some (.lst (vN st.safe)) ∧ H' pk = some (.lst (vN st.known)))
      ⟨⟨[home], home, 0, []⟩, none, none, rfl, rfl, s3, upd_same, by rw [upd_ne (Ne.symm hcs)]; exact hps2, by rw [upd_ne (Ne.symm hck), upd_same]; rfl⟩ (fun i σ H' _ ⟨_, _, _, _, _, _, h, _⟩ => SqL.of h) ?_ ?_⟩
    · rintro i x σ H' hx ⟨st, z1, z2, hst, rfl, s4, hpc, hps, hpk⟩
      obtain ⟨n5, hn5, rfl⟩ := vN_of hx
      have hn5l := hdl n5 (List.mem_of_getElem? hn5)
      have hok := known_ok sym ok hh (o.dropLast.take i) (fun y hy => hdl y (List.mem_of_mem_take hy)) hst
      have hil : i < o.dropLast.length := (List.getElem?_eq_some_iff.mp hn5).1
      have hlen := known_len _ hst
      rw [List.length_take] at hlen
      have more := knownSt_more (W := W) (home := home) hn5
      rw [hst] at more
      have more : knownSt W home (o.dropLast.take (i + 1)) = stepK W n5 st := more
      have hhere := hok.lt _ hok.here
      -- nearest = look_out(ways, safe, here, place)
      refine ⟨_, rfl, _, rfl, _, rfl, _, rfl, wv, .ref ps, W, st.safe, st.here, n5, rfl, hW.same s4, ok, hn, hm, ⟨ps, rfl, SqL.of hps⟩, hhere, hn5l, fun q hq hqs => far_of_rch ok hhere (hok.lt _ hqs) (hok.conn _ hok.here _ hqs), fun H5 s5 e => ?_, fun H5 t p s5 e ht => ?_⟩
      · have e1 : knownSt W home (o.dropLast.take (i + 1)) = none := by
          rw [more]
          unfold stepK
          rw [e]
          rfl
        have e2 : knownW W home o = none := by
          unfold knownW
          rw [knownSt_stop e1]
          rfl
        exact ⟨_, rfl, rfl, _, rfl, if_true_of rfl (qN _ (s4.trans s5) e2)⟩
      · have e1 : stepK W n5 st = some ⟨st.safe ++ [n5], p.2, st.steps + p.1 + 2, st.known ++ [st.steps + p.1 + 2]⟩ := by
          unfold stepK
          rw [e]
          rfl
        rw [e1] at more
        refine ⟨_, rfl, rfl, _, rfl, if_false_of rfl ?_⟩
        refine ⟨_, rfl, t, _, (1 : Int), _, rfl, rfl, SqT.of ht, rfl, ?_⟩
        refine ⟨_, rfl, _, rfl, t, _, (0 : Int), _, rfl, rfl, SqT.of ht, rfl, _, _, rfl, rfl, _, _, rfl, rfl, ?_⟩
        have es : ((st.steps : Int) + (p.1 : Int)) + 2 = ((st.steps + p.1 + 2 : Nat) : Int) := by omega
        -- known.append(steps)
        refine ⟨_, rfl, .inl ⟨rfl, _, SqL.of (s5 _ _ hpk)⟩, _, rfl, pk, _, _, rfl, rfl, s5 _ _ hpk, ?_, ?_⟩
        · rw [vN_len]
          exact Nat.lt_of_le_of_lt (show st.known.length ≤ 100 by omega) (by decide)
        have hps5 : upd H5 pk (.lst (vN st.known ++ [.int ((st.steps : Int) + (p.1 : Int) + 2)])) ps = some (.lst (vN st.safe)) := by rw [upd_ne (Ne.symm hks)]; exact s5 _ _ hps
        refine ⟨_, rfl, .inl ⟨rfl, _, SqL.of hps5⟩, _, rfl, ps, _, _, rfl, rfl, hps5, ?_, ?_⟩
        · rw [vN_len]
          exact Nat.lt_of_le_of_lt (show st.safe.length ≤ 102 by omega) (by decide)
        refine ⟨_, some (.int (n5 : Int)), some (.ref t), more, ?_, ((s4.trans s5).upd nk0).upd nps, ?_, ?_, ?_⟩
        · show [some wv, some (V.int (home : Int)), some (V.ref oa), some (V.ref ps), some (V.int (p.2 : Int)), some (V.int ((st.steps : Int) + (p.1 : Int) + 2)), some (V.ref pk), some (V.int (n5 : Int)), some (V.ref t)] = _
          rw [es]
        · rw [upd_ne hcs, upd_ne hck]
          exact s5 _ _ hpc
        · rw [upd_same, vN_snoc]
        · rw [upd_ne hks, upd_same]
          show some (HO.lst (vN st.known ++ [V.int ((st.steps : Int) + (p.1 : Int) + 2)])) = _
          rw [es, vN_snoc]
    · rintro σ H' ⟨st, z1, z2, hst, rfl, s4, hpc, hps, hpk⟩
      rw [vN_len, List.take_length] at hst
      have hlen := known_len _ hst
      refine ⟨_, rfl, oa, _, rfl, .inl (s4.keep.sqL hoa), _, _, rfl, rfl, _, rfl, ?_⟩
      by_cases c : o = []
      · have e : knownW W home o = some st.known := by
          unfold knownW
          rw [hst]
          show some (if o = [] then st.known else st.known ++ [st.steps]) = _
          rw [if_pos c]
        refine if_false_of (decide_eq_false (by rw [c]; decide)) ⟨_, rfl, qS _ _ _ s4 e nk0 hpk⟩
      · have e : knownW W home o = some (st.known ++ [st.steps]) := by
          unfold knownW
          rw [hst]
          show some (if o = [] then st.known else st.known ++ [st.steps]) = _
          rw [if_neg c]
        have hpos : 0 < o.length := List.length_pos_iff.mpr c
        refine if_true_of (decide_eq_true (by rw [vN_len]; omega)) ?_
        refine ⟨_, rfl, .inl ⟨rfl, _, SqL.of hpk⟩, _, rfl, pk, _, _, rfl, rfl, hpk, ?_, _, rfl, qS _ _ _ (s4.upd nk0) e nk0 ?_⟩
        · rw [vN_len]
          exact Nat.lt_of_le_of_lt (show st.known.length ≤ 100 by omega) (by decide)
        · rw [upd_same, vN_snoc]
end
end Nw
end
section
set_option maxRecDepth 100000
set_option maxHeartbeats 2000000
namespace Nw
open PySem PySem.Spec PyProof.Rows L2 LamX NdefX
/-- lists of numbers, none of them at an address of X -/
abbrev OAt (H : Hp) (X : List Addr) (v : V) (o : List Nat) : Prop := ∃ r, v = .ref r ∧ r ∉ X ∧ H r = some (.lst (vN o))
abbrev OL (H : Hp) (X : List Addr) (vs : List V) (os : List (List Nat)) : Prop := Paired (OAt H X) vs os
theorem OL.up {H H' : Hp} {X : List Addr} {vs : List V} {os : List (List Nat)} (h : OL H X vs os) (k : ∀ r o, r ∉ X → H r = some (.lst (vN o)) → H' r = some (.lst (vN o))) : OL H' X vs os := Paired.mapP h fun v o ⟨r, e, n, h⟩ => ⟨r, e, n, k r o n h⟩
theorem OL.new {H : Hp} {X : List Addr} {vs : List V} {os : List (List Nat)} {D : Addr} (h : OL H X vs os) (n : H D = none) : OL H (D :: X) vs os := Paired.mapP h fun v o ⟨r, e, k, h⟩ => ⟨r, e, fun z => by
  rcases List.mem_cons.mp z with z | z
  · rw [z, n] at h
    cases h
  · exact k z, h⟩
theorem OL.less {H : Hp} {X Y : List Addr} {vs : List V} {os : List (List Nat)} (h : OL H X vs os) (k : ∀ a ∈ Y, a ∈ X) : OL H Y vs os := Paired.mapP h fun v o ⟨r, e, n, h⟩ => ⟨r, e, fun z => n (k r z), h⟩
theorem OL.app {H : Hp} {X : List Addr} : ∀ {vs us : List V} {os ps : List (List Nat)}, OL H X vs os → OL H X us ps → OL H X (vs ++ us) (os ++ ps)
  | _, _, _, _, .nil, b => b
  | _, _, _, _, .cons h t, b => .cons h (OL.app t b)
theorem orders_len (ps : List Nat) : ∀ i, (ordersO ps i).length ≤ ps.length ^ i
  | 0 => by simp [ordersO]
  | i + 1 => by
    have key : ∀ (os : List (List Nat)), (os.flatMap (longerO ps)).length ≤ os.length * ps.length := by
      intro os
      induction os with
      | nil => simp
      | cons o os ih =>
        rw [List.flatMap_cons, List.length_append, List.length_cons, Nat.succ_mul]
        have : (longerO ps o).length ≤ ps.length := by
          unfold longerO
          rw [List.length_map]
          exact List.length_filter_le _ _
        omega
    rw [ordersO, Nat.pow_succ]
    exact Nat.le_trans (key _) (Nat.mul_le_mul_right _ (orders_len ps i))
theorem orders_in (ps : List Nat) : ∀ i, ∀ o ∈ ordersO ps i, o.length = i ∧ ∀ x ∈ o, x ∈ ps
  | 0, o, h => by
    have : o = [] := by simpa [ordersO] using h
    subst this
    exact ⟨rfl, (fun x hx => nomatch hx)⟩
  | i + 1, o, h => by
    rw [ordersO] at h
    obtain ⟨o1, h1, h2⟩ := List.mem_flatMap.mp h
    obtain ⟨e1, e2⟩ := orders_in ps i o1 h1
    unfold longerO at h2
    obtain ⟨p, hp, rfl⟩ := List.mem_map.mp h2
    refine ⟨by simp [e1], fun x hx => ?_⟩
    rcases List.mem_append.mp hx with hx | hx
    · exact e2 x hx
    · simp only [List.mem_singleton] at hx
      subst hx
      exact (List.mem_filter.mp hp).1
section
variable {P : Program} {w : World} {K : PySem.W.Frag} {mg : Str → Option Value} {base : Heap} {f : Addr} {fd : FuncData}
def sp_orders_of (K : PySem.W.Frag) : Sp := fun vs H Q _ => ∃ (pv : V) (ps : List Nat), vs = [pv] ∧ LN K H pv ps ∧ ps.length ≤ 6 ∧ ∀ H' p us, Same H H' → H p = none → H' p = some (.lst us) → OL H' [p] us (ordersO ps ps.length) → Q (.ref p) H'
theorem sc_orders_of : FnScope ["places", "orders", "turn", "longer", "order", "place"] ["places"] (defScope s_orders_of) := ⟨rfl, rfl, rfl, by decide +kernel, rfl, by decide +kernel, by decide +kernel⟩
theorem ok_orders_of (T : Tx K mg) (F : FnP K d_orders_of f fd) : FnOk P w K mg base CX0 1 f fd ["places"] (sp_orders_of K) := by
  refine F.ok sc_orders_of (fun vs H Q E h => ?_) (fun cdv A outer s H vs Q E hr h => ⟨_, PSs.nox
    (pss_cons (ps_set (i := 1) sc_orders_of.nd rfl (Or.inl rfl) (pe_lst (pa_cons (pe_lst pa_nil) pa_nil)))
      (pss_cons (ps_for PassesOwn.never rfl (pi_list (pv 0)) (pg_name (i := 2) sc_orders_of.nd rfl (Or.inl rfl)) (pss_cons (ps_set (i := 3) sc_orders_of.nd rfl (Or.inl rfl) (pe_lst pa_nil))
      (pss_cons (ps_for PassesOwn.never rfl (pi_list (pv 1)) (pg_name (i := 4) sc_orders_of.nd rfl (Or.inr rfl)) (pss_one (ps_expr (pe_bm PySem.F.plainAttrs_list PySem.F.slot_list_extend PySem.F.type_list_extend mt_extend (pv 3) (pa_cons (pe_lc (own := [("place", 5)]) (by rfl) sc_orders_of.nd (pi_list (pv 0)) (blkOk_by (own := [("place", 5)]) (N := ["places", "orders", "turn", "longer", "order", "place"]) (sc := defScope s_orders_of) (by decide +kernel)) (fun _ _ _ _ _ => (pg_name (i := 5) sc_orders_of.nd rfl (Or.inl rfl))) (fun _ _ _ _ _ => pts_one (pt_cmpR (notInseqK K) (pv 5) (pv 4) (by rfl))) (fun _ _ _ _ _ => (pe_op op_cat (pv 4) (pe_lst (pa_cons (pv 5) pa_nil))))) pa_nil)))))
      (pss_one (ps_set (i := 1) sc_orders_of.nd rfl (Or.inl rfl) (pv 3))))))
      (pss_one (ps_ret (pv 1))))), ?_⟩)
  · obtain ⟨pv, ps, rfl, _⟩ := h
    rfl
  · obtain ⟨pv, ps, rfl, ⟨pa, rfl, hpa⟩, hl, q⟩ := h
    -- orders = [[]]
    refine ⟨(by show 0 ≤ sizeLine; decide), fun p0 np0 => ⟨(by show 1 ≤ sizeLine; decide), fun po npo => ?_⟩⟩
    have s1 : Same H (upd H p0 (.lst [])) := Same.new np0
    have npo0 := s1.free npo
    have hpo0 : p0 ≠ po := fun e => by rw [e, upd_same] at npo; cases npo
    have s2 := s1.upd (o := .lst [.ref p0]) npo0
    have big : ∀ i, i ≤ ps.length → (ordersO ps i).length ≤ 46656 := fun i hi => by
      have h1 := orders_len ps i
      have h2 : ps.length ^ i ≤ 6 ^ 6 := Nat.le_trans (Nat.pow_le_pow_left hl i) (Nat.pow_le_pow_right (by decide) (by omega))
      exact Nat.le_trans h1 h2
    -- for turn in places
    refine ⟨_, rfl, pa, rfl, ⟨_, s2.keep.sqL hpa⟩, for_list (K := K) (a := pa) (xs := vN ps) (fun i σ H' => ∃ (po : Addr) (us : List V) (z1 z2 z3 z4 : Option V), σ = [some (.ref pa), some (.ref po), z1, z2, z3, z4] ∧ Same H H' ∧ H po = none ∧ H' po = some (.lst us) ∧ OL H' [po] us (ordersO ps i))
      ⟨po, _, none, none, none, none, rfl, s2, npo0, upd_same, .cons ⟨p0, rfl, by simpa using hpo0, by rw [upd_ne hpo0, upd_same]; rfl⟩ .nil⟩ (fun i σ H' _ ⟨_, _, _, _, _, _, _, s, _⟩ => s.keep.sqL hpa) ?_ ?_⟩
    · rintro i x σ H' hx ⟨po, us, z1, z2, z3, z4, rfl, s3, npo, hpo, hus⟩
      have hi : i < ps.length := by
        have := (List.getElem?_eq_some_iff.mp hx).1
        rw [vN_len] at this
        exact this
      -- longer = []
      refine ⟨(by show 0 ≤ sizeLine; decide), fun D nD => ?_⟩
      have hpD : po ≠ D := fun e => by rw [e, nD] at hpo; cases hpo
      have nD0 := s3.free nD
      have s4 := s3.upd (o := .lst []) nD0
      have hpo4 : upd H' D (.lst []) po = some (.lst us) := by rw [upd_ne hpD]; exact hpo
      have hus4 : OL (upd H' D (.lst [])) [D, po] us (ordersO ps i) := OL.up (hus.new nD) fun r o nr hr => by
        rw [upd_ne fun e => nr (by rw [e]; exact List.mem_cons_self)]
        exact hr
      have hul := paired_len hus
      -- for order in orders
      refine ⟨_, rfl, po, rfl, ⟨_, SqL.of hpo4⟩, for_list (K := K) (a := po) (xs := us) (fun j σ H5 => ∃ (ls : List V) (z3 z4 : Option V), σ = [some (.ref pa), some (.ref po), some x, some (.ref D), z3, z4] ∧ Same H H5 ∧ H5 po = some (.lst us) ∧ H5 D = some (.lst ls) ∧ OL H5 [D, po] us (ordersO ps i) ∧ OL H5 [D, po] ls (((ordersO ps i).take j).flatMap (longerO ps)))
        ⟨[], z3, z4, rfl, s4, hpo4, upd_same, hus4, .nil⟩ (fun j σ H5 _ ⟨_, _, _, _, _, h, _⟩ => SqL.of h) ?_ ?_⟩
      · rintro j y σ H5 hy ⟨ls, z3, z4, rfl, s5, hpo5, hD5, hus5, hls5⟩
        obtain ⟨o, ho⟩ : ∃ o, (ordersO ps i)[j]? = some o := ⟨_, List.getElem?_eq_getElem (by rw [← hul]; exact (List.getElem?_eq_some_iff.mp hy).1)⟩
        obtain ⟨r, rfl, hrX, hr5⟩ := paired_at hus5 hy ho
        have hol := (orders_in ps i o (List.mem_of_getElem? ho)).1
        have jlt : j < (ordersO ps i).length := (List.getElem?_eq_some_iff.mp ho).1
        have hlsl : ls.length ≤ 46656 * 6 := by
          rw [paired_len hls5]
          have key : ∀ (os : List (List Nat)), (os.flatMap (longerO ps)).length ≤ os.length * ps.length := by
            intro os
            induction os with
            | nil => simp
            | cons o os ih =>
              rw [List.flatMap_cons, List.length_append, List.length_cons, Nat.succ_mul]
              have : (longerO ps o).length ≤ ps.length := by
                unfold longerO
                rw [List.length_map]
                exact List.length_filter_le _ _
              omega
          have h1 := key ((ordersO ps i).take j)
          have h2 : ((ordersO ps i).take j).length ≤ 46656 := Nat.le_trans (List.length_take_le' _ _) (big i (by omega))
          exact Nat.le_trans h1 (Nat.mul_le_mul h2 hl)
        -- [order + [place] for place in places if place not in order]
        refine ⟨_, rfl, .inl ⟨rfl, _, SqL.of hD5⟩, _, rfl, pa, rfl, ⟨_, s5.keep.sqL hpa⟩, fun C nC => lc_list (K := K) (a := pa) (xs := vN ps) (fun k H6 => Same H5 H6 ∧ ∃ ts, H6 C = some (.lst ts) ∧ OL H6 [C, D, po] ts (((ps.take k).filter fun p => decide (p ∉ o)).map fun p => o ++ [p])) ⟨Same.new nC, [], upd_same, .nil⟩ (fun k H6 _ h => (s5.trans h.1).keep.sqL hpa) ?_ ?_⟩
        · rintro k y H6 hy ⟨s6, ts, hC, hts⟩
          obtain ⟨p, hp, rfl⟩ := vN_of hy
          refine ⟨rfl, _, rfl, _, rfl, r, _, rfl, .inl (SqL.of (s6 _ _ hr5)), rfl, all_flat_vN o, _, rfl, ?_⟩
          show if (if true = true then !inV (.int (p : Int)) (vN o) else inV (.int (p : Int)) (vN o)) = true then _ else _
          rw [if_pos rfl, inV_nat]
          cases c2 : o.contains p with
          | true =>
            have hin : p ∈ o := List.contains_iff_mem.mp c2
            refine if_false_of rfl ⟨s6, ts, hC, ?_⟩
            rw [take_more hp, List.filter_append]
            simpa [hin] using hts
          | false =>
            have hin : p ∉ o := fun z => by rw [List.contains_iff_mem.mpr z] at c2; cases c2
            refine if_true_of rfl ⟨_, rfl, _, rfl, (by show 1 ≤ sizeLine; decide), fun t nt => ?_⟩
            have s7 : Same H6 (upd H6 t (.lst [.int (p : Int)])) := Same.new nt
            have hr7 := s7 _ _ (s6 _ _ hr5)
            refine ⟨r, t, _, _, rfl, rfl, hr7, upd_same, by rw [vN_len]; exact Nat.le_trans (show o.length + 1 ≤ 7 by omega) (by decide), fun c nc => ⟨ts, ?_, ?_, ?_, ts ++ [.ref c], upd_same, ?_⟩⟩
            · have h7 := s7 _ _ hC
              rw [upd_ne (ne_of_none h7 nc)]
              exact h7
            · rw [paired_len hts, List.length_map]
              exact Nat.lt_of_le_of_lt (Nat.le_trans (List.length_filter_le _ _) (Nat.le_trans (List.length_take_le' _ _) hl)) (by decide)
            · exact ((s6.trans s7).trans (Same.new nc)).upd nC
            · have e : ((ps.take (k + 1)).filter fun p => decide (p ∉ o)).map (fun p => o ++ [p]) = (((ps.take k).filter fun p => decide (p ∉ o)).map fun p => o ++ [p]) ++ [o ++ [p]] := by
                rw [take_more hp, List.filter_append, List.map_append]
                simp [hin]
              rw [e]
              have n6 : H6 c = none := s7.free nc
              have hcC : c ≠ C := fun e => by rw [e, hC] at n6; cases n6
              refine OL.app (OL.up hts fun a l na ha => ?_) (.cons ⟨c, rfl, ?_, ?_⟩ .nil)
              · rw [upd_ne fun e => na (by rw [e]; exact List.mem_cons_self), upd_ne (ne_of_none (s7 _ _ ha) nc)]
                exact s7 _ _ ha
              · intro z
                have n5 : H5 c = none := s6.free n6
                rcases List.mem_cons.mp z with z | z
                · exact hcC z
                · rcases List.mem_cons.mp z with z | z
                  · rw [z, hD5] at n5
                    cases n5
                  · simp only [List.mem_singleton] at z
                    rw [z, hpo5] at n5
                    cases n5
              · rw [upd_ne hcC, upd_same, vN_snoc]
        · rintro H6 ⟨s6, ts, hC, hts⟩
          rw [vN_len, List.take_length] at hts
          have hts : OL H6 [C, D, po] ts (longerO ps o) := hts
          have hDC : D ≠ C := fun e => by rw [← e, hD5] at nC; cases nC
          have hD6 := s6 _ _ hD5
          have htl := paired_len hts
          have hll : (longerO ps o).length ≤ 6 := by
            unfold longerO
            rw [List.length_map]
            exact Nat.le_trans (List.length_filter_le _ _) hl
          refine ⟨D, C, _, _, rfl, rfl, hD6, hC, Nat.le_trans (show ls.length + ts.length ≤ 46656 * 6 + 6 by omega) (by decide), ?_⟩
          have chg : ∀ (a : Addr) (l : List Nat), a ∉ [D, po] → H6 a = some (.lst (vN l)) → upd H6 D (.lst (ls ++ ts)) a = some (.lst (vN l)) := fun a l na ha => by
            rw [upd_ne fun e => na (by rw [e]; exact List.mem_cons_self)]
            exact ha
          refine ⟨ls ++ ts, _, _, rfl, ?_, ?_, upd_same, ?_, ?_⟩
          · exact (s5.trans s6).upd nD0
          · rw [upd_ne hpD]
            exact s6 _ _ hpo5
          · exact OL.up hus5 fun a l na ha => chg a l na (s6 _ _ ha)
          · rw [take_more ho, List.flatMap_append]
            have e : [o].flatMap (longerO ps) = longerO ps o := by simp
            rw [e]
            exact OL.app (OL.up hls5 fun a l na ha => chg a l na (s6 _ _ ha)) (OL.up (hts.less fun a ha => List.mem_cons_of_mem _ ha) chg)
      · rintro σ H5 ⟨ls, z3, z4, rfl, s5, hpo5, hD5, hus5, hls5⟩
        rw [hul, List.take_length] at hls5
        exact ⟨_, rfl, D, ls, _, _, _, _, rfl, s5, nD0, hD5, hls5.less fun a ha => by simp only [List.mem_singleton] at ha; rw [ha]; exact List.mem_cons_self⟩
    · rintro σ H' ⟨po, us, z1, z2, z3, z4, rfl, s3, npo, hpo, hus⟩
      rw [vN_len] at hus
      exact ⟨_, rfl, q _ _ _ s3 npo hpo hus⟩
end
end Nw
end
section
set_option maxRecDepth 100000
set_option maxHeartbeats 2000000
namespace Nw
open PySem PySem.Spec PyProof.Rows L2 LamX NdefX
def bestStep (W : Ways) (home : Nat) (F : List Nat → Nat) (b : Option (Nat × List Nat)) (o : List Nat) : Option (Nat × List Nat) := match knownW W home o with
  | none => b
  | some l => match b with
    | none => some (F l, o)
    | some p => if F l < p.1 then some (F l, o) else b
def bestW (W : Ways) (home : Nat) (F : List Nat → Nat) : Option (Nat × List Nat) := (ordersO (allBut W.length home) (allBut W.length home).length).foldl (bestStep W home F) none
/-- what a function tells of a list of numbers -/
def spF (K : PySem.W.Frag) (F : List Nat → Nat) : Sp := fun vs H Q _ => ∃ (v : V) (l : List Nat), vs = [v] ∧ LN K H v l ∧ Q (.int (F l : Nat)) H
/-- a call of a name that holds a def: the promise goes with the address -/
def tCallR (i : Nat) (R : Addr → Sp → Prop) (t : TA) : TE := fun σ H Q => ∃ f sp, σ[i]? = some (some (.ref f)) ∧ R f sp ∧ t σ H fun vs H1 => sp vs H1 Q (fun _ _ _ => False)
theorem pe_callR {X : Cx} {k i : Nat} {x : Str} {p pos : Pos} {e : Expr} {es : List Expr} {t : TA} {R : Addr → Sp → Prop} (A : ∀ f sp, R f sp → Held X.prog X.w X.K X.mg X.base k f sp) (hr : Room k X.A) (hN : X.N[i]? = some x) (hv : Vis X.env.scope x) (ha : PA X (e :: es) t)
    (hdb : (x == ("__debug__" : Str)) = false := by decide) (hcd : (x == ("__classdict__" : Str)) = false := by decide)
    (he : starEach (e :: es) X.env = (false, eval e X.env) :: starEach es X.env := by rfl) (hpl : (backTo pos (starEach es X.env)).any (·.1) = false := by rfl) : PE X (.Call (.Name x p) (e :: es) [] pos) (tCallR i R t) := by
  refine ⟨fun pins s σ H Q I h => ?_⟩
  obtain ⟨f, sp, hs, hS, ht⟩ := h
  have A1 := A f sp hS
  exact (pe_callA (S := fun g => open Classical in if g = f then some sp else none) (fun g sp' hg => by
    have hg : (open Classical in if g = f then some sp else none) = some sp' := hg
    split at hg
    · rename_i c
      cases hg
      rw [c]
      exact A1
    · cases hg) hr hN hv ha hdb hcd he hpl).run pins s σ H Q I ⟨f, sp, hs, if_pos rfl, ht⟩
section
variable {P : Program} {w : World} {K : PySem.W.Frag} {mg : Str → Option Value} {base : Heap} {f : Addr} {fd : FuncData}
theorem held_of {k j : Nat} {x : Str} {ps : List Str} {sp : Sp} {B : Heap → Prop} (G : HasB P w K mg B j x ps sp) (hk : j ≤ k) {f : Addr} (hm : mg x = some (.ref f)) (hB : B base) : Held P w K mg base k f sp := by
  obtain ⟨f', fd, F, hm', kp, hb⟩ := G.ex
  rw [hm] at hm'
  cases hm'
  exact ⟨fd, ps, (F base hB).mono hk, kp, hb⟩
/-- the function at f keeps sp, whatever stood before -/
abbrev HeldA (P : Program) (w : World) (K : PySem.W.Frag) (mg : Str → Option Value) (k : Nat) (f : Addr) (sp : Sp) : Prop := ∀ base, Held P w K mg base k f sp
/-- the least, and an order -/
abbrev BestIs (H : Hp) (z : V) (b : Option (Nat × List Nat)) : Prop := match b with
  | none => z = .non
  | some p => ∃ t r, z = .ref t ∧ H t = some (.tup [.int (p.1 : Int), .ref r]) ∧ H r = some (.lst (vN p.2))
theorem BestIs.up {H H' : Hp} {z : V} {b : Option (Nat × List Nat)} (h : BestIs H z b) (s : Same H H') : BestIs H' z b := by
  cases b with
  | none => exact h
  | some p =>
    obtain ⟨t, r, e, h1, h2⟩ := h
    exact ⟨t, r, e, s _ _ h1, s _ _ h2⟩
def sp_best_order (P : Program) (w : World) (K : PySem.W.Frag) (mg : Str → Option Value) : Sp := fun vs H Q _ => ∃ (wv : V) (fs : Addr) (W : Ways) (home : Nat) (F : List Nat → Nat), vs = [wv, .int home, .ref fs] ∧ HeldA P w K mg 3 fs (spF K F) ∧ Dp K H wv (dWays W) ∧ WOk W ∧ WSym W ∧ W.length ≤ 6 ∧ mostW W ≤ 1000 ∧ home < W.length ∧
  ∀ H' z, Same H H' → BestIs H' z (bestW W home F) → Q z H'
theorem sc_best_order : FnScope ["ways", "home", "steps_of", "best", "order", "known"] ["ways", "home", "steps_of"] (defScope s_best_order) := ⟨rfl, rfl, rfl, by decide +kernel, rfl, by decide +kernel, by decide +kernel⟩
theorem ok_best_order (T : Tx K mg) (F : FnP K d_best_order f fd) (G_orders_of : Has P w K mg 1 "orders_of" ["places"] (sp_orders_of K)) (G_all_but : Has P w K mg 1 "all_but" ["size", "home"] sp_all_but) (G_steps_known : Has P w K mg 3 "steps_known" ["ways", "home", "order"] (sp_steps_known K)) :
    FnOk P w K mg base CX0 4 f fd ["ways", "home", "steps_of"] (sp_best_order P w K mg) := by
  have HELD : ∀ f sp, HeldA P w K mg 3 f sp → Held P w K mg base 3 f sp := fun f sp h => h base
  refine F.ok sc_best_order (fun vs H Q E h => ?_) (fun cdv A outer s H vs Q E hr h => ⟨_, PSs.nox
    (pss_cons (ps_set (i := 3) sc_best_order.nd rfl (Or.inl rfl) pe_non)
      (pss_cons (ps_for PassesOwn.never rfl (pi_list (pe_has G_orders_of hr (pa_cons (pe_has G_all_but hr (pa_cons (pe_callB call_len_seq (by rfl) T.f_len PySem.boot_len (pa_cons (pv 0) pa_nil)) (pa_cons (pv 1) pa_nil))) pa_nil))) (pg_name (i := 4) sc_best_order.nd rfl (Or.inl rfl)) (pss_cons (ps_set (i := 5) sc_best_order.nd rfl (Or.inl rfl) (pe_has G_steps_known hr (pa_cons (pv 0) (pa_cons (pv 1) (pa_cons (pv 4) pa_nil)))))
      (pss_one (ps_if (PW.pt (pw_andI (pt_cmpR op_notN (pv 5) pe_non (nomark _)) (pw_and1 (PW.pt (pw_orI (pt_cmpR op_isN (pv 3) pe_non (nomark _)) (pw_or1 (pt_cmpR op_lt (pe_callR HELD hr (i := 2) rfl (Or.inl rfl) (pa_cons (pv 5) pa_nil)) (pe_ix ix_tup (pv 3) pe_int (fun _ _ => rfl)) (nomark _)))))))) (pss_one (ps_set (i := 3) sc_best_order.nd rfl (Or.inl rfl) (pe_tup (pa_cons (pe_callR HELD hr (i := 2) rfl (Or.inl rfl) (pa_cons (pv 5) pa_nil)) (pa_cons (pv 4) pa_nil))))) pss_nil))))
      (pss_one (ps_ret (pv 3))))), ?_⟩)
  · obtain ⟨wv, fs, W, home, F, rfl, _⟩ := h
    rfl
  · obtain ⟨wv, fs, W, home, F, rfl, hS, hW, ok, sym, hn, hm, hh, q⟩ := h
    obtain ⟨a, xs, rfl, sq, al⟩ := hW.lst_of
    have hxl : xs.length = W.length := by rw [al.len, List.length_map]
    -- all_but(len(ways), home)
    refine ⟨_, rfl, a, xs, rfl, .inl sq, _, rfl, xs.length, home, rfl, by omega, fun H1 pb s1 npb hpb => ?_⟩
    rw [hxl] at hpb
    have hbl : (allBut W.length home).length ≤ 6 := by
      unfold allBut
      exact Nat.le_trans (List.length_filter_le _ _) (by rw [List.length_range]; exact hn)
    have hbi : ∀ x ∈ allBut W.length home, x < W.length := fun x hx => List.mem_range.mp (List.mem_filter.mp hx).1
    refine ⟨.ref pb, allBut W.length home, rfl, ⟨pb, rfl, SqL.of hpb⟩, hbl, fun H2 po us s2 npo hpo hus => ?_⟩
    have s12 := s1.trans s2
    generalize hos : ordersO (allBut W.length home) (allBut W.length home).length = os at hus
    have hul := paired_len hus
    refine ⟨po, rfl, ⟨_, SqL.of hpo⟩, for_list (K := K) (a := po) (xs := us) (fun i σ H' => ∃ (z : V) (z1 z2 : Option V), σ = [some (.ref a), some (.int home), some (.ref fs), some z, z1, z2] ∧ Same H2 H' ∧ BestIs H' z ((os.take i).foldl (bestStep W home F) none)) ⟨.non, none, none, rfl, Same.refl _, rfl⟩ (fun i σ H' _ ⟨_, _, _, _, s, _⟩ => SqL.of (s _ _ hpo)) ?_ ?_⟩
    · rintro i y σ H' hy ⟨z, z1, z2, rfl, s3, hz⟩
      obtain ⟨o, ho⟩ : ∃ o, os[i]? = some o := ⟨_, List.getElem?_eq_getElem (by rw [← hul]; exact (List.getElem?_eq_some_iff.mp hy).1)⟩
      obtain ⟨r, rfl, _, hr2⟩ := paired_at hus hy ho
      have hoin := orders_in _ _ o (by rw [hos]; exact List.mem_of_getElem? ho)
      have more : (os.take (i + 1)).foldl (bestStep W home F) none = bestStep W home F ((os.take i).foldl (bestStep W home F) none) o := by
        rw [take_more ho, List.foldl_append]
        rfl
      rw [more]
      generalize (os.take i).foldl (bestStep W home F) none = b at hz
      have hr3 := s3 _ _ hr2
      -- known = steps_known(ways, home, order)
      refine ⟨_, rfl, _, rfl, _, rfl, .ref a, .ref r, W, home, o, rfl, hW.same (s12.trans s3), ok, sym, by omega, hm, ⟨r, rfl, SqL.of hr3⟩, hh, fun x hx => hbi x (hoin.2 x hx), by omega, fun H4 s4 e => ?_, fun H4 t l s4 e nt ht => ?_⟩
      · have e2 : bestStep W home F b o = b := by
          unfold bestStep
          rw [e]
        rw [e2]
        refine and_is false false (fun R r => ⟨_, rfl, rfl, _, rfl, r⟩) (fun c => by cases c) ?_
        exact if_false_of rfl ⟨_, _, _, rfl, s3.trans s4, hz.up s4⟩
      · have e2 : bestStep W home F b o = match b with | none => some (F l, o) | some p => if F l < p.1 then some (F l, o) else b := by
          unfold bestStep
          rw [e]
          cases b <;> rfl
        have s34 := s3.trans s4
        have hln : LN K H4 (.ref t) l := ⟨t, rfl, SqL.of ht⟩
        have hr4 := s4 _ _ hr3
        cases b with
        | none =>
          have hz : z = .non := hz
          subst hz
          refine and_is true true (fun R r => ⟨_, rfl, rfl, _, rfl, r⟩) (fun _ R r => or_is true true (fun R r => ⟨_, rfl, rfl, _, rfl, r⟩) (fun c => by cases c) r) ?_
          refine if_true_of rfl ⟨fs, _, rfl, hS, _, rfl, .ref t, l, rfl, hln, _, rfl, (by show 2 ≤ sizeLine; decide), fun tt ntt => ⟨_, _, _, rfl, s34.trans (Same.new ntt), ?_⟩⟩
          rw [e2]
          exact ⟨tt, r, rfl, upd_same, by rw [upd_ne (ne_of_none hr4 ntt)]; exact hr4⟩
        | some p =>
          obtain ⟨tb, rb, rfl, h1, h2⟩ := hz
          have h1 := s4 _ _ h1
          have h2 := s4 _ _ h2
          refine and_is true (decide (F l < p.1)) (fun R r => ⟨_, rfl, rfl, _, rfl, r⟩) (fun _ R r => or_is false (decide (F l < p.1)) (fun R r => ⟨_, rfl, rfl, _, rfl, r⟩) (fun _ R r => ⟨fs, _, rfl, hS, _, rfl, .ref t, l, rfl, hln, _, rfl, tb, _, (0 : Int), _, rfl, rfl, SqT.of h1, rfl, _, _, rfl, rfl, _, rfl, ?_⟩) r) ?_
          · have e3 : decide ((F l : Int) < (p.1 : Int)) = decide (F l < p.1) := decide_eq_decide.mpr (by omega)
            show R (decide ((F l : Int) < (p.1 : Int))) H4
            rw [e3]
            exact r
          by_cases c : F l < p.1
          · refine if_true_of (by rw [decide_eq_true c]; rfl) ⟨fs, _, rfl, hS, _, rfl, .ref t, l, rfl, hln, _, rfl, (by show 2 ≤ sizeLine; decide), fun tt ntt => ⟨_, _, _, rfl, s34.trans (Same.new ntt), ?_⟩⟩
            rw [e2]
            show BestIs _ _ (if F l < p.1 then some (F l, o) else some p)
            rw [if_pos c]
            exact ⟨tt, r, rfl, upd_same, by rw [upd_ne (ne_of_none hr4 ntt)]; exact hr4⟩
          · refine if_false_of (by rw [decide_eq_false c]; rfl) ⟨_, _, _, rfl, s34, ?_⟩
            rw [e2]
            show BestIs _ _ (if F l < p.1 then some (F l, o) else some p)
            rw [if_neg c]
            exact ⟨tb, rb, rfl, h1, h2⟩
    · rintro σ H' ⟨z, z1, z2, rfl, s3, hz⟩
      rw [hul, List.take_length] at hz
      have e : bestW W home F = os.foldl (bestStep W home F) none := by
        unfold bestW
        rw [hos]
      exact ⟨_, rfl, q _ _ (s12.trans s3) (by rw [e]; exact hz)⟩
end
end Nw
end
section
set_option maxRecDepth 100000
set_option maxHeartbeats 2000000
namespace Nw
open PySem PySem.Spec PyProof.Rows L2 LamX NdefX
abbrev kvN (st : NSt) : List (Key × V) := st.map fun r => (Sum.inl (r.1 : Int), V.int (r.2 : Int))
theorem kvN_val (st : NSt) (p : Nat) : valV (kvN st) (Sum.inl (p : Int)) = (valN st p).map fun (k : Nat) => V.int (k : Int) := by
  have e : ∀ r : Nat × Nat, decide ((Sum.inl (r.1 : Int) : Key) = Sum.inl (p : Int)) = decide (r.1 = p) := fun r => decide_eq_decide.mpr ⟨fun z => by injection z with z; omega, fun z => by rw [z]⟩
  unfold valV valN
  induction st with
  | nil => rfl
  | cons r st ih =>
    rw [kvN, List.map_cons, List.find?_cons, List.find?_cons]
    show Option.map _ (match decide ((Sum.inl (r.1 : Int) : Key) = Sum.inl (p : Int)) with | true => _ | false => _) = _
    rw [e r]
    cases decide (r.1 = p) with
    | true => rfl
    | false => exact ih
theorem kvN_put {st : NSt} {p k : Nat} (h : valN st p = none) : putK (kvN st) (Sum.inl (p : Int)) (.int (k : Int)) = kvN (st ++ [(p, k)]) := by
  unfold putK
  rw [if_neg]
  · rw [kvN, kvN, List.map_append]
    rfl
  · intro z
    rw [List.any_eq_true] at z
    obtain ⟨x, hx, e⟩ := z
    obtain ⟨r, hr, rfl⟩ := List.mem_map.mp hx
    have e := of_decide_eq_true e
    injection e with e
    exact valN_none.mp h r hr (by omega)
structure NH (H0 H : Hp) (d pl : Addr) (st : NSt) : Prop where
  same : Same H0 H
  nd : H0 d = none
  nl : H0 pl = none
  ne : pl ≠ d
  dict : H d = some (.dK (kvN st))
  line : H pl = some (.lst (vN (st.map (·.1))))
theorem NH.up {H0 H H' : Hp} {d pl : Addr} {st : NSt} (h : NH H0 H d pl st) (s : Same H H') : NH H0 H' d pl st := ⟨h.same.trans s, h.nd, h.nl, h.ne, s _ _ h.dict, s _ _ h.line⟩
section
variable {P : Program} {w : World} {K : PySem.W.Frag} {mg : Str → Option Value} {base : Heap} {f : Addr} {fd : FuncData}
def sp_naming (K : PySem.W.Frag) : Sp := fun vs H Q _ => ∃ (wv : V) (W : Ways) (u v : Nat), vs = [wv, .int u, .int v] ∧ Dp K H wv (dWays W) ∧ WOk W ∧ W.length ≤ 1000 ∧ mostW W ≤ 1000 ∧ u < W.length ∧ v < W.length ∧ (∀ p, p < W.length → Rch W (List.range W.length) u p) ∧
  ∀ H' z, Same H H' → WordIs H' z (namingW W u v) → Q z H'
theorem sc_naming : FnScope ["ways", "u", "v", "names", "line", "at", "place", "name", "way", "named", "there", "entry"] ["ways", "u", "v"] (defScope s_naming) := ⟨rfl, rfl, rfl, by decide +kernel, rfl, by decide +kernel, by decide +kernel⟩
theorem ok_naming (T : Tx K mg) (F : FnP K d_naming f fd) : FnOk P w K mg base CX0 1 f fd ["ways", "u", "v"] (sp_naming K) := by
  refine F.ok sc_naming (fun vs H Q E h => ?_) (fun cdv A outer s H vs Q E hr h => ⟨_, PSs.nox
    (pss_cons (ps_set (i := 3) sc_naming.nd rfl (Or.inr rfl) (pe_disp (pps_cons (pv 1) (pv 2) pps_nil) (by rfl) (by rfl) (fun z => by cases z) (by decide)))
      (pss_cons (ps_set (i := 4) sc_naming.nd rfl (Or.inl rfl) (pe_lst (pa_cons (pv 1) pa_nil)))
      (pss_cons (ps_set (i := 5) sc_naming.nd rfl (Or.inl rfl) pe_int)
      (pss_cons (ps_while PassesOwn.never (pt_cmpR op_lt (pv 5) (pe_callB call_len_seq (by rfl) T.f_len PySem.boot_len (pa_cons (pv 4) pa_nil)) (nomark _)) (pss_cons (ps_set (i := 6) sc_naming.nd rfl (Or.inl rfl) (pe_ix ix_list (pv 4) (pv 5) (fun _ _ => rfl)))
      (pss_cons (ps_set (i := 7) sc_naming.nd rfl (Or.inl rfl) (pe_dget (hu_of hr) (pv 3) (pv 6) (fun _ _ => rfl)))
      (pss_cons (ps_if (pt_cmpR (op_neD hr.units) (pe_lc (own := [("there", 10), ("entry", 11)]) (by rfl) sc_naming.nd (pi_list (pe_ix ix_list (pv 0) (pv 6) (fun _ _ => rfl))) (blkOk_by (own := [("there", 10), ("entry", 11)]) (N := ["ways", "u", "v", "names", "line", "at", "place", "name", "way", "named", "there", "entry"]) (sc := defScope s_naming) (by decide +kernel)) (fun _ _ _ _ _ => (gtupK K 2 rfl (pgs_cons (pg_name (i := 10) sc_naming.nd rfl (Or.inl rfl)) (pgs_cons (pg_name (i := 11) sc_naming.nd rfl (Or.inl rfl)) pgs_nil)))) (fun _ _ _ _ _ => pts_nil) (fun _ _ _ _ _ => (pv 11))) (pe_lc (own := [("there", 10), ("entry", 11)]) (by rfl) sc_naming.nd (pi_list (pe_ix ix_list (pv 0) (pv 7) (fun _ _ => rfl))) (blkOk_by (own := [("there", 10), ("entry", 11)]) (N := ["ways", "u", "v", "names", "line", "at", "place", "name", "way", "named", "there", "entry"]) (sc := defScope s_naming) (by decide +kernel)) (fun _ _ _ _ _ => (gtupK K 2 rfl (pgs_cons (pg_name (i := 10) sc_naming.nd rfl (Or.inl rfl)) (pgs_cons (pg_name (i := 11) sc_naming.nd rfl (Or.inl rfl)) pgs_nil)))) (fun _ _ _ _ _ => pts_nil) (fun _ _ _ _ _ => (pv 11))) (nomark _)) (pss_one (ps_ret pe_non)) pss_nil)
      (pss_cons (ps_for PassesOwn.never rfl (pi_zip (by rfl) T.f_zip (pa_cons (pe_ix ix_list (pv 0) (pv 6) (fun _ _ => rfl)) (pa_cons (pe_ix ix_list (pv 0) (pv 7) (fun _ _ => rfl)) pa_nil))) (pg_tup rfl (pgs_cons (pg_name (i := 8) sc_naming.nd rfl (Or.inl rfl)) (pgs_cons (pg_name (i := 9) sc_naming.nd rfl (Or.inl rfl)) pgs_nil))) (pss_cons (ps_if (pt_cmp (pc_dnotin (hu_of hr) (pe_ix ix_tup (pv 8) pe_int (fun _ _ => rfl)) (pv 3))) (pss_cons (ps_dput (hu_of hr) (pv 3) (pe_ix ix_tup (pv 8) pe_int (fun _ _ => rfl)) (pe_ix ix_tup (pv 9) pe_int (fun _ _ => rfl)) rfl)
      (pss_one (ps_expr (pe_bm PySem.F.plainAttrs_list PySem.F.slot_list_append PySem.F.type_list_append mt_append (pv 4) (pa_cons (pe_ix ix_tup (pv 8) pe_int (fun _ _ => rfl)) pa_nil))))) pss_nil)
      (pss_one (ps_if (pt_cmpR op_ne (pe_dget (hu_of hr) (pv 3) (pe_ix ix_tup (pv 8) pe_int (fun _ _ => rfl)) (fun _ _ => rfl)) (pe_ix ix_tup (pv 9) pe_int (fun _ _ => rfl)) (nomark _)) (pss_one (ps_ret pe_non)) pss_nil))))
      (pss_one (ps_set (i := 5) sc_naming.nd rfl (Or.inl rfl) (pe_op op_add (pv 5) pe_int))))))))
      (pss_one (ps_ret (pe_lc (own := [("place", 6)]) (by rfl) sc_naming.nd (pi_range1 (by rfl) T.f_range (pa_cons (pe_callB call_len_seq (by rfl) T.f_len PySem.boot_len (pa_cons (pv 0) pa_nil)) pa_nil)) (blkOk_by (own := [("place", 6)]) (N := ["ways", "u", "v", "names", "line", "at", "place", "name", "way", "named", "there", "entry"]) (sc := defScope s_naming) (by decide +kernel)) (fun _ _ _ _ _ => (pg_name (i := 6) sc_naming.nd rfl (Or.inl rfl))) (fun _ _ _ _ _ => pts_nil) (fun _ _ _ _ _ => (pe_dget (hu_of hr) (pv 3) (pv 6) (fun _ _ => rfl)))))))))), ?_⟩)
  · obtain ⟨wv, W, u, v, rfl, _⟩ := h
    rfl
  · obtain ⟨wv, W, u, v, rfl, hW, ok, hn, hm, hu, hv, hall, q⟩ := h
    obtain ⟨a, xs, rfl, sq, al⟩ := hW.lst_of
    have hxl : xs.length = W.length := by rw [al.len, List.length_map]
    -- names = {u: v}
    intro d nd
    refine ⟨_, rfl, _, rfl, upd_same, [(Sum.inl (u : Int), V.int (v : Int))], rfl, by show 1 ≤ 15; decide, ?_⟩
    have e0 : mergeK [] [((Sum.inl (u : Int) : Key), V.int (v : Int))] = kvN [(u, v)] := by
      show putK [] (Sum.inl (u : Int) : Key) (V.int (v : Int)) = _
      unfold putK
      rw [if_neg (by simp)]
      rfl
    rw [e0]
    -- line = [u]
    refine ⟨_, rfl, (by show 1 ≤ sizeLine; decide), fun pl npl => ?_⟩
    have s1 : Same H (upd (upd H d (.dK [])) d (.dK (kvN [(u, v)]))) := (Same.new nd).upd nd
    have npl0 := s1.free npl
    have hld : pl ≠ d := fun e => by rw [e, upd_same] at npl; cases npl
    have N0 : NH H (upd (upd (upd H d (.dK [])) d (.dK (kvN [(u, v)]))) pl (.lst [.int (u : Int)])) d pl [(u, v)] := ⟨s1.upd npl0, nd, npl0, hld, by rw [upd_ne (Ne.symm hld), upd_same], by rw [upd_same]; rfl⟩
    -- while at < len(line)
    refine while_by (fun σ H' => ∃ (j : Nat) (st : NSt) (z1 z2 z3 z4 z5 z6 : Option V), σ = [some (.ref a), some (.int u), some (.int v), some (.ref d), some (.ref pl), some (.int (j : Int)), z1, z2, z3, z4, z5, z6] ∧ NQ W u v j = some st ∧ NH H H' d pl st ∧ j ≤ st.length)
      (fun σ _ => W.length + 1 - slotI σ 5) ⟨0, _, none, none, none, none, none, none, rfl, rfl, N0, Nat.zero_le _⟩ ?_ ?_
    · rintro σ H4 ⟨j, st, z1, z2, z3, z4, z5, z6, rfl, hst, Nj, hj⟩
      have kj := NQ_ok ok hu hv hst
      have hjn := kj.inv.le
      refine ⟨_, rfl, _, rfl, pl, _, rfl, .inl (SqL.of Nj.line), _, _, rfl, rfl, _, rfl, ?_⟩
      rw [vN_len, List.length_map]
      by_cases c : j < st.length
      · refine if_true_of (decide_eq_true (by omega)) ?_
        obtain ⟨p, hp⟩ : ∃ p, st[j]? = some p := ⟨_, List.getElem?_eq_getElem c⟩
        have hpm := List.mem_of_getElem? hp
        obtain ⟨hp1, hp2⟩ := kj.inv.lt p hpm
        have hpl : (vN (st.map (·.1)))[j]? = some (.int (p.1 : Int)) := vN_get (by rw [List.getElem?_map, hp]; rfl)
        have hval : valN st p.1 = some p.2 := by
          cases e : valN st p.1 with
          | none => exact absurd rfl (valN_none.mp e p hpm)
          | some k =>
            have hk := valN_some e
            have nd := kj.inv.nd
            rw [List.Nodup, List.pairwise_map] at nd
            have : (p.1, k) = p := by
              obtain ⟨i1, h1⟩ := List.mem_iff_getElem?.mp hk
              have : i1 = j := by
                have nd2 := kj.inv.nd
                have a1 : (st.map (·.1))[i1]? = some p.1 := by rw [List.getElem?_map, h1]; rfl
                have a2 : (st.map (·.1))[j]? = some p.1 := by rw [List.getElem?_map, hp]; rfl
                have b1 := (List.getElem?_eq_some_iff.mp a1)
                have b2 := (List.getElem?_eq_some_iff.mp a2)
                exact (List.getElem_inj nd2).mp (b1.2.trans b2.2.symm)
              subst this
              rw [hp] at h1
              exact (Option.some.inj h1).symm
            rw [← this]
        refine ⟨_, rfl, _, rfl, pl, _, (j : Int), _, rfl, rfl, SqL.of Nj.line, at_nat hpl, ?_⟩
        refine ⟨_, rfl, _, rfl, d, .int (p.2 : Int), rfl, .inl ⟨_, Sum.inl (p.1 : Int), .inl Nj.dict, rfl, by rw [kvN_val, hval]; rfl⟩, ?_⟩
        have W4 : Dp K H4 (.ref a) (dWays W) := hW.same Nj.same
        obtain ⟨r1, hr1, hr1d⟩ := al.get (rowsGet (row_some hp1))
        obtain ⟨b1, ys1, rfl, sq1, al1⟩ := hr1d.lst_of
        obtain ⟨r2, hr2, hr2d⟩ := al.get (rowsGet (row_some hp2))
        obtain ⟨b2, ys2, rfl, sq2, al2⟩ := hr2d.lst_of
        have hy1 : ys1.length = (rowAt W p.1).length := by rw [al1.len, List.length_map]
        have hy2 : ys2.length = (rowAt W p.2).length := by rw [al2.len, List.length_map]
        have hm1 := mostW_le W p.1
        have hm2 := mostW_le W p.2
        -- the entries of the place
        refine ⟨_, rfl, _, rfl, a, xs, p.1, _, rfl, rfl, Nj.same.keep.sqL sq, at_nat hr1, b1, rfl, ⟨_, Nj.same.keep.sqL sq1⟩, fun D nD => lc_list (K := K) (a := b1) (xs := ys1) (fun i H' => Same H4 H' ∧ H' D = some (.lst (vN (((rowAt W p.1).take i).map (·.2))))) ⟨Same.new nD, upd_same⟩ (fun i H' _ h => (Nj.same.trans h.1).keep.sqL sq1) ?_ ?_⟩
        · rintro i y H' hy ⟨s5, hD⟩
          obtain ⟨dd, hd1, hd2⟩ := al1.getV hy
          rw [List.getElem?_map] at hd1
          obtain ⟨g, hg, rfl⟩ := Option.map_eq_some_iff.mp hd1
          obtain ⟨c1, zs, rfl, sq3, al3⟩ := hd2.tup_of
          have ezs : zs = [.int (g.1 : Int), .int (g.2 : Int)] := DpAll.ints [(g.1 : Int), (g.2 : Int)] al3
          subst ezs
          refine ⟨c1, _, rfl, (Nj.same.trans s5).keep.sqT sq3, rfl, _, _, rfl, _, _, rfl, rfl, rfl, yes_of (iteT ⟨_, rfl, _, hD, ?_, s5.upd nD, ?_⟩)⟩
          · rw [vN_len, List.length_map]
            exact Nat.lt_of_le_of_lt (Nat.le_trans (List.length_take_le' _ _) (show (rowAt W p.1).length ≤ 1000 by omega)) (by decide)
          · rw [upd_same, take_more hg, List.map_append, vN_app]
            rfl
        rintro H5 ⟨s5, hD⟩
        rw [hy1, List.take_length] at hD
        have hD : H5 D = some (.lst (vN (entries W p.1))) := hD
        have Nj5 := Nj.up s5
        -- the entries of the name
        refine ⟨_, rfl, _, rfl, a, xs, p.2, _, rfl, rfl, Nj5.same.keep.sqL sq, at_nat hr2, b2, rfl, ⟨_, Nj5.same.keep.sqL sq2⟩, fun D2 nD2 => lc_list (K := K) (a := b2) (xs := ys2) (fun i H' => Same H5 H' ∧ H' D2 = some (.lst (vN (((rowAt W p.2).take i).map (·.2))))) ⟨Same.new nD2, upd_same⟩ (fun i H' _ h => (Nj5.same.trans h.1).keep.sqL sq2) ?_ ?_⟩
        · rintro i y H' hy ⟨s6, hD⟩
          obtain ⟨dd, hd1, hd2⟩ := al2.getV hy
          rw [List.getElem?_map] at hd1
          obtain ⟨g, hg, rfl⟩ := Option.map_eq_some_iff.mp hd1
          obtain ⟨c1, zs, rfl, sq3, al3⟩ := hd2.tup_of
          have ezs : zs = [.int (g.1 : Int), .int (g.2 : Int)] := DpAll.ints [(g.1 : Int), (g.2 : Int)] al3
          subst ezs
          refine ⟨c1, _, rfl, (Nj5.same.trans s6).keep.sqT sq3, rfl, _, _, rfl, _, _, rfl, rfl, rfl, yes_of (iteT ⟨_, rfl, _, hD, ?_, s6.upd nD2, ?_⟩)⟩
          · rw [vN_len, List.length_map]
            exact Nat.lt_of_le_of_lt (Nat.le_trans (List.length_take_le' _ _) (show (rowAt W p.2).length ≤ 1000 by omega)) (by decide)
          · rw [upd_same, take_more hg, List.map_append, vN_app]
            rfl
        rintro H6 ⟨s6, hD2⟩
        rw [hy2, List.take_length] at hD2
        have hD2 : H6 D2 = some (.lst (vN (entries W p.2))) := hD2
        have Nj6 := Nj5.up s6
        refine ⟨_, _, dp_nats (SqL.of (s6 _ _ hD)), dp_nats (SqL.of hD2), shaped_of (lay_nats _), shaped_of (lay_nats _), _, rfl, ?_⟩
        rw [eqv_nats]
        have hnext := NQ_succ hst
        rw [hp] at hnext
        have hnext : NQ W u v (j + 1) = nproc W st p := hnext
        by_cases ce : entries W p.1 = entries W p.2
        · refine if_false_of (by rw [decide_eq_true ce]; rfl) ?_
          have enp : nproc W st p = nfold ((rowAt W p.1).zip (rowAt W p.2)) (some st) := by
            unfold nproc
            rw [if_pos ce]
          rw [enp] at hnext
          have hlen : (rowAt W p.1).length = (rowAt W p.2).length := by
            have := congrArg List.length ce
            unfold entries at this
            simpa using this
          have hzl : ((rowAt W p.1).zip (rowAt W p.2)).length = (rowAt W p.1).length := by rw [List.length_zip]; omega
          -- for way, named in zip(..)
          refine ⟨_, rfl, _, rfl, a, xs, p.1, _, rfl, rfl, Nj6.same.keep.sqL sq, at_nat hr1, _, rfl, _, rfl, a, xs, p.2, _, rfl, rfl, Nj6.same.keep.sqL sq, at_nat hr2, b1, b2, ys1, ys2, rfl, Nj6.same.keep.sqL sq1, Nj6.same.keep.sqL sq2, for_it (walk_zip (xs := ys1) (ys := ys2) (n := (rowAt W p.1).length) (by omega)) (fun i σ H' => ∃ (st' : NSt) (z3 z4 z5 z6 : Option V), σ = [some (.ref a), some (.int u), some (.int v), some (.ref d), some (.ref pl), some (.int (j : Int)), some (.int (p.1 : Int)), some (.int (p.2 : Int)), z3, z4, z5, z6] ∧ nfold (((rowAt W p.1).zip (rowAt W p.2)).take i) (some st) = some st' ∧ NH H H' d pl st') ⟨st, _, _, _, _, rfl, rfl, Nj6⟩ (fun i σ H' _ ⟨_, _, _, _, _, _, _, N⟩ => ⟨N.same.keep.sqL sq1, N.same.keep.sqL sq2⟩) ?_ ?_⟩
          · rintro i x σ H7 H8 hi ⟨st', z3, z4, z5, z6, rfl, hfold, N7⟩ hy
            obtain ⟨t, y0, y, rfl, nt, rfl, hy0, hy⟩ := hy
            have hy0 : ys1[i]? = some y0 := hy0
            have hy : ys2[i]? = some y := hy
            obtain ⟨dd, hd1, hd2⟩ := al1.getV hy0
            rw [List.getElem?_map] at hd1
            obtain ⟨g, hg, rfl⟩ := Option.map_eq_some_iff.mp hd1
            obtain ⟨c1, zs, rfl, sq3, al3⟩ := hd2.tup_of
            have ezs : zs = [.int (g.1 : Int), .int (g.2 : Int)] := DpAll.ints [(g.1 : Int), (g.2 : Int)] al3
            subst ezs
            obtain ⟨dd, he1, he2⟩ := al2.getV hy
            rw [List.getElem?_map] at he1
            obtain ⟨k, hk, rfl⟩ := Option.map_eq_some_iff.mp he1
            obtain ⟨c2, zs, rfl, sq4, al4⟩ := he2.tup_of
            have ezs : zs = [.int (k.1 : Int), .int (k.2 : Int)] := DpAll.ints [(k.1 : Int), (k.2 : Int)] al4
            subst ezs
            have hz : ((rowAt W p.1).zip (rowAt W p.2))[i]? = some (g, k) := by
              rw [List.getElem?_zip_eq_some]
              exact ⟨hg, hk⟩
            have hmore := nfold_more (o := some st) hz
            rw [hfold] at hmore
            have hmore : nfold (((rowAt W p.1).zip (rowAt W p.2)).take (i + 1)) (some st) = nvisit st' (g, k) := hmore
            obtain ⟨inv', pre', _⟩ := kj.inv.fold _ (fun pr hpr => zip_lt ok hp1 hp2 pr (List.mem_of_mem_take hpr)) hfold
            have N8 := N7.up (Same.new (o := .tup [.ref c1, .ref c2]) nt)
            refine ⟨t, _, rfl, SqT.of upd_same, rfl, _, _, rfl, _, _, rfl, rfl, ?_⟩
            generalize upd H7 t (.tup [.ref c1, .ref c2]) = H8 at N8
            have sw := N8.same.keep.sqT sq3
            have sn := N8.same.keep.sqT sq4
            have hkl : st'.length ≤ 1000 := Nat.le_trans inv'.le hn
            -- if way[0] not in names
            refine ⟨_, rfl, c1, _, (0 : Int), _, rfl, rfl, sw, rfl, _, rfl, d, _, rfl, .inl ⟨_, Sum.inl (g.1 : Int), .inl N8.dict, rfl, rfl⟩, _, rfl, ?_⟩
            rw [kvN_val]
            cases ev : valN st' g.1 with
            | none =>
              have evi : nvisit st' (g, k) = some (st' ++ [(g.1, k.1)]) := by
                unfold nvisit
                show (match valN st' g.1 with | none => _ | some k' => _) = _
                rw [ev]
              refine if_true_of rfl ?_
              -- names[way[0]] = named[0]
              refine ⟨_, rfl, c2, _, (0 : Int), _, rfl, rfl, sn, rfl, _, rfl, _, rfl, c1, _, (0 : Int), _, rfl, rfl, sw, rfl, d, _, rfl, .inl ⟨_, Sum.inl (g.1 : Int), N8.dict, rfl, by rw [List.length_map]; exact Nat.lt_of_le_of_lt hkl (by decide), rfl⟩, ?_⟩
              rw [kvN_put ev]
              have hl9 : upd H8 d (.dK (kvN (st' ++ [(g.1, k.1)]))) pl = some (.lst (vN (st'.map (·.1)))) := by rw [upd_ne N8.ne]; exact N8.line
              have s9 : Same H (upd H8 d (.dK (kvN (st' ++ [(g.1, k.1)])))) := N8.same.upd N8.nd
              -- line.append(way[0])
              refine ⟨_, rfl, .inl ⟨rfl, _, SqL.of hl9⟩, _, rfl, c1, _, (0 : Int), _, rfl, rfl, s9.keep.sqT sq3, rfl, pl, _, _, rfl, rfl, hl9, by rw [vN_len, List.length_map]; exact Nat.lt_of_le_of_lt hkl (by decide), ?_⟩
              have N9 : NH H (upd (upd H8 d (.dK (kvN (st' ++ [(g.1, k.1)])))) pl (.lst (vN (st'.map (·.1)) ++ [.int (g.1 : Int)]))) d pl (st' ++ [(g.1, k.1)]) := ⟨s9.upd N8.nl, N8.nd, N8.nl, N8.ne, by rw [upd_ne (Ne.symm N8.ne), upd_same], by rw [upd_same, List.map_append, vN_app]; rfl⟩
              generalize upd (upd H8 d (.dK (kvN (st' ++ [(g.1, k.1)])))) pl (.lst (vN (st'.map (·.1)) ++ [.int (g.1 : Int)])) = H9 at N9
              -- if names[way[0]] != named[0]
              refine ⟨_, rfl, _, rfl, c1, _, (0 : Int), _, rfl, rfl, N9.same.keep.sqT sq3, rfl, d, .int (k.1 : Int), rfl, .inl ⟨_, Sum.inl (g.1 : Int), .inl N9.dict, rfl, by rw [kvN_val, valN_app_new ev]; rfl⟩, _, rfl, c2, _, (0 : Int), _, rfl, rfl, N9.same.keep.sqT sq4, rfl, rfl, _, rfl, ?_⟩
              refine if_false_of (by rw [decide_eq_true rfl]; rfl) ⟨_, _, _, _, _, rfl, ?_, N9⟩
              rw [hmore, evi]
            | some k' =>
              refine if_false_of rfl ?_
              refine ⟨_, rfl, _, rfl, c1, _, (0 : Int), _, rfl, rfl, sw, rfl, d, .int (k' : Int), rfl, .inl ⟨_, Sum.inl (g.1 : Int), .inl N8.dict, rfl, by rw [kvN_val, ev]; rfl⟩, _, rfl, c2, _, (0 : Int), _, rfl, rfl, sn, rfl, rfl, _, rfl, ?_⟩
              have evi : nvisit st' (g, k) = if k' = k.1 then some st' else none := by
                unfold nvisit
                show (match valN st' g.1 with | none => _ | some k' => _) = _
                rw [ev]
              rw [dec_nat]
              by_cases ck : k' = k.1
              · refine if_false_of (by rw [decide_eq_true ck]; rfl) ⟨_, _, _, _, _, rfl, ?_, N8⟩
                rw [hmore, evi, if_pos ck]
              · refine if_true_of (by rw [decide_eq_false ck]; rfl) (q _ _ N8.same ?_)
                have e1 : NQ W u v (j + 1) = none := by
                  rw [hnext]
                  refine nfold_stop (i := i + 1) ?_
                  rw [hmore, evi, if_neg ck]
                have e2 : namingW W u v = none := by
                  unfold namingW
                  rw [NQ_dead e1 (by omega)]
                  rfl
                rw [e2]
          · rintro σ H7 ⟨st', z3, z4, z5, z6, rfl, hfold, N7⟩
            have et : ((rowAt W p.1).zip (rowAt W p.2)).take (rowAt W p.1).length = (rowAt W p.1).zip (rowAt W p.2) := by
              rw [← hzl, List.take_length]
            rw [et] at hfold
            obtain ⟨inv', pre', _⟩ := kj.inv.fold _ (zip_lt ok hp1 hp2) hfold
            refine ⟨_, rfl, _, _, rfl, rfl, ?_⟩
            refine ⟨⟨j + 1, st', _, _, _, _, _, _, rfl, by rw [hnext]; exact hfold, N7, Nat.le_trans c pre'.length_le⟩, ?_⟩
            show W.length + 1 - ((j : Int) + 1).toNat < W.length + 1 - (j : Int).toNat
            omega
        · refine if_true_of (by rw [decide_eq_false ce]; rfl) (q _ _ Nj6.same ?_)
          have e1 : NQ W u v (j + 1) = none := by
            rw [hnext]
            unfold nproc
            rw [if_neg ce]
          have e2 : namingW W u v = none := by
            unfold namingW
            rw [NQ_dead e1 (by omega)]
            rfl
          rw [e2]
      · have en : NQ W u v W.length = some st := NQ_stop hst (by omega) (by omega)
        have e2 : namingW W u v = some ((List.range W.length).map fun p => (valN st p).getD 0) := by
          unfold namingW
          rw [en]
          rfl
        refine if_false_of (decide_eq_false (by omega)) ?_
        refine ⟨_, rfl, a, xs, rfl, .inl (Nj.same.keep.sqL sq), (xs.length : Int), rfl, by omega, by omega, fun D nD => lc_range (lo := 0) (n := (xs.length : Int).toNat) (fun i H' => Same H4 H' ∧ H' D = some (.lst (vN ((List.range i).map fun p => (valN st p).getD 0)))) ⟨Same.new nD, upd_same⟩ ?_ ?_⟩
        · rintro i H' hi ⟨s5, hD⟩
          have hi' : i < W.length := by omega
          show gName 6 (.int ((0 : Int) + (i : Int))) _ _ _
          rw [Int.zero_add]
          obtain ⟨k, hk⟩ := Option.isSome_iff_exists.mp (NQ_all ok hu hv en (hall i hi'))
          refine ⟨rfl, yes_of (iteT ⟨_, rfl, _, rfl, d, .int (k : Int), rfl, .inl ⟨_, Sum.inl (i : Int), .inl (s5 _ _ Nj.dict), rfl, by rw [kvN_val, hk]; rfl⟩, _, hD, ?_, s5.upd nD, ?_⟩)⟩
          · rw [vN_len, List.length_map, List.length_range]
            exact Nat.lt_of_le_of_lt (show i ≤ 1000 by omega) (by decide)
          · rw [upd_same, List.range_succ, List.map_append, vN_app, List.map_singleton, hk]
            rfl
        · rintro H' ⟨s5, hD⟩
          have en2 : ((xs.length : Int)).toNat = W.length := by omega
          rw [en2] at hD
          refine q _ _ (Nj.same.trans s5) ?_
          rw [e2]
          exact ⟨D, rfl, hD⟩
    · rintro σ H4 Q1 Q2 hQ ⟨x1, h1, x2, h2, p1, ys, h3, h4, i, j, h5, h6, b, h7, h8⟩
      exact ⟨x1, h1, x2, h2, p1, ys, h3, h4, i, j, h5, h6, b, h7, hQ _ _ h8⟩
end
end Nw
end
section
set_option maxRecDepth 100000
set_option maxHeartbeats 2000000
namespace Nw
open PySem PySem.Spec PyProof.Rows L2 LamX NdefX
structure HasM (P : Program) (w : World) (K : PySem.W.Frag) (mg : Str → Option Value) (k : Nat) (C : Addr) (m : Str) (ps : List Str) (sp : Sp) : Prop where
  ex : ∃ f fd, (∀ base, FnOk P w K mg base CX0 k f fd ps sp) ∧ Cls K C ∧ Meth K C m f ∧ Binds K fd ps []
structure HasK (P : Program) (w : World) (K : PySem.W.Frag) (mg : Str → Option Value) (k : Nat) (x : Str) (C : Addr) (ps : List Str) (sp : Sp) : Prop where
  ex : ∃ f fd, (∀ base, FnOk P w K mg base CX0 k f fd ps sp) ∧ Mk K C f ∧ mg x = some (.ref C) ∧ Binds K fd ps []
section
variable {X : Cx} {k j : Nat} {x m : Str} {C : Addr} {ps : List Str} {sp : Sp} {p pos apos : Pos} {o e : Expr} {es : List Expr} {ta : TE} {t : TA}
theorem pe_hasM {P : Program} {w : World} {K : PySem.W.Frag} {mg : Str → Option Value} {A : Around} {pl : Sem Bool} (G : HasM P w K mg k C m ps sp) (hr : Room j A) (he : PE X o ta) (ha : PA X (e :: es) t) (hX : X.prog = P ∧ X.w = w ∧ X.K = K ∧ X.mg = mg ∧ X.A = A := by exact ⟨rfl, rfl, rfl, rfl, rfl⟩) (hk : k ≤ j := by decide) (hx : Passes CX0 X E0 := by exact pass0)
    (hst : starEach (e :: es) X.env = (false, eval e X.env) :: starEach es X.env := by rfl) (hpl : (backTo pos (starEach es X.env)).any (·.1) = false := by rfl)
    (ht : eval (.Call (.Attribute o m apos) (e :: es) [] pos) X.env = (do
      let ov ← eval o X.env
      standAt apos.atName
      let (f, first) ← holding [ov] (getMethod ov m pl)
      callWith pos f first (backTo pos (starEach (e :: es) X.env)) (backToKw pos (keywordEach [] X.env))) := by rfl) : PE X (.Call (.Attribute o m apos) (e :: es) [] pos) (tMeth C m sp [] E0 ta t) := by
  obtain ⟨rfl, rfl, rfl, rfl, rfl⟩ := hX
  obtain ⟨f, fd, F, c, hm, hb⟩ := G.ex
  exact pe_meth he c hm (F X.base) (hr.mono hk) hb .nil hx ha hst hpl ht
theorem pe_hasM0 {P : Program} {w : World} {K : PySem.W.Frag} {mg : Str → Option Value} {A : Around} {pl : Sem Bool} (G : HasM P w K mg k C m ps sp) (hr : Room j A) (he : PE X o ta) (hX : X.prog = P ∧ X.w = w ∧ X.K = K ∧ X.mg = mg ∧ X.A = A := by exact ⟨rfl, rfl, rfl, rfl, rfl⟩) (hk : k ≤ j := by decide) (hx : Passes CX0 X E0 := by exact pass0)
    (ht : eval (.Call (.Attribute o m apos) [] [] pos) X.env = (do
      let ov ← eval o X.env
      standAt apos.atName
      let (f, first) ← holding [ov] (getMethod ov m pl)
      callWith pos f first (backTo pos (starEach [] X.env)) (backToKw pos (keywordEach [] X.env))) := by rfl) : PE X (.Call (.Attribute o m apos) [] [] pos) (tMeth C m sp [] E0 ta tNil) := by
  obtain ⟨rfl, rfl, rfl, rfl, rfl⟩ := hX
  obtain ⟨f, fd, F, c, hm, hb⟩ := G.ex
  exact pe_meth0 he c hm (F X.base) (hr.mono hk) hb .nil hx ht
theorem pe_hasK {P : Program} {w : World} {K : PySem.W.Frag} {mg : Str → Option Value} {A : Around} (G : HasK P w K mg k x C ps sp) (hr : Room j A) (ha : PA X (e :: es) t) (hX : X.prog = P ∧ X.w = w ∧ X.K = K ∧ X.mg = mg ∧ X.A = A := by exact ⟨rfl, rfl, rfl, rfl, rfl⟩) (hk : k + 1 ≤ j := by decide) (hx : Passes CX0 X E0 := by exact pass0) (hg : Gl X x := by rfl)
    (hdb : (x == ("__debug__" : Str)) = false := by decide) (he : starEach (e :: es) X.env = (false, eval e X.env) :: starEach es X.env := by rfl) (hpl : (backTo pos (starEach es X.env)).any (·.1) = false := by rfl) : PE X (.Call (.Name x p) (e :: es) [] pos) (tMake C sp [] E0 t) := by
  obtain ⟨rfl, rfl, rfl, rfl, rfl⟩ := hX
  obtain ⟨f, fd, F, M, hm, hb⟩ := G.ex
  exact pe_make M (F X.base) (hr.mono hk) hg hm hb .nil hx ha hdb he hpl
theorem pe_hasK0 {P : Program} {w : World} {K : PySem.W.Frag} {mg : Str → Option Value} {A : Around} (G : HasK P w K mg k x C ps sp) (hr : Room j A) (hX : X.prog = P ∧ X.w = w ∧ X.K = K ∧ X.mg = mg ∧ X.A = A := by exact ⟨rfl, rfl, rfl, rfl, rfl⟩) (hk : k + 1 ≤ j := by decide) (hx : Passes CX0 X E0 := by exact pass0) (hg : Gl X x := by rfl)
    (hdb : (x == ("__debug__" : Str)) = false := by decide) : PE X (.Call (.Name x p) [] [] pos) (tMake C sp [] E0 tNil) := by
  obtain ⟨rfl, rfl, rfl, rfl, rfl⟩ := hX
  obtain ⟨f, fd, F, M, hm, hb⟩ := G.ex
  exact pe_make0 M (F X.base) (hr.mono hk) hg hm hb .nil hx hdb
end
structure Mom where
  n : Nat
  links : List (Nat × Nat)
  a : Nat
  b : Nat
  p : Option Nat
  steps : Nat
  met : Nat
abbrev waysM (m : Mom) : Ways := waysOf m.n m.links
structure MomOk (m : Mom) : Prop where
  pos : 1 ≤ m.n
  few : m.n ≤ 7
  short : m.links.length ≤ 10
  ends : ∀ p ∈ m.links, p.1 < m.n ∧ p.2 < m.n ∧ p.1 ≠ p.2
  a : m.a < m.n
  b : m.b < m.n
  p : ∀ q, m.p = some q → q < m.n
abbrev CM (K : PySem.W.Frag) : Addr := He.ga K "Moment"
abbrev CW (K : PySem.W.Frag) : Addr := He.ga K "Wanderers"
def fsM (m : Mom) (lv wv : V) : List (Str × V) := [("size", .int (m.n : Int)), ("links", lv), ("ways", wv), ("a", .int (m.a : Int)), ("b", .int (m.b : Int)), ("pebble", oV m.p), ("steps", .int (m.steps : Int)), ("met", .int (m.met : Int))]
/-- the moment m at v -/
def MAt (K : PySem.W.Frag) (H : Hp) (v : V) (m : Mom) : Prop := ∃ x dx lv wv, v = .ref x ∧ H x = some (.ins (CM K) dx (fsM m lv wv)) ∧ Dp K H lv (dLinks m.links) ∧ Dp K H wv (dWays (waysM m))
theorem MAt.up {K : PySem.W.Frag} {H H' : Hp} {v : V} {m : Mom} (h : MAt K H v m) (s : ExtN H H') : MAt K H' v m := by
  obtain ⟨x, dx, lv, wv, e, hx, hl, hw⟩ := h
  exact ⟨x, dx, lv, wv, e, s _ _ hx (fun ps z => by cases z), hl.keep (extN_keep s), hw.keep (extN_keep s)⟩
/-- a moment just made, its links as they were handed in -/
def MNew (K : PySem.W.Frag) (H H' : Hp) (v : V) (m : Mom) (lv : V) : Prop := ∃ x dx wv, v = .ref x ∧ H x = none ∧ H' x = some (.ins (CM K) dx (fsM m lv wv)) ∧ Dp K (news H H') wv (dWays (waysM m))
theorem waysOf_ok {n : Nat} {l : List (Nat × Nat)} (h : ∀ p ∈ l, p.1 < n ∧ p.2 < n) : WOk (waysOf n l) ∧ WSym (waysOf n l) := by
  have key : ∀ (l : List (Nat × Nat)) (W : Ways), (∀ p ∈ l, p.1 < W.length ∧ p.2 < W.length) → WOk W ∧ WSym W → WOk (l.foldl addLink W) ∧ WSym (l.foldl addLink W) := by
    intro l
    induction l with
    | nil => exact fun _ _ h => h
    | cons p l ih =>
      intro W hl hW
      obtain ⟨h1, h2⟩ := hl p List.mem_cons_self
      refine ih (addLink W p) (fun q hq => by rw [addLink_len]; exact hl q (List.mem_cons_of_mem _ hq)) ⟨?_, ?_⟩
      · intro u row q hu hq
        have e := rowAt_of hu
        rw [rowAt_addLink h1 h2] at e
        have hul : u < W.length := by
          have := (List.getElem?_eq_some_iff.mp hu).1
          rw [addLink_len] at this
          exact this
        rw [addLink_len]
        split at e
        · subst e
          rcases List.mem_append.mp hq with hq | hq
          · exact row_lt hW.1 h2 q hq
          · simp only [List.mem_singleton] at hq
            subst hq
            exact h1
        · split at e
          · subst e
            rcases List.mem_append.mp hq with hq | hq
            · exact row_lt hW.1 h1 q hq
            · simp only [List.mem_singleton] at hq
              subst hq
              exact h2
          · subst e
            exact row_lt hW.1 hul q hq
      · intro u hu q hq
        rw [addLink_len] at hu
        -- who is beside u in the longer net
        have more : ∀ v r, r ∈ rowAt W v → ∃ r' ∈ rowAt (addLink W p) v, r'.1 = r.1 := by
          intro v r hr
          rw [rowAt_addLink h1 h2]
          split
          · rename_i c
            exact ⟨r, List.mem_append_left _ (by rw [← c]; exact hr), rfl⟩
          · split
            · rename_i c
              exact ⟨r, List.mem_append_left _ (by rw [← c]; exact hr), rfl⟩
            · exact ⟨r, hr, rfl⟩
        have back : ∀ r, r ∈ rowAt W u → r.1 = q.1 → ∃ p' ∈ rowAt (addLink W p) q.1, p'.1 = u := by
          intro r hr e
          obtain ⟨t, ht, et⟩ := hW.2 u hu r hr
          rw [e] at ht
          obtain ⟨t', ht', et'⟩ := more _ t ht
          exact ⟨t', ht', by rw [et', et]⟩
        rw [rowAt_addLink h1 h2] at hq
        split at hq
        · rename_i c
          rcases List.mem_append.mp hq with hq | hq
          · exact back q (by rw [c]; exact hq) rfl
          · simp only [List.mem_singleton] at hq
            subst hq
            show ∃ p' ∈ rowAt (addLink W p) p.1, p'.1 = u
            rw [rowAt_addLink h1 h2, c]
            by_cases c2 : p.1 = p.2
            · rw [if_pos c2]
              refine ⟨(p.1, (rowAt W p.1).length), List.mem_append_right _ List.mem_cons_self, c2⟩
            · rw [if_neg c2, if_pos rfl]
              exact ⟨(p.2, _), List.mem_append_right _ List.mem_cons_self, rfl⟩
        · rename_i c0
          split at hq
          · rename_i c
            rcases List.mem_append.mp hq with hq | hq
            · exact back q (by rw [c]; exact hq) rfl
            · simp only [List.mem_singleton] at hq
              subst hq
              show ∃ p' ∈ rowAt (addLink W p) p.2, p'.1 = u
              rw [rowAt_addLink h1 h2, if_pos rfl, c]
              exact ⟨(p.1, _), List.mem_append_right _ List.mem_cons_self, rfl⟩
          · exact back q hq rfl
  refine key l (List.replicate n []) (fun p hp => by rw [List.length_replicate]; exact h p hp) ⟨?_, ?_⟩
  · intro u row p hu hp
    have e := rowAt_of hu
    rw [rowAt_rep] at e
    subst e
    cases hp
  · intro u hu q hq
    rw [rowAt_rep] at hq
    cases hq
theorem MomOk.ways {m : Mom} (h : MomOk m) : WOk (waysM m) := (waysOf_ok fun p hp => ⟨(h.ends p hp).1, (h.ends p hp).2.1⟩).1
theorem MomOk.sym {m : Mom} (h : MomOk m) : WSym (waysM m) := (waysOf_ok fun p hp => ⟨(h.ends p hp).1, (h.ends p hp).2.1⟩).2
theorem MomOk.len {m : Mom} (h : MomOk m) : (waysM m).length = m.n := waysOf_len _ _
theorem MomOk.most {m : Mom} (h : MomOk m) : mostW (waysM m) ≤ 10 := by
  have key : ∀ (l : List Nat) (a b : Nat), a ≤ b → (∀ x ∈ l, x ≤ b) → l.foldl max a ≤ b := by
    intro l
    induction l with
    | nil => exact fun a b h _ => h
    | cons x l ih => exact fun a b h1 h2 => ih (max a x) b (Nat.max_le.mpr ⟨h1, h2 x List.mem_cons_self⟩) fun y hy => h2 y (List.mem_cons_of_mem _ hy)
  refine key _ 0 10 (Nat.zero_le _) fun x hx => ?_
  obtain ⟨row, hrow, rfl⟩ := List.mem_map.mp hx
  obtain ⟨u, hu⟩ := List.mem_iff_getElem?.mp hrow
  have e := rowAt_of hu
  have := row_le m.links (List.replicate m.n []) (fun p hp => by rw [List.length_replicate]; exact ⟨(h.ends p hp).1, (h.ends p hp).2.1⟩) u
  have e2 : rowAt (m.links.foldl addLink (List.replicate m.n [])) u = row := e
  rw [e2, rowAt_rep] at this
  have := h.short
  simp only [List.length_nil] at *
  omega
section
variable {P : Program} {w : World} {K : PySem.W.Frag} {mg : Str → Option Value} {base : Heap} {f : Addr} {fd : FuncData}
def sp_Moment_init (K : PySem.W.Frag) : Sp := fun vs H Q _ => ∃ (x dx : Addr) (lv : V) (m : Mom), vs = [.ref x, .int m.n, lv, .int m.a, .int m.b, oV m.p, .int m.steps, .int m.met] ∧ H x = some (.ins (CM K) dx []) ∧ MomOk m ∧ Dp K H lv (dLinks m.links) ∧
  ∀ H' wv, (∀ b o, b ≠ x → H b = some o → H' b = some o) → H' x = some (.ins (CM K) dx (fsM m lv wv)) → Dp K (news H H') wv (dWays (waysM m)) → Q .non H'
theorem sc_Moment_init : FnScope ["self", "size", "links", "a", "b", "pebble", "steps", "met"] ["self", "size", "links", "a", "b", "pebble", "steps", "met"] (defScope s_Moment_init) := ⟨rfl, rfl, rfl, by decide +kernel, rfl, by decide +kernel, by decide +kernel⟩
theorem ok_Moment_init (T : Tx K mg) (F : FnP K d_Moment_init f fd) (G_ways_of : Has P w K mg 1 "ways_of" ["size", "links"] (sp_ways_of K)) : FnOk P w K mg base CX0 2 f fd ["self", "size", "links", "a", "b", "pebble", "steps", "met"] (sp_Moment_init K) := by
  refine F.ok sc_Moment_init (fun vs H Q E h => ?_) (fun cdv A outer s H vs Q E hr h => ⟨_, PSs.nox
    (pss_cons (ps_fld (pv 0) (pv 1) rfl)
      (pss_cons (ps_fld (pv 0) (pv 2) rfl)
      (pss_cons (ps_fld (pv 0) (pe_has G_ways_of hr (pa_cons (pv 1) (pa_cons (pv 2) pa_nil))) rfl)
      (pss_cons (ps_fld (pv 0) (pv 3) rfl)
      (pss_cons (ps_fld (pv 0) (pv 4) rfl)
      (pss_cons (ps_fld (pv 0) (pv 5) rfl)
      (pss_cons (ps_fld (pv 0) (pv 6) rfl)
      (pss_one (ps_fld (pv 0) (pv 7) rfl))))))))), ?_⟩)
  · obtain ⟨x, dx, lv, m, rfl, _⟩ := h
    rfl
  · obtain ⟨x, dx, lv, m, rfl, hx, hm, hl, q⟩ := h
    refine ⟨_, rfl, _, rfl, x, CM K, dx, _, rfl, hx, T.cl_Moment, T.na_size, by decide, ?_⟩
    rw [show putF "size" (.int (m.n : Int)) [] = (fsM m lv .non).take 1 from rfl]
    refine ⟨_, rfl, _, rfl, x, CM K, dx, _, rfl, upd_same, T.cl_Moment, T.na_links, (by show 1 < 1000; decide), ?_⟩
    rw [upd_upd, show putF "links" lv ((fsM m lv .non).take 1) = (fsM m lv .non).take 2 from rfl]
    have keep2 : ∀ b o, b ≠ x → H b = some o → upd H x (.ins (CM K) dx ((fsM m lv .non).take 2)) b = some o := fun b o hb e => by rw [upd_ne hb]; exact e
    have kp : Keep H (upd H x (.ins (CM K) dx ((fsM m lv .non).take 2))) := fun b o e z => keep2 b o (fun c => by
      rw [c, hx] at e
      cases e
      rcases z with ⟨_, z⟩ | ⟨_, z⟩ | ⟨_, _, z⟩ <;> cases z) e
    have ends := hm.ends
    refine ⟨_, rfl, _, rfl, lv, m.n, m.links, rfl, hl.keep kp, hm.few, hm.short, ends, fun H3 wv s3 hw => ?_⟩
    have hx3 := s3 _ _ upd_same
    refine ⟨_, rfl, x, CM K, dx, _, rfl, hx3, T.cl_Moment, T.na_ways, (by show 2 < 1000; decide), ?_⟩
    rw [show putF "ways" wv ((fsM m lv .non).take 2) = (fsM m lv wv).take 3 from rfl]
    refine ⟨_, rfl, _, rfl, x, CM K, dx, _, rfl, upd_same, T.cl_Moment, T.na_a, (by show 3 < 1000; decide), ?_⟩
    rw [upd_upd, show putF "a" (.int (m.a : Int)) ((fsM m lv wv).take 3) = (fsM m lv wv).take 4 from rfl]
    refine ⟨_, rfl, _, rfl, x, CM K, dx, _, rfl, upd_same, T.cl_Moment, T.na_b, (by show 4 < 1000; decide), ?_⟩
    rw [upd_upd, show putF "b" (.int (m.b : Int)) ((fsM m lv wv).take 4) = (fsM m lv wv).take 5 from rfl]
    refine ⟨_, rfl, _, rfl, x, CM K, dx, _, rfl, upd_same, T.cl_Moment, T.na_pebble, (by show 5 < 1000; decide), ?_⟩
    rw [upd_upd, show putF "pebble" (oV m.p) ((fsM m lv wv).take 5) = (fsM m lv wv).take 6 from rfl]
    refine ⟨_, rfl, _, rfl, x, CM K, dx, _, rfl, upd_same, T.cl_Moment, T.na_steps, (by show 6 < 1000; decide), ?_⟩
    rw [upd_upd, show putF "steps" (.int (m.steps : Int)) ((fsM m lv wv).take 6) = (fsM m lv wv).take 7 from rfl]
    refine ⟨_, rfl, _, rfl, x, CM K, dx, _, rfl, upd_same, T.cl_Moment, T.na_met, (by show 7 < 1000; decide), ?_⟩
    rw [upd_upd, show putF "met" (.int (m.met : Int)) ((fsM m lv wv).take 7) = (fsM m lv wv).take 8 from rfl]
    refine q _ wv (fun b o hb e => ?_) upd_same ?_
    · rw [upd_ne hb]
      exact s3 _ _ (keep2 b o hb e)
    · refine hw.same fun b o e => ?_
      have n2 : upd H x (.ins (CM K) dx ((fsM m lv .non).take 2)) b = none := by
        unfold news at e
        cases c : upd H x (.ins (CM K) dx ((fsM m lv .non).take 2)) b with
        | none => rfl
        | some u => rw [c] at e; cases e
      have hb : b ≠ x := fun c => by rw [c, upd_same] at n2; cases n2
      rw [upd_ne hb] at n2
      rw [news_at n2, upd_ne hb]
      exact news_keep _ _ e
end
end Nw
end
section
set_option maxRecDepth 100000
set_option maxHeartbeats 2000000
namespace Nw
open PySem PySem.Spec PyProof.Rows L2 LamX NdefX
abbrev stepM (m : Mom) (x y : Nat) : Mom := ⟨m.n, m.links, ledTo (waysM m) m.a x, ledTo (waysM m) m.b y, m.p, m.steps + 1, if ledTo (waysM m) m.a x = ledTo (waysM m) m.b y then m.met + 1 else m.met⟩
abbrev pebM (m : Mom) (p : Option Nat) : Mom := ⟨m.n, m.links, m.a, m.b, p, m.steps, m.met⟩
theorem stepM_ok {m : Mom} (h : MomOk m) (x y : Nat) : MomOk (stepM m x y) := ⟨h.pos, h.few, h.short, h.ends, by have := ledTo_lt (x := x) h.ways (u := m.a) (by rw [h.len]; exact h.a); rw [h.len] at this; exact this, by have := ledTo_lt (x := y) h.ways (u := m.b) (by rw [h.len]; exact h.b); rw [h.len] at this; exact this, h.p⟩
section
variable {P : Program} {w : World} {K : PySem.W.Frag} {mg : Str → Option Value} {base : Heap} {f : Addr} {fd : FuncData}
/-- what a new Moment promises -/
theorem mk_moment {H : Hp} {Q : VK} {E : XK} {x dx : Addr} {lv : V} {m : Mom} (nx : H x = none) (ndx : H dx = none) (hne : dx ≠ x) (hm : MomOk m) (hl : Dp K H lv (dLinks m.links)) (q : ∀ H' z, Same H H' → MNew K H H' z m lv → Q z H') :
    sp_Moment_init K (.ref x :: ([.int m.n, lv, .int m.a, .int m.b, oV m.p, .int m.steps, .int m.met] ++ [])) (upd (upd H dx (.own x)) x (.ins (CM K) dx [])) (fun v H2 => v = .non ∧ Q (.ref x) H2) E := by
  have s1 : Same H (upd (upd H dx (.own x)) x (.ins (CM K) dx [])) := (Same.new ndx).upd nx
  refine ⟨x, dx, lv, m, rfl, upd_same, hm, hl.same s1, fun H' wv kp hx hw => ⟨rfl, q H' _ (fun b o e => kp b o (ne_of_none e nx) (s1 _ _ e)) ⟨x, dx, wv, rfl, nx, hx, hw.same fun b o e => ?_⟩⟩⟩
  have nb : H b = none := by
    unfold news at e
    cases c : upd (upd H dx (.own x)) x (.ins (CM K) dx []) b with
    | none =>
      cases c2 : H b with
      | none => rfl
      | some u => rw [s1 _ _ c2] at c; cases c
    | some u => rw [c] at e; cases e
  rw [news_at nb]
  exact news_keep _ _ e
def sp_set_out (K : PySem.W.Frag) : Sp := fun vs H Q _ => ∃ (lv : V) (n a b : Nat) (l : List (Nat × Nat)), vs = [.int n, lv, .int a, .int b] ∧ MomOk ⟨n, l, a, b, none, 0, 0⟩ ∧ Dp K H lv (dLinks l) ∧ ∀ H' z, Same H H' → MNew K H H' z ⟨n, l, a, b, none, 0, 0⟩ lv → Q z H'
theorem sc_set_out : FnScope ["size", "links", "a", "b"] ["size", "links", "a", "b"] (defScope s_set_out) := ⟨rfl, rfl, rfl, by decide +kernel, rfl, by decide +kernel, by decide +kernel⟩
theorem ok_set_out (T : Tx K mg) (F : FnP K d_set_out f fd) (G_Moment : HasK P w K mg 2 "Moment" (CM K) ["self", "size", "links", "a", "b", "pebble", "steps", "met"] (sp_Moment_init K)) : FnOk P w K mg base CX0 4 f fd ["size", "links", "a", "b"] (sp_set_out K) := by
  refine F.ok sc_set_out (fun vs H Q E h => ?_) (fun cdv A outer s H vs Q E hr h => ⟨_, PSs.nox
    (pss_one (ps_ret (pe_hasK G_Moment hr (pa_cons (pv 0) (pa_cons (pv 1) (pa_cons (pv 2) (pa_cons (pv 3) (pa_cons pe_non (pa_cons pe_int (pa_cons pe_int pa_nil)))))))))), ?_⟩)
  · obtain ⟨lv, n, a, b, l, rfl, _⟩ := h
    rfl
  · obtain ⟨lv, n, a, b, l, rfl, hm, hl, q⟩ := h
    exact ⟨_, rfl, _, rfl, _, rfl, _, rfl, fun x dx nx ndx hne => mk_moment (m := ⟨n, l, a, b, none, 0, 0⟩) nx ndx hne hm hl q⟩
/-- a moment, its parts told -/
abbrev MIs (K : PySem.W.Frag) (H : Hp) (x dx : Addr) (lv wv : V) (m : Mom) : Prop := H x = some (.ins (CM K) dx (fsM m lv wv)) ∧ Dp K H lv (dLinks m.links) ∧ Dp K H wv (dWays (waysM m)) ∧ MomOk m
def sp_stepped (K : PySem.W.Frag) : Sp := fun vs H Q _ => ∃ (x0 dx0 : Addr) (lv wv : V) (m : Mom) (x y : Nat), vs = [.ref x0, .int x, .int y] ∧ MIs K H x0 dx0 lv wv m ∧ ∀ H' z, Same H H' → MNew K H H' z (stepM m x y) lv → Q z H'
theorem sc_stepped : FnScope ["moment", "x", "y", "a", "b", "met"] ["moment", "x", "y"] (defScope s_stepped) := ⟨rfl, rfl, rfl, by decide +kernel, rfl, by decide +kernel, by decide +kernel⟩
theorem ok_stepped (T : Tx K mg) (F : FnP K d_stepped f fd) (G_Moment : HasK P w K mg 2 "Moment" (CM K) ["self", "size", "links", "a", "b", "pebble", "steps", "met"] (sp_Moment_init K)) (G_led_to : Has P w K mg 2 "led_to" ["ways", "place", "letter"] (sp_led_to K)) : FnOk P w K mg base CX0 4 f fd ["moment", "x", "y"] (sp_stepped K) := by
  refine F.ok sc_stepped (fun vs H Q E h => ?_) (fun cdv A outer s H vs Q E hr h => ⟨_, PSs.nox
    (pss_cons (ps_set (i := 3) sc_stepped.nd rfl (Or.inl rfl) (pe_has G_led_to hr (pa_cons (pe_fld (pv 0) rfl) (pa_cons (pe_fld (pv 0) rfl) (pa_cons (pv 1) pa_nil)))))
      (pss_cons (ps_set (i := 4) sc_stepped.nd rfl (Or.inl rfl) (pe_has G_led_to hr (pa_cons (pe_fld (pv 0) rfl) (pa_cons (pe_fld (pv 0) rfl) (pa_cons (pv 2) pa_nil)))))
      (pss_cons (ps_set (i := 5) sc_stepped.nd rfl (Or.inl rfl) (pe_ifExp (pt_cmpR op_eq (pv 3) (pv 4) (nomark _)) (pe_op op_add (pe_fld (pv 0) rfl) pe_int) (pe_fld (pv 0) rfl)))
      (pss_one (ps_ret (pe_hasK G_Moment hr (pa_cons (pe_fld (pv 0) rfl) (pa_cons (pe_fld (pv 0) rfl) (pa_cons (pv 3) (pa_cons (pv 4) (pa_cons (pe_fld (pv 0) rfl) (pa_cons (pe_op op_add (pe_fld (pv 0) rfl) pe_int) (pa_cons (pv 5) pa_nil))))))))))))), ?_⟩)
  · obtain ⟨x0, dx0, lv, wv, m, x, y, rfl, _⟩ := h
    rfl
  · obtain ⟨x0, dx0, lv, wv, m, x, y, rfl, ⟨hx, hl, hw, hm⟩, q⟩ := h
    refine ⟨_, rfl, x0, CM K, dx0, _, _, rfl, hx, T.cl_Moment, T.na_ways, rfl, _, rfl, x0, CM K, dx0, _, _, rfl, hx, T.cl_Moment, T.na_a, rfl, _, rfl, wv, waysM m, m.a, x, rfl, hw, by rw [hm.len]; exact hm.a, ?_⟩
    refine ⟨_, rfl, x0, CM K, dx0, _, _, rfl, hx, T.cl_Moment, T.na_ways, rfl, _, rfl, x0, CM K, dx0, _, _, rfl, hx, T.cl_Moment, T.na_b, rfl, _, rfl, wv, waysM m, m.b, y, rfl, hw, by rw [hm.len]; exact hm.b, ?_⟩
    refine ⟨_, rfl, _, rfl, rfl, _, rfl, ?_⟩
    rw [dec_nat]
    have hm' := stepM_ok hm x y
    by_cases c : ledTo (waysM m) m.a x = ledTo (waysM m) m.b y
    · refine if_true_of (decide_eq_true c) ⟨_, rfl, x0, CM K, dx0, _, _, rfl, hx, T.cl_Moment, T.na_met, rfl, _, _, rfl, rfl, ?_⟩
      refine ⟨_, rfl, x0, CM K, dx0, _, _, rfl, hx, T.cl_Moment, T.na_size, rfl, _, rfl, x0, CM K, dx0, _, _, rfl, hx, T.cl_Moment, T.na_links, rfl, _, rfl, _, rfl, _, rfl, x0, CM K, dx0, _, _, rfl, hx, T.cl_Moment, T.na_pebble, rfl, _, rfl, x0, CM K, dx0, _, _, rfl, hx, T.cl_Moment, T.na_steps, rfl, _, _, rfl, rfl, _, rfl, fun z dz nz ndz hne => ?_⟩
      have e : stepM m x y = ⟨m.n, m.links, ledTo (waysM m) m.a x, ledTo (waysM m) m.b y, m.p, m.steps + 1, m.met + 1⟩ := by
        unfold stepM
        rw [if_pos c]
      rw [e] at q hm'
      exact mk_moment (m := ⟨m.n, m.links, ledTo (waysM m) m.a x, ledTo (waysM m) m.b y, m.p, m.steps + 1, m.met + 1⟩) nz ndz hne hm' hl q
    · refine if_false_of (decide_eq_false c) ⟨_, rfl, x0, CM K, dx0, _, _, rfl, hx, T.cl_Moment, T.na_met, rfl, ?_⟩
      refine ⟨_, rfl, x0, CM K, dx0, _, _, rfl, hx, T.cl_Moment, T.na_size, rfl, _, rfl, x0, CM K, dx0, _, _, rfl, hx, T.cl_Moment, T.na_links, rfl, _, rfl, _, rfl, _, rfl, x0, CM K, dx0, _, _, rfl, hx, T.cl_Moment, T.na_pebble, rfl, _, rfl, x0, CM K, dx0, _, _, rfl, hx, T.cl_Moment, T.na_steps, rfl, _, _, rfl, rfl, _, rfl, fun z dz nz ndz hne => ?_⟩
      have e : stepM m x y = ⟨m.n, m.links, ledTo (waysM m) m.a x, ledTo (waysM m) m.b y, m.p, m.steps + 1, m.met⟩ := by
        unfold stepM
        rw [if_neg c]
      rw [e] at q hm'
      exact mk_moment (m := ⟨m.n, m.links, ledTo (waysM m) m.a x, ledTo (waysM m) m.b y, m.p, m.steps + 1, m.met⟩) nz ndz hne hm' hl q
def sp_with_pebble (K : PySem.W.Frag) : Sp := fun vs H Q _ => ∃ (x0 dx0 : Addr) (lv wv : V) (m : Mom) (p : Option Nat), vs = [.ref x0, oV p] ∧ MIs K H x0 dx0 lv wv m ∧ (∀ q, p = some q → q < m.n) ∧ ∀ H' z, Same H H' → MNew K H H' z (pebM m p) lv → Q z H'
theorem sc_with_pebble : FnScope ["moment", "pebble"] ["moment", "pebble"] (defScope s_with_pebble) := ⟨rfl, rfl, rfl, by decide +kernel, rfl, by decide +kernel, by decide +kernel⟩
theorem ok_with_pebble (T : Tx K mg) (F : FnP K d_with_pebble f fd) (G_Moment : HasK P w K mg 2 "Moment" (CM K) ["self", "size", "links", "a", "b", "pebble", "steps", "met"] (sp_Moment_init K)) : FnOk P w K mg base CX0 4 f fd ["moment", "pebble"] (sp_with_pebble K) := by
  refine F.ok sc_with_pebble (fun vs H Q E h => ?_) (fun cdv A outer s H vs Q E hr h => ⟨_, PSs.nox
    (pss_one (ps_ret (pe_hasK G_Moment hr (pa_cons (pe_fld (pv 0) rfl) (pa_cons (pe_fld (pv 0) rfl) (pa_cons (pe_fld (pv 0) rfl) (pa_cons (pe_fld (pv 0) rfl) (pa_cons (pv 1) (pa_cons (pe_fld (pv 0) rfl) (pa_cons (pe_fld (pv 0) rfl) pa_nil)))))))))), ?_⟩)
  · obtain ⟨x0, dx0, lv, wv, m, p, rfl, _⟩ := h
    rfl
  · obtain ⟨x0, dx0, lv, wv, m, p, rfl, ⟨hx, hl, hw, hm⟩, hp, q⟩ := h
    refine ⟨_, rfl, x0, CM K, dx0, _, _, rfl, hx, T.cl_Moment, T.na_size, rfl, _, rfl, x0, CM K, dx0, _, _, rfl, hx, T.cl_Moment, T.na_links, rfl, _, rfl, x0, CM K, dx0, _, _, rfl, hx, T.cl_Moment, T.na_a, rfl, _, rfl, x0, CM K, dx0, _, _, rfl, hx, T.cl_Moment, T.na_b, rfl, _, rfl, _, rfl, x0, CM K, dx0, _, _, rfl, hx, T.cl_Moment, T.na_steps, rfl, _, rfl, x0, CM K, dx0, _, _, rfl, hx, T.cl_Moment, T.na_met, rfl, fun z dz nz ndz hne => ?_⟩
    exact mk_moment (m := pebM m p) nz ndz hne ⟨hm.pos, hm.few, hm.short, hm.ends, hm.a, hm.b, hp⟩ hl q
abbrev fsW (nv pv : V) : List (Str × V) := [("now", nv), ("past", pv)]
def sp_Wanderers_init (K : PySem.W.Frag) : Sp := fun vs H Q _ => ∃ (x dx : Addr), vs = [.ref x] ∧ H x = some (.ins (CW K) dx []) ∧ ∀ H' pp, (∀ b, b ≠ x → b ≠ pp → H' b = H b) → H pp = none → H' pp = some (.lst []) → H' x = some (.ins (CW K) dx (fsW .non (.ref pp))) → Q .non H'
theorem sc_Wanderers_init : FnScope ["self"] ["self"] (defScope s_Wanderers_init) := ⟨rfl, rfl, rfl, by decide +kernel, rfl, by decide +kernel, by decide +kernel⟩
theorem ok_Wanderers_init (T : Tx K mg) (F : FnP K d_Wanderers_init f fd) : FnOk P w K mg base CX0 1 f fd ["self"] (sp_Wanderers_init K) := by
  refine F.ok sc_Wanderers_init (fun vs H Q E h => ?_) (fun cdv A outer s H vs Q E hr h => ⟨_, PSs.nox
    (pss_cons (ps_fld (pv 0) pe_non rfl)
      (pss_one (ps_fld (pv 0) (pe_lst pa_nil) rfl))), ?_⟩)
  · obtain ⟨x, dx, rfl, _⟩ := h
    rfl
  · obtain ⟨x, dx, rfl, hx, q⟩ := h
    refine ⟨_, rfl, x, CW K, dx, _, rfl, hx, T.cl_Wanderers, T.na_now, by decide, ?_⟩
    rw [show putF "now" .non [] = [((Str.ofString "now"), V.non)] from rfl]
    refine ⟨(by show 0 ≤ sizeLine; decide), fun pp npp => ?_⟩
    have hpx : pp ≠ x := fun e => by rw [e, upd_same] at npp; cases npp
    refine ⟨_, rfl, x, CW K, dx, _, rfl, (by rw [upd_ne (Ne.symm hpx), upd_same]), T.cl_Wanderers, T.na_past, (by show 1 < 1000; decide), ?_⟩
    rw [upd_ne hpx] at npp
    refine q _ pp (fun b h1 h2 => ?_) npp ?_ (by rw [upd_same]; rfl)
    · rw [upd_ne h1, upd_ne h2, upd_ne h1]
    · rw [upd_ne hpx, upd_same]
def sp_Wanderers_begin (K : PySem.W.Frag) : Sp := fun vs H Q _ => ∃ (x dx : Addr) (mv nv pv : V), vs = [.ref x, mv] ∧ H x = some (.ins (CW K) dx (fsW nv pv)) ∧ ∀ H' pp, (∀ b, b ≠ x → b ≠ pp → H' b = H b) → H pp = none → H' pp = some (.lst []) → H' x = some (.ins (CW K) dx (fsW mv (.ref pp))) → Q .non H'
theorem sc_Wanderers_begin : FnScope ["self", "moment"] ["self", "moment"] (defScope s_Wanderers_begin) := ⟨rfl, rfl, rfl, by decide +kernel, rfl, by decide +kernel, by decide +kernel⟩
theorem ok_Wanderers_begin (T : Tx K mg) (F : FnP K d_Wanderers_begin f fd) : FnOk P w K mg base CX0 1 f fd ["self", "moment"] (sp_Wanderers_begin K) := by
  refine F.ok sc_Wanderers_begin (fun vs H Q E h => ?_) (fun cdv A outer s H vs Q E hr h => ⟨_, PSs.nox
    (pss_cons (ps_fld (pv 0) (pv 1) rfl)
      (pss_one (ps_fld (pv 0) (pe_lst pa_nil) rfl))), ?_⟩)
  · obtain ⟨x, dx, mv, nv, pv, rfl, _⟩ := h
    rfl
  · obtain ⟨x, dx, mv, nv, pv, rfl, hx, q⟩ := h
    refine ⟨_, rfl, _, rfl, x, CW K, dx, _, rfl, hx, T.cl_Wanderers, T.na_now, (by show 2 < 1000; decide), ?_⟩
    rw [show putF "now" mv (fsW nv pv) = fsW mv pv from rfl]
    refine ⟨(by show 0 ≤ sizeLine; decide), fun pp npp => ?_⟩
    have hpx : pp ≠ x := fun e => by rw [e, upd_same] at npp; cases npp
    refine ⟨_, rfl, x, CW K, dx, _, rfl, (by rw [upd_ne (Ne.symm hpx), upd_same]), T.cl_Wanderers, T.na_past, (by show 2 < 1000; decide), ?_⟩
    rw [upd_ne hpx] at npp
    refine q _ pp (fun b h1 h2 => ?_) npp ?_ (by rw [upd_same]; rfl)
    · rw [upd_ne h1, upd_ne h2, upd_ne h1]
    · rw [upd_ne hpx, upd_same]
/-- one more in the past, at most ten -/
def pastL {α : Type} (l : List α) (x : α) : List α := if (l ++ [x]).length > 10 then (l ++ [x]).eraseIdx 0 else l ++ [x]
def sp_Wanderers_change (K : PySem.W.Frag) : Sp := fun vs H Q _ => ∃ (x dx pp : Addr) (mv nv : V) (us : List V), vs = [.ref x, mv] ∧ H x = some (.ins (CW K) dx (fsW nv (.ref pp))) ∧ H pp = some (.lst us) ∧ us.length ≤ 10 ∧
  ∀ H', (∀ b, b ≠ x → b ≠ pp → H' b = H b) → H' pp = some (.lst (pastL us nv)) → H' x = some (.ins (CW K) dx (fsW mv (.ref pp))) → Q .non H'
theorem sc_Wanderers_change : FnScope ["self", "moment"] ["self", "moment"] (defScope s_Wanderers_change) := ⟨rfl, rfl, rfl, by decide +kernel, rfl, by decide +kernel, by decide +kernel⟩
theorem ok_Wanderers_change (T : Tx K mg) (F : FnP K d_Wanderers_change f fd) : FnOk P w K mg base CX0 1 f fd ["self", "moment"] (sp_Wanderers_change K) := by
  refine F.ok sc_Wanderers_change (fun vs H Q E h => ?_) (fun cdv A outer s H vs Q E hr h => ⟨_, PSs.nox
    (pss_cons (ps_expr (pe_bm PySem.F.plainAttrs_list PySem.F.slot_list_append PySem.F.type_list_append mt_append (pe_fld (pv 0) rfl) (pa_cons (pe_fld (pv 0) rfl) pa_nil)))
      (pss_cons (ps_if (pt_cmpR op_gt (pe_callB call_len_seq (by rfl) T.f_len PySem.boot_len (pa_cons (pe_fld (pv 0) rfl) pa_nil)) (pe_gint T.c_MOST_BACK) (nomark _)) (pss_one (ps_expr (pe_bm PySem.F.plainAttrs_list PySem.F.slot_list_pop PySem.F.type_list_pop mt_popAt (pe_fld (pv 0) rfl) (pa_cons pe_int pa_nil)))) pss_nil)
      (pss_one (ps_fld (pv 0) (pv 1) rfl)))), ?_⟩)
  · obtain ⟨x, dx, pp, mv, nv, us, rfl, _⟩ := h
    rfl
  · obtain ⟨x, dx, pp, mv, nv, us, rfl, hx, hp, hu, q⟩ := h
    have hpx : pp ≠ x := ne_of hp hx fun z => by cases z
    refine ⟨_, rfl, x, CW K, dx, _, _, rfl, hx, T.cl_Wanderers, T.na_past, rfl, .inl ⟨rfl, _, SqL.of hp⟩, _, rfl, x, CW K, dx, _, _, rfl, hx, T.cl_Wanderers, T.na_now, rfl, pp, _, _, rfl, rfl, hp, (by exact Nat.lt_of_le_of_lt hu (by decide)), ?_⟩
    have hx1 : upd H pp (.lst (us ++ [nv])) x = some (.ins (CW K) dx (fsW nv (.ref pp))) := by rw [upd_ne (Ne.symm hpx)]; exact hx
    refine ⟨_, rfl, x, CW K, dx, _, _, rfl, hx1, T.cl_Wanderers, T.na_past, rfl, pp, _, rfl, .inl (SqL.of upd_same), _, _, rfl, rfl, _, rfl, ?_⟩
    by_cases c : (us ++ [nv]).length > 10
    · refine if_true_of (decide_eq_true (by omega)) ?_
      refine ⟨_, rfl, x, CW K, dx, _, _, rfl, hx1, T.cl_Wanderers, T.na_past, rfl, .inl ⟨rfl, _, SqL.of upd_same⟩, pp, _, (0 : Int), 0, _, rfl, rfl, upd_same, by decide, by decide, ?_, List.getElem?_eq_getElem (by omega), ?_⟩
      · have hl : (us ++ [nv]).length = 11 := by
          rw [List.length_append] at c ⊢
          simp only [List.length_cons, List.length_nil] at c ⊢
          omega
        rw [hl]
        decide
      · rw [upd_upd]
        have hx2 : upd H pp (.lst ((us ++ [nv]).eraseIdx 0)) x = some (.ins (CW K) dx (fsW nv (.ref pp))) := by rw [upd_ne (Ne.symm hpx)]; exact hx
        refine ⟨_, rfl, _, rfl, x, CW K, dx, _, rfl, hx2, T.cl_Wanderers, T.na_now, (by show 2 < 1000; decide), ?_⟩
        refine q _ (fun b h1 h2 => by rw [upd_ne h1, upd_ne h2]) ?_ (by rw [upd_same]; rfl)
        rw [upd_ne hpx, upd_same]
        unfold pastL
        rw [if_pos c]
    · refine if_false_of (decide_eq_false (by omega)) ?_
      refine ⟨_, rfl, _, rfl, x, CW K, dx, _, rfl, hx1, T.cl_Wanderers, T.na_now, (by show 2 < 1000; decide), ?_⟩
      refine q _ (fun b h1 h2 => by rw [upd_ne h1, upd_ne h2]) ?_ (by rw [upd_same]; rfl)
      rw [upd_ne hpx, upd_same]
      unfold pastL
      rw [if_neg c]
def sp_Wanderers_take_back (K : PySem.W.Frag) : Sp := fun vs H Q _ => ∃ (x dx pp : Addr) (nv y : V) (us : List V), vs = [.ref x] ∧ H x = some (.ins (CW K) dx (fsW nv (.ref pp))) ∧ H pp = some (.lst us) ∧ us[us.length - 1]? = some y ∧
  ∀ H', (∀ b, b ≠ x → b ≠ pp → H' b = H b) → H' pp = some (.lst us.dropLast) → H' x = some (.ins (CW K) dx (fsW y (.ref pp))) → Q .non H'
theorem sc_Wanderers_take_back : FnScope ["self"] ["self"] (defScope s_Wanderers_take_back) := ⟨rfl, rfl, rfl, by decide +kernel, rfl, by decide +kernel, by decide +kernel⟩
theorem ok_Wanderers_take_back (T : Tx K mg) (F : FnP K d_Wanderers_take_back f fd) : FnOk P w K mg base CX0 1 f fd ["self"] (sp_Wanderers_take_back K) := by
  refine F.ok sc_Wanderers_take_back (fun vs H Q E h => ?_) (fun cdv A outer s H vs Q E hr h => ⟨_, PSs.nox
    (pss_one (ps_fld (pv 0) (pe_bm0 PySem.F.plainAttrs_list PySem.F.slot_list_pop PySem.F.type_list_pop mt_pop (pe_fld (pv 0) rfl)) rfl)), ?_⟩)
  · obtain ⟨x, dx, pp, nv, y, us, rfl, _⟩ := h
    rfl
  · obtain ⟨x, dx, pp, nv, y, us, rfl, hx, hp, hy, q⟩ := h
    have hpx : pp ≠ x := ne_of hp hx fun z => by cases z
    refine ⟨_, rfl, x, CW K, dx, _, _, rfl, hx, T.cl_Wanderers, T.na_past, rfl, .inl ⟨rfl, _, SqL.of hp⟩, pp, _, y, rfl, rfl, hp, hy, ?_⟩
    have hx1 : upd H pp (.lst us.dropLast) x = some (.ins (CW K) dx (fsW nv (.ref pp))) := by rw [upd_ne (Ne.symm hpx)]; exact hx
    refine ⟨_, rfl, x, CW K, dx, _, rfl, hx1, T.cl_Wanderers, T.na_now, (by show 2 < 1000; decide), ?_⟩
    refine q _ (fun b h1 h2 => by rw [upd_ne h1, upd_ne h2]) ?_ (by rw [upd_same]; rfl)
    rw [upd_ne hpx, upd_same]
end
end Nw
end
section
set_option maxRecDepth 100000
set_option maxHeartbeats 2000000
namespace Nw
open PySem PySem.Spec PyProof.Rows L2 LamX NdefX
def hide (H : Hp) (X : List Addr) : Hp := fun b => if b ∈ X then none else H b
theorem hide_at {H : Hp} {X : List Addr} {b : Addr} (h : b ∉ X) : hide H X b = H b := if_neg h
theorem hide_same (H : Hp) (X : List Addr) : Same (hide H X) H := fun b o e => by
  unfold hide at e
  split at e
  · cases e
  · exact e
theorem hide_in {H : Hp} {X : List Addr} {b : Addr} {o : HO} (e : hide H X b = some o) : b ∉ X := fun z => by
  unfold hide at e
  rw [if_pos z] at e
  cases e
theorem hide_ext {H H' : Hp} (s : ExtN H H') (X : List Addr) : ExtN (hide H X) (hide H' X) := fun b o e n => by
  rw [hide_at (hide_in e)]
  exact s b o (hide_same H X b o e) n
theorem hide_eq {H H' : Hp} {X : List Addr} (h : ∀ b, b ∉ X → H' b = H b) : hide H' X = hide H X := by
  funext b
  unfold hide
  split
  · rfl
  · rename_i c
    exact h b c
structure WS where
  now : Option Mom
  past : List Mom
abbrev NowIs (K : PySem.W.Frag) (H : Hp) (v : V) (o : Option Mom) : Prop := match o with
  | none => v = .non
  | some m => MAt K H v m
/-- these stand elsewhere -/
def OutX (H : Hp) (X : List Addr) : Prop := ∀ b ∈ X, ∃ o, H b = some o ∧ ∀ ps, o ≠ .tbl ps
theorem OutX.up {H H' : Hp} {X : List Addr} (h : OutX H X) (e : ExtN H H') : OutX H' X := fun b hb => by
  obtain ⟨o, h1, h2⟩ := h b hb
  exact ⟨o, e _ _ h1 h2, h2⟩
theorem OutX.same {H H' : Hp} {X : List Addr} (h : OutX H X) (e : Same H H') : OutX H' X := h.up fun c o e' _ => e c o e'
structure St (K : PySem.W.Frag) (H : Hp) (X : List Addr) (ow pp : Addr) (s : WS) : Prop where
  ex : ∃ dx nv us, H ow = some (.ins (CW K) dx (fsW nv (.ref pp))) ∧ H pp = some (.lst us) ∧ NowIs K (hide H (ow :: pp :: X)) nv s.now ∧ Paired (MAt K (hide H (ow :: pp :: X))) us s.past
  nowOk : ∀ m, s.now = some m → MomOk m
  pastOk : ∀ m ∈ s.past, MomOk m
  few : s.past.length ≤ 10
  out : OutX H X
theorem St.up {K : PySem.W.Frag} {H H' : Hp} {X : List Addr} {ow pp : Addr} {s : WS} (h : St K H X ow pp s) (e : ExtN H H') : St K H' X ow pp s := by
  obtain ⟨dx, nv, us, h1, h2, h3, h4⟩ := h.ex
  refine ⟨⟨dx, nv, us, e _ _ h1 (fun ps z => by cases z), e _ _ h2 (fun ps z => by cases z), ?_, Paired.mapP h4 fun v m q => q.up (hide_ext e _)⟩, h.nowOk, h.pastOk, h.few, h.out.up e⟩
  cases q : s.now with
  | none => rw [q] at h3; exact h3
  | some m =>
    rw [q] at h3
    exact MAt.up h3 (hide_ext e _)
/-- the moment now, its parts told -/
theorem St.now_is {K : PySem.W.Frag} {H : Hp} {X : List Addr} {ow pp : Addr} {s : WS} {m : Mom} (h : St K H X ow pp s) (hn : s.now = some m) : ∃ dx x0 dx0 lv wv us, H ow = some (.ins (CW K) dx (fsW (.ref x0) (.ref pp))) ∧ H pp = some (.lst us) ∧ us.length = s.past.length ∧ MIs K H x0 dx0 lv wv m ∧ Dp K (hide H (ow :: pp :: X)) lv (dLinks m.links) ∧ x0 ≠ ow ∧ x0 ≠ pp := by
  obtain ⟨dx, nv, us, h1, h2, h3, h4⟩ := h.ex
  rw [hn] at h3
  obtain ⟨x0, dx0, lv, wv, rfl, hx, hl, hw⟩ := h3
  have s1 := hide_same H (ow :: pp :: X)
  have hni := hide_in hx
  exact ⟨dx, x0, dx0, lv, wv, us, h1, h2, paired_len h4, ⟨s1 _ _ hx, hl.same s1, hw.same s1, h.nowOk m hn⟩, hl, fun z => hni (by simp [z]), fun z => hni (by simp [z])⟩
theorem MNew.at_ {K : PySem.W.Frag} {H H' : Hp} {v : V} {m : Mom} {lv : V} {X : List Addr} (h : MNew K H H' v m lv) (hX : ∀ b ∈ X, H b ≠ none) (hl : Dp K (hide H' X) lv (dLinks m.links)) : MAt K (hide H' X) v m := by
  obtain ⟨x, dx, wv, e, nx, hx, hw⟩ := h
  refine ⟨x, dx, lv, wv, e, ?_, hl, hw.same fun b o eb => ?_⟩
  · rw [hide_at fun z => hX x z nx]
    exact hx
  · have nb : H b = none := by
      unfold news at eb
      cases c : H b with
      | none => rfl
      | some u => rw [c] at eb; cases eb
    rw [hide_at fun z => hX b z nb]
    exact news_keep _ _ eb
theorem paired_pastL {α β : Type} {R : α → β → Prop} {l : List α} {r : List β} {x : α} {y : β} (h : Paired R l r) (hx : R x y) : Paired R (pastL l x) (pastL r y) := by
  have h1 := paired_snoc h hx
  unfold pastL
  generalize l ++ [x] = l1 at h1
  generalize r ++ [y] = r1 at h1
  have e := paired_len h1
  rw [e]
  split
  · cases h1 with
    | nil => exact .nil
    | cons a t => exact t
  · exact h1
/-- what stays over a call -/
structure After (K : PySem.W.Frag) (H H' : Hp) (ow pp pp' : Addr) : Prop where
  ext : ∀ b o, H b = some o → b ≠ ow → b ≠ pp → (∀ ps, o ≠ .tbl ps) → H' b = some o
  tabs : TabsN (Tn K) H'
  past : pp' = pp ∨ H pp' = none
theorem After.of_ext {K : PySem.W.Frag} {H H' : Hp} {ow pp : Addr} (e : ExtN H H') (t : TabsN (Tn K) H') : After K H H' ow pp pp := ⟨fun b o h _ _ n => e b o h n, t, .inl rfl⟩
/-- what is given: numbers, and a row -/
def GAt (H : Hp) (g : Addr) (ns : List Nat) : Option (List Nat) → Prop
  | none => H g = some (.lst (vN ns))
  | some l => ∃ rl, H g = some (.lst (vN ns ++ [.ref rl])) ∧ H rl = some (.lst (vN l))
abbrev Cmd := Ks540.Call
def argsOf : Cmd → List Nat
  | .begin_ n => [n]
  | .link u v => [u, v]
  | .unlink i => [i]
  | .stand u v => [u, v]
  | .step x y => [x, y]
  | .put => []
  | .take => []
  | .back => []
  | .looks i => [i]
  | .exits u => [u]
  | .walk u _ => [u]
  | .apart u v => [u, v]
  | .classes => []
  | .distance u v => [u, v]
  | .shrink u v => [u, v]
  | .meets d _ => [d]
  | .can d => [d]
  | .found d => [d]
  | .soonest h => [h]
  | .mean h => [h]
  | .known h _ => [h]
  | .pebble u v => [u, v]
  | .same u v => [u, v]
  | .count => []
  | .state => []
def rowOf : Cmd → Option (List Nat)
  | .walk _ w => some w
  | .meets _ w => some w
  | .known _ o => some o
  | _ => none
/-- all hangs together -/
abbrev Jo (m : Mom) : Prop := ∀ v, v < m.n → (allFar (waysM m) 0).getD v none ≠ none
/-- what was looked at ahead of the call -/
def preC (m : Mom) : Cmd → Prop
  | .link u v => u < m.n ∧ v < m.n
  | .stand u v => u < m.n ∧ v < m.n
  | .exits u => u < m.n
  | .walk u l => u < m.n ∧ l.length ≤ 50
  | .apart u v => u < m.n ∧ v < m.n
  | .distance u v => u < m.n ∧ v < m.n
  | .shrink u v => u < m.n ∧ v < m.n ∧ Jo m
  | .meets _ l => l.length ≤ 50
  | .can _ => Jo m
  | .found _ => Jo m
  | .soonest h => h < m.n ∧ Jo m
  | .mean h => h < m.n ∧ Jo m
  | .known h o => h < m.n ∧ o.length ≤ 50
  | .pebble u v => u < m.n ∧ v < m.n
  | .same u v => u < m.n ∧ v < m.n ∧ Jo m
  | _ => True
abbrev PS := Mom × List Mom
/-- no list stood there -/
abbrev NewL (H : Hp) (r : Addr) : Prop := ∀ xs, H r ≠ some (.lst xs)
theorem newL_of {H : Hp} {r : Addr} (h : H r = none) : NewL H r := fun xs e => by rw [h] at e; cases e
/-- a call of which the handler is asked: what it answers, and what then is -/
def sp_cmd (K : PySem.W.Frag) (is : Cmd → Prop) (play : Mom → List Mom → Cmd → PS × List Int) : Sp := fun vs H Q _ => ∃ (X : List Addr) (ow pp g : Addr) (s : WS) (m : Mom) (c : Cmd), is c ∧ vs = [.ref ow, .ref g] ∧ TabsN (Tn K) H ∧ St K H X ow pp s ∧ s.now = some m ∧ GAt H g (argsOf c) (rowOf c) ∧ g ≠ pp ∧ preC m c ∧
  ∀ H' r pp', After K H H' ow pp pp' → St K H' X ow pp' ⟨some (play m s.past c).1.1, (play m s.past c).1.2⟩ → NewL H r → H' r = some (.lst ((play m s.past c).2.map V.int)) → Q (.ref r) H'
abbrev emptyM (n : Nat) : Mom := ⟨n, [], 0, 0, none, 0, 0⟩
def linkM (m : Mom) (l : List (Nat × Nat)) (a b : Nat) : Mom := ⟨m.n, l, a, b, none, 0, 0⟩
section
variable {P : Program} {w : World} {K : PySem.W.Frag} {mg : Str → Option Value} {base : Heap} {f : Addr} {fd : FuncData}
/-- the change to a moment just made -/
theorem St.change {H Ha H1 H2 : Hp} {X : List Addr} {ow pp dx : Addr} {s : WS} {m m' : Mom} {nv z lv : V} {us : List V} (h : St K H X ow pp s) (hn : s.now = some m) (e1 : ExtN H Ha) (s1 : Same Ha H1) (hm : MNew K Ha H1 z m' lv) (ok : MomOk m') (hl : Dp K (hide Ha (ow :: pp :: X)) lv (dLinks m'.links))
    (how : Ha ow = some (.ins (CW K) dx (fsW nv (.ref pp)))) (hpp : Ha pp = some (.lst us)) (k2 : ∀ b, b ≠ ow → b ≠ pp → H2 b = H1 b) (p2 : H2 pp = some (.lst (pastL us nv))) (o2 : H2 ow = some (.ins (CW K) dx (fsW z (.ref pp)))) : St K H2 X ow pp ⟨some m', pastL s.past m⟩ := by
  have ha := h.up e1
  obtain ⟨dx', nv', us', h1, h2, h3, h4⟩ := ha.ex
  rw [how] at h1
  cases h1
  rw [hpp] at h2
  cases h2
  have eh : hide H2 (ow :: pp :: X) = hide H1 (ow :: pp :: X) := hide_eq fun b hb => k2 b (fun z => hb (by simp [z])) (fun z => hb (by simp [z]))
  have hX : ∀ b ∈ (ow :: pp :: X), Ha b ≠ none := fun b hb => by
    simp only [List.mem_cons] at hb
    rcases hb with rfl | rfl | hb
    · rw [how]; exact fun z => by cases z
    · rw [hpp]; exact fun z => by cases z
    · obtain ⟨o, h1, _⟩ := ha.out b hb
      rw [h1]; exact fun z => by cases z
  have e2 : ExtN (hide Ha (ow :: pp :: X)) (hide H1 (ow :: pp :: X)) := hide_ext (same_ext s1) _
  rw [hn] at h3
  have out2 : OutX H2 X := fun b hb => by
    by_cases h1 : b = ow
    · exact ⟨_, by rw [h1]; exact o2, fun ps z => by cases z⟩
    · by_cases h2 : b = pp
      · exact ⟨_, by rw [h2]; exact p2, fun ps z => by cases z⟩
      · obtain ⟨o, h5, h6⟩ := ha.out b hb
        exact ⟨o, by rw [k2 b h1 h2]; exact s1 _ _ h5, h6⟩
  refine ⟨⟨dx, z, pastL us nv, o2, p2, ?_, ?_⟩, fun q e => ?_, fun q hq => ?_, ?_, out2⟩
  · show MAt K (hide H2 (ow :: pp :: X)) z m'
    rw [eh]
    exact hm.at_ hX (hl.keep (extN_keep e2))
  · rw [eh]
    exact paired_pastL (Paired.mapP h4 fun v q x => x.up e2) (MAt.up h3 e2)
  · cases e
    exact ok
  · unfold pastL at hq
    have : q ∈ s.past ++ [m] := by
      split at hq
      · exact List.mem_of_mem_eraseIdx hq
      · exact hq
    rcases List.mem_append.mp this with hq | hq
    · exact h.pastOk q hq
    · simp only [List.mem_singleton] at hq
      subst hq
      exact h.nowOk q hn
  · have := h.few
    show (pastL s.past m).length ≤ 10
    unfold pastL
    split
    · rw [List.length_eraseIdx]
      simp only [List.length_append, List.length_cons, List.length_nil]
      split <;> omega
    · omega
end
end Nw
end
section
set_option maxRecDepth 100000
set_option maxHeartbeats 2000000
namespace Nw
open PySem PySem.Spec PyProof.Rows L2 LamX NdefX
theorem cls_stop {W : Ways} {k : Nat} (h : cls W (k + 1) = cls W k) : ∀ j, cls W (k + j) = cls W k
  | 0 => rfl
  | j + 1 => by
    have e := cls_stop h j
    rw [show k + (j + 1) = k + j + 1 by omega, cls, marks_succ, e, ← marks_succ]
    exact h
def endK (W : Ways) : Nat := W.length * W.length
def apW (W : Ways) (u v : Nat) : Option Nat := apartK W (endK W) u v
theorem apW_is {W : Ways} (ok : WOk W) {k u v : Nat} (h1 : ∀ i, i < k → cls W (i + 1) ≠ cls W i) (h2 : cls W (k + 1) = cls W k) : apartK W k u v = apW W u v := by
  have hk := cls_turns ok h1
  have st : ∀ i, k ≤ i → cls W i = cls W k := fun i hi => by
    have := cls_stop h2 (i - k)
    rw [show k + (i - k) = i by omega] at this
    exact this
  unfold apW endK
  cases e : apartK W k u v with
  | some i =>
    unfold apartK at e ⊢
    rw [List.find?_range_eq_some] at e
    symm
    rw [List.find?_range_eq_some]
    refine ⟨e.1, List.mem_range.mpr ?_, e.2.2⟩
    have := List.mem_range.mp e.2.1
    omega
  | none =>
    unfold apartK at e ⊢
    symm
    rw [List.find?_eq_none] at e ⊢
    intro i hi
    rcases Nat.lt_or_ge i (k + 1) with c | c
    · exact e i (List.mem_range.mpr c)
    · rw [st i (by omega)]
      exact e k (List.mem_range.mpr (by omega))
theorem clsE_is {W : Ways} (ok : WOk W) {k : Nat} (h1 : ∀ i, i < k → cls W (i + 1) ≠ cls W i) (h2 : cls W (k + 1) = cls W k) : cls W k = cls W (endK W) := by
  have hk := cls_turns ok h1
  have := cls_stop h2 (endK W - k)
  unfold endK at this ⊢
  rw [show k + (W.length * W.length - k) = W.length * W.length by omega] at this
  exact this.symm
def far0 (W : Ways) (u v : Nat) : Nat := ((allFar W u).getD v none).getD 0
def nearAt (W : Ways) (u v : Nat) : Nat := ((List.range (far0 W u v + 1)).find? fun k => (nearK W u v k).isSome).getD 0
def nearW (W : Ways) (u v : Nat) : Nat × List Nat := (nearAt W u v, (nearK W u v (nearAt W u v)).getD [])
theorem nearW_is {W : Ways} {u v k0 k : Nat} {l : List Nat} (h0 : (allFar W u).getD v none = some k0) (h1 : ∀ i, i < k → nearK W u v i = none) (h2 : nearK W u v k = some l) : nearW W u v = (k, l) := by
  have hk : k ≤ k0 := by
    rcases Nat.lt_or_ge k0 k with c | c
    · have := h1 k0 c
      rw [nearK_some h0] at this
      cases this
    · exact c
  have e0 : far0 W u v = k0 := by
    unfold far0
    rw [h0]
    rfl
  have e : nearAt W u v = k := by
    unfold nearAt
    have : (List.range (far0 W u v + 1)).find? (fun k => (nearK W u v k).isSome) = some k := by
      rw [List.find?_range_eq_some]
      refine ⟨by rw [h2]; rfl, List.mem_range.mpr (by omega), fun i hi => ?_⟩
      rw [h1 i hi]
      rfl
    rw [this]
    rfl
  unfold nearW
  rw [e, h2]
  rfl
abbrev nI (n : Nat) : Int := (n : Int)
abbrev iN (l : List Nat) : List Int := l.map nI
def playW (m : Mom) (past : List Mom) : Cmd → PS × List Int
  | .begin_ n => if 1 ≤ n ∧ n ≤ 7 then ((emptyM n, []), [0]) else ((m, past), [-22])
  | .link u v => if u = v then ((m, past), [-22]) else if (m.links.contains (u, v) || m.links.contains (v, u)) = true then ((m, past), [-17]) else if m.links.length = 10 then ((m, past), [-28]) else ((linkM m (m.links ++ [(u, v)]) m.a m.b, pastL past m), [nI m.links.length])
  | .unlink i => if m.links.length ≤ i then ((m, past), [-2]) else ((linkM m (m.links.eraseIdx i) m.a m.b, pastL past m), [nI (m.links.eraseIdx i).length])
  | .stand u v => ((linkM m m.links u v, pastL past m), [0])
  | .step x y => ((stepM m x y, pastL past m), [if (stepM m x y).a = (stepM m x y).b then 1 else 0, nI (cameIn (waysM m) m.a x), nI (rowAt (waysM m) (stepM m x y).a).length, nI (cameIn (waysM m) m.b y), nI (rowAt (waysM m) (stepM m x y).b).length])
  | .put => match m.p with
    | some _ => ((m, past), [-17])
    | none => ((pebM m (some m.a), pastL past m), [0])
  | .take => match m.p with
    | none => ((m, past), [-17])
    | some v => if v = m.a then ((pebM m none, pastL past m), [0]) else ((m, past), [-33])
  | .back => match past.getLast? with
    | none => ((m, past), [-6])
    | some g => ((g, past.dropLast), [nI past.dropLast.length])
  | .looks i => if 2 ≤ i then ((m, past), [-2]) else ((m, past), [nI (rowAt (waysM m) (if i = 0 then m.a else m.b)).length, if m.p = some (if i = 0 then m.a else m.b) then 1 else 0, if m.a = m.b then 1 else 0])
  | .exits u => ((m, past), nI (rowAt (waysM m) u).length :: (rowAt (waysM m) u).flatMap fun q => [nI q.1, nI q.2])
  | .walk u l => if 30 < l.length then ((m, past), [-22]) else ((m, past), nI (walkedW (waysM m) u l).length :: iN (walkedW (waysM m) u l))
  | .apart u v => match apW (waysM m) u v with
    | none => ((m, past), [-6])
    | some k => ((m, past), [nI k])
  | .classes => ((m, past), nI m.n :: iN (cls (waysM m) (endK (waysM m))))
  | .distance u v => match (allFar (waysM m) u).getD v none with
    | none => ((m, past), [-33])
    | some k => ((m, past), [nI k])
  | .shrink u v => if (apW (waysM m) u v).isSome = true then ((m, past), [-33]) else ((m, past), nI (nearW (waysM m) u v).1 :: nI (nearW (waysM m) u v).2.length :: iN (nearW (waysM m) u v).2)
  | .meets d l => if 30 < l.length ∨ 20 < d then ((m, past), [-22]) else match meetK (waysM m) m.a m.b d l with
    | none => ((m, past), [-33])
    | some k => ((m, past), [nI k, nI ((fstW (waysM m) m.a d l).getD k 0)])
  | .can d => if (apW (waysM m) m.a m.b).isSome = true then ((m, past), [1]) else ((m, past), [if (nearW (waysM m) m.a m.b).1 ≤ d then 1 else 0])
  | .found d => if 2 < d ∨ 4 < mostW (waysM m) then ((m, past), [-75]) else match meetW (waysM m) m.a m.b d with
    | none => ((m, past), [-33])
    | some l => ((m, past), nI l.length :: iN l)
  | .soonest h => if 6 < m.n then ((m, past), [-75]) else match bestW (waysM m) h worstL with
    | none => ((m, past), [])
    | some p => ((m, past), nI p.1 :: iN p.2)
  | .mean h => if 6 < m.n then ((m, past), [-75]) else match bestW (waysM m) h List.sum with
    | none => ((m, past), [])
    | some p => ((m, past), nI p.1 :: iN p.2)
  | .known h o => if o.mergeSort (· ≤ ·) ≠ allBut m.n h then ((m, past), [-22]) else match knownW (waysM m) h o with
    | none => ((m, past), [-33])
    | some l => ((m, past), nI l.length :: iN l)
  | .pebble u v => if 5 < m.n then ((m, past), [-75]) else match pebW (waysM m) u v with
    | none => ((m, past), [-6])
    | some l => ((m, past), nI l.length :: iN l)
  | .same u v => match namingW (waysM m) u v with
    | none => ((m, past), [-33])
    | some l => ((m, past), nI l.length :: iN l)
  | .count => ((m, past), [nI m.steps, nI m.met])
  | .state => ((m, past), [nI m.n, nI m.a, nI m.b, (match m.p with | none => 0 | some v => nI (v + 1)), if (!(allFar (waysM m) 0).any (·.isNone)) = true then 1 else 0, nI past.length, nI m.links.length] ++ m.links.flatMap fun p => [nI p.1, nI p.2])
abbrev sp_c (K : PySem.W.Frag) (is : Cmd → Prop) : Sp := sp_cmd K is playW
/-- of a call that changes nothing -/
theorem rd_ext {K : PySem.W.Frag} {H : Hp} {X : List Addr} {ow pp : Addr} {s : WS} {m : Mom} {Q : VK} {p : PS × List Int} (hS : St K H X ow pp s) (hn : s.now = some m)
    (q : ∀ H' r pp', After K H H' ow pp pp' → St K H' X ow pp' ⟨some p.1.1, p.1.2⟩ → NewL H r → H' r = some (.lst (p.2.map V.int)) → Q (.ref r) H') (l : List Int) (e : p = ((m, s.past), l)) :
    ∀ H' r, ExtN H H' → TabsN (Tn K) H' → NewL H r → H' r = some (.lst (l.map V.int)) → Q (.ref r) H' := by
  intro H' r he ht nr hr
  subst e
  refine q H' r pp (After.of_ext he ht) ?_ nr hr
  have := hS.up he
  obtain ⟨n, ps⟩ := s
  cases hn
  exact this
theorem rd_of {K : PySem.W.Frag} {H : Hp} {X : List Addr} {ow pp : Addr} {s : WS} {m : Mom} {Q : VK} {p : PS × List Int} (hS : St K H X ow pp s) (hn : s.now = some m)
    (q : ∀ H' r pp', After K H H' ow pp pp' → St K H' X ow pp' ⟨some p.1.1, p.1.2⟩ → NewL H r → H' r = some (.lst (p.2.map V.int)) → Q (.ref r) H') (l : List Int) (e : p = ((m, s.past), l)) :
    ∀ H' r, ExtN H H' → TabsN (Tn K) H' → H r = none → H' r = some (.lst (l.map V.int)) → Q (.ref r) H' := fun H' r he ht nr hr => rd_ext hS hn q l e H' r he ht (newL_of nr) hr
theorem iN_V (l : List Nat) : (iN l).map V.int = vN l := by
  rw [iN, List.map_map]
  rfl
end Nw
end
section
set_option maxRecDepth 100000
set_option maxHeartbeats 2000000
namespace Nw
open PySem PySem.Spec PyProof.Rows L2 LamX NdefX
abbrev TupIn (K : PySem.W.Frag) (H : Hp) (X : List Addr) (v : V) (xs : List V) : Prop := ∃ a, v = .ref a ∧ SqT K (hide H X) a xs
theorem TupIn.up {K : PySem.W.Frag} {H H' : Hp} {X : List Addr} {v : V} {xs : List V} (h : TupIn K H X v xs) (s : Same H H') : TupIn K H' X v xs := by
  obtain ⟨a, e, h⟩ := h
  exact ⟨a, e, (extN_keep (hide_ext (same_ext s) X)).sqT h⟩
theorem TupIn.new {K : PySem.W.Frag} {H : Hp} {X : List Addr} {xs : List V} {p : Addr} (hX : ∀ b ∈ X, H b ≠ none) (np : H p = none) : TupIn K (upd H p (.tup xs)) X (.ref p) xs :=
  ⟨p, rfl, SqT.of (by rw [hide_at fun z => hX p z np, upd_same])⟩
theorem cut_whole {xs : List V} {lo hi : Option Int} (h : HT.sIx xs.length 0 lo = 0 ∧ HT.sIx xs.length xs.length hi = xs.length) : cutV xs lo hi = xs := by
  unfold cutV
  rw [h.1, h.2]
  simp
theorem slA_in {K : PySem.W.Frag} {H : Hp} {X : List Addr} {v : V} {xs : List V} {lo hi : Option Int} {R : VK} (hX : ∀ b ∈ X, H b ≠ none) (h : TupIn K H X v xs) (q : ∀ v' H2, Same H H2 → TupIn K H2 X v' (cutV xs lo hi) → R v' H2) : rSlA K v lo hi H R := by
  obtain ⟨a, rfl, ha⟩ := h
  refine ⟨a, xs, rfl, (hide_same H X).keep.sqT ha, fun e => ?_, fun _ p np => ?_⟩
  · refine q _ _ (Same.refl _) ⟨a, rfl, ?_⟩
    rw [cut_whole e]
    exact ha
  · exact q _ _ (Same.new np) (TupIn.new hX np)
theorem catA_in {K : PySem.W.Frag} {H : Hp} {X : List Addr} {v u : V} {xs ys : List V} {R : VK} (hX : ∀ b ∈ X, H b ≠ none) (h : TupIn K H X v xs) (k : TupIn K H X u ys) (hz : xs.length + ys.length ≤ sizeLine) (q : ∀ v' H2, Same H H2 → TupIn K H2 X v' (xs ++ ys) → R v' H2) : rCatA K v u H R := by
  obtain ⟨a, rfl, ha⟩ := h
  obtain ⟨b, rfl, hb⟩ := k
  refine ⟨a, b, xs, ys, rfl, rfl, (hide_same H X).keep.sqT ha, (hide_same H X).keep.sqT hb, hz, fun e => ?_, fun _ e => ?_, fun _ _ p np => ?_⟩
  · refine q _ _ (Same.refl _) ⟨b, rfl, ?_⟩
    rw [e]
    exact hb
  · refine q _ _ (Same.refl _) ⟨a, rfl, ?_⟩
    rw [e, List.append_nil]
    exact ha
  · exact q _ _ (Same.new np) (TupIn.new hX np)
section
variable {P : Program} {w : World} {K : PySem.W.Frag} {mg : Str → Option Value} {base : Heap} {f : Addr} {fd : FuncData}
theorem tabs_but {H H' : Hp} {ow pp : Addr} (t : TabsN (Tn K) H) (k : ∀ b o, H b = some o → b ≠ ow → b ≠ pp → H' b = some o) (how : ∀ o, H ow = some o → ∃ C dx fs, o = .ins C dx fs) (hpp : ∀ o, H pp = some o → ∃ us, o = .lst us) : TabsN (Tn K) H' := by
  intro p hp
  obtain ⟨ps, h1, h2, h3⟩ := t p hp
  have ne1 : ∀ b o, H b = some o → (∀ C dx fs, o ≠ .ins C dx fs) → (∀ us, o ≠ .lst us) → H' b = some o := fun b o e n1 n2 => k b o e (fun z => by
    rw [z] at e
    obtain ⟨C, dx, fs, eo⟩ := how o e
    exact n1 C dx fs eo) (fun z => by
    rw [z] at e
    obtain ⟨us, eo⟩ := hpp o e
    exact n2 us eo)
  refine ⟨ps, ne1 _ _ h1 (fun _ _ _ z => by cases z) (fun _ z => by cases z), h2, fun pos cv hc => ?_⟩
  obtain ⟨c, e1, e2⟩ := h3 pos cv hc
  exact ⟨c, e1, ne1 _ _ e2 (fun _ _ _ z => by unfold CodeO at z; cases z) (fun _ z => by unfold CodeO at z; cases z)⟩
/-- the end of a call that changes -/
theorem fin_change {H Ha H1 H2 : Hp} {X : List Addr} {ow pp dx : Addr} {s : WS} {m m' : Mom} {nv z lv : V} {us : List V} {Q : VK} {p : PS × List Int} {l : List Int} (hS : St K H X ow pp s) (hn : s.now = some m) (hT : TabsN (Tn K) H)
    (q : ∀ H' r pp', After K H H' ow pp pp' → St K H' X ow pp' ⟨some p.1.1, p.1.2⟩ → NewL H r → H' r = some (.lst (p.2.map V.int)) → Q (.ref r) H') (e : p = ((m', pastL s.past m), l)) (e1 : Same H Ha) (s1 : Same Ha H1) (hm : MNew K Ha H1 z m' lv) (ok : MomOk m') (hl : Dp K (hide Ha (ow :: pp :: X)) lv (dLinks m'.links))
    (how : H ow = some (.ins (CW K) dx (fsW nv (.ref pp)))) (hpp : H pp = some (.lst us)) (k2 : ∀ b, b ≠ ow → b ≠ pp → H2 b = H1 b) (p2 : H2 pp = some (.lst (pastL us nv))) (o2 : H2 ow = some (.ins (CW K) dx (fsW z (.ref pp)))) :
    ∀ H3 r, Same H2 H3 → H2 r = none → H3 r = some (.lst (l.map V.int)) → Q (.ref r) H3 := by
  intro H3 r s3 nr hr
  subst e
  have S2 := St.change hS hn (same_ext e1) s1 hm ok hl (e1 _ _ how) (e1 _ _ hpp) k2 p2 o2
  have k3 : ∀ b o, H b = some o → b ≠ ow → b ≠ pp → H3 b = some o := fun b o eb h1 h2 => s3 _ _ (by rw [k2 b h1 h2]; exact s1 _ _ (e1 _ _ eb))
  refine q H3 r pp ⟨fun b o eb h1 h2 _ => k3 b o eb h1 h2, tabs_but hT k3 (fun o eo => ?_) (fun o eo => ?_), .inl rfl⟩ (S2.up (same_ext s3)) (newL_of ?_) hr
  · rw [how] at eo
    cases eo
    exact ⟨_, _, _, rfl⟩
  · rw [hpp] at eo
    cases eo
    exact ⟨_, rfl⟩
  · cases c : H r with
    | none => rfl
    | some o =>
      by_cases h1 : r = ow
      · rw [h1, o2] at nr
        cases nr
      · by_cases h2 : r = pp
        · rw [h2, p2] at nr
          cases nr
        · have := k2 r h1 h2
          rw [nr, s1 _ _ (e1 _ _ c)] at this
          cases this
theorem linkM_ok {m : Mom} (h : MomOk m) {l : List (Nat × Nat)} {a b : Nat} (hl : l.length ≤ 10) (he : ∀ p ∈ l, p.1 < m.n ∧ p.2 < m.n ∧ p.1 ≠ p.2) (ha : a < m.n) (hb : b < m.n) : MomOk (linkM m l a b) := ⟨h.pos, h.few, hl, he, ha, hb, fun q e => by cases e⟩
theorem hX_of {H : Hp} {X : List Addr} {ow pp : Addr} {o u : HO} (out : OutX H X) (how : H ow = some o) (hpp : H pp = some u) : ∀ b ∈ (ow :: pp :: X), H b ≠ none := fun b hb => by
  simp only [List.mem_cons] at hb
  rcases hb with rfl | rfl | hb
  · rw [how]; exact fun z => by cases z
  · rw [hpp]; exact fun z => by cases z
  · obtain ⟨o, h1, _⟩ := out b hb
    rw [h1]; exact fun z => by cases z
/-- one more number, of two -/
theorem at0 {u : V} {l : List V} : atI (u :: l) 0 = some u := at_nat (i := 0) rfl
theorem at1 {u v : V} {l : List V} : atI (u :: v :: l) 1 = some v := at_nat (i := 1) rfl
abbrev is_stand (c : Cmd) : Prop := ∃ u v, c = .stand u v
theorem sc_stand : FnScope ["wanderers", "given", "now"] ["wanderers", "given"] (defScope s_stand) := ⟨rfl, rfl, rfl, by decide +kernel, rfl, by decide +kernel, by decide +kernel⟩
theorem ok_stand (T : Tx K mg) (F : FnP K d_stand f fd) (G_set_out : Has P w K mg 4 "set_out" ["size", "links", "a", "b"] (sp_set_out K)) (G_Wanderers_change : HasM P w K mg 1 (CW K) "change" ["self", "moment"] (sp_Wanderers_change K)) : FnOk P w K mg base CX0 5 f fd ["wanderers", "given"] (sp_c K is_stand) := by
  refine F.ok sc_stand (fun vs H Q E h => ?_) (fun cdv A outer s H vs Q E hr h => ⟨_, PSs.nox
    (pss_cons (ps_set (i := 2) sc_stand.nd rfl (Or.inl rfl) (pe_fld (pv 0) rfl))
      (pss_cons (ps_expr (pe_hasM G_Wanderers_change hr (pv 0) (pa_cons (pe_has G_set_out hr (pa_cons (pe_fld (pv 2) rfl) (pa_cons (pe_fld (pv 2) rfl) (pa_cons (pe_ix ix_list (pv 1) pe_int (fun _ _ => rfl)) (pa_cons (pe_ix ix_list (pv 1) pe_int (fun _ _ => rfl)) pa_nil))))) pa_nil)))
      (pss_one (ps_ret (pe_lst (pa_cons pe_int pa_nil)))))), ?_⟩)
  · obtain ⟨X, ow, pp, g, s, m, c, _, rfl, _⟩ := h
    rfl
  · obtain ⟨X, ow, pp, g, s, m, c, ⟨u, v, rfl⟩, rfl, hT, hS, hn, hg, hgp, ⟨hu, hv⟩, q⟩ := h
    obtain ⟨dx, x0, dx0, lv, wv, us, how, hpp, hul, ⟨hx, hl, hw, hm⟩, hl', hx1, hx2⟩ := hS.now_is hn
    have hg : H g = some (.lst (vN [u, v])) := hg
    have hu10 : us.length ≤ 10 := by rw [hul]; exact hS.few
    refine ⟨_, rfl, ow, CW K, dx, _, _, rfl, how, T.cl_Wanderers, T.na_now, rfl, ?_⟩
    refine ⟨_, rfl, ow, dx, _, rfl, how, rfl, ?_⟩
    refine ⟨_, rfl, x0, CM K, dx0, _, _, rfl, hx, T.cl_Moment, T.na_size, rfl, _, rfl, x0, CM K, dx0, _, _, rfl, hx, T.cl_Moment, T.na_links, rfl, _, rfl, g, _, (0 : Int), _, rfl, rfl, SqL.of hg, at0, _, rfl, g, _, (1 : Int), _, rfl, rfl, SqL.of hg, at1, ?_⟩
    refine ⟨lv, m.n, u, v, m.links, rfl, linkM_ok hm hm.short hm.ends hu hv, hl, fun H1 z s1 hz => ?_⟩
    refine ⟨ow, dx, pp, z, .ref x0, us, rfl, s1 _ _ how, s1 _ _ hpp, hu10, fun H2 k2 p2 o2 => ?_⟩
    refine ⟨(by show 1 ≤ sizeLine; decide), fun r nr => ?_⟩
    exact fin_change hS hn hT q rfl (Same.refl _) s1 hz (linkM_ok hm hm.short hm.ends hu hv) hl' how hpp k2 p2 o2 _ r (Same.new nr) nr upd_same
end
end Nw
end
section
set_option maxRecDepth 100000
set_option maxHeartbeats 2000000
namespace Nw
open PySem PySem.Spec PyProof.Rows L2 LamX NdefX
theorem links_tup {K : PySem.W.Frag} {H : Hp} {X : List Addr} {lv : V} {l : List (Nat × Nat)} (h : Dp K (hide H X) lv (dLinks l)) : ∃ xs, TupIn K H X lv xs ∧ DpAll K (hide H X) xs (l.map dPair) := by
  obtain ⟨a, xs, e, sq, al⟩ := h.tup_of
  exact ⟨xs, ⟨a, e, sq⟩, al⟩
theorem tup_links {K : PySem.W.Frag} {H : Hp} {X : List Addr} {lv : V} {xs : List V} {l : List (Nat × Nat)} (h : TupIn K H X lv xs) (al : DpAll K (hide H X) xs (l.map dPair)) : Dp K (hide H X) lv (dLinks l) := by
  obtain ⟨a, rfl, sq⟩ := h
  exact .tup sq al
theorem DpAll.take {K : PySem.W.Frag} {H : Hp} : ∀ {vs : List V} {ds : List PyData} (i : Nat), DpAll K H vs ds → DpAll K H (vs.take i) (ds.take i)
  | _, _, 0, _ => by rw [List.take_zero, List.take_zero]; exact .nil
  | _, _, i + 1, .nil => by rw [List.take_nil, List.take_nil]; exact .nil
  | _, _, i + 1, .cons h t => by rw [List.take_succ_cons, List.take_succ_cons]; exact .cons h (DpAll.take i t)
theorem DpAll.drop {K : PySem.W.Frag} {H : Hp} : ∀ {vs : List V} {ds : List PyData} (i : Nat), DpAll K H vs ds → DpAll K H (vs.drop i) (ds.drop i)
  | _, _, 0, h => by rw [List.drop_zero, List.drop_zero]; exact h
  | _, _, i + 1, .nil => by rw [List.drop_nil, List.drop_nil]; exact .nil
  | _, _, i + 1, .cons h t => by rw [List.drop_succ_cons, List.drop_succ_cons]; exact DpAll.drop i t
theorem cut_take (xs : List V) (i : Nat) : cutV xs none (some (i : Int)) = xs.take i := by
  unfold cutV
  rw [HT.sIx_none, HT.sIx_nat, List.drop_zero, Nat.sub_zero, ← List.take_eq_take_min]
theorem cut_drop (xs : List V) (i : Nat) : cutV xs (some (i : Int)) none = xs.drop i := by
  unfold cutV
  rw [HT.sIx_none, HT.sIx_nat]
  rcases Nat.le_total i xs.length with c | c
  · rw [Nat.min_eq_left c, List.take_of_length_le (by rw [List.length_drop]; exact Nat.le_refl _)]
  · rw [Nat.min_eq_right c, List.drop_of_length_le (Nat.le_refl _), List.drop_of_length_le c, List.take_nil]
theorem eqv_len {K : PySem.W.Frag} {H : Hp} {lv : V} {l : List (Nat × Nat)} (h : Dp K H lv (dLinks l)) : ∃ a xs, lv = .ref a ∧ SqT K H a xs ∧ xs.length = l.length := by
  obtain ⟨a, xs, e, sq, al⟩ := h.tup_of
  exact ⟨a, xs, e, sq, by rw [al.len, List.length_map]⟩
section
variable {P : Program} {w : World} {K : PySem.W.Frag} {mg : Str → Option Value} {base : Heap} {f : Addr} {fd : FuncData}
abbrev is_link (c : Cmd) : Prop := ∃ u v, c = .link u v
theorem sc_link : FnScope ["wanderers", "given", "now", "u", "v"] ["wanderers", "given"] (defScope s_link) := ⟨rfl, rfl, rfl, by decide +kernel, rfl, by decide +kernel, by decide +kernel⟩
theorem ok_link (T : Tx K mg) (F : FnP K d_link f fd) (G_is_linked : Has P w K mg 1 "is_linked" ["links", "u", "v"] (sp_is_linked K)) (G_set_out : Has P w K mg 4 "set_out" ["size", "links", "a", "b"] (sp_set_out K)) (G_Wanderers_change : HasM P w K mg 1 (CW K) "change" ["self", "moment"] (sp_Wanderers_change K)) : FnOk P w K mg base CX0 5 f fd ["wanderers", "given"] (sp_c K is_link) := by
  refine F.ok sc_link (fun vs H Q E h => ?_) (fun cdv A outer s H vs Q E hr h => ⟨_, PSs.nox
    (pss_cons (ps_set (i := 2) sc_link.nd rfl (Or.inl rfl) (pe_fld (pv 0) rfl))
      (pss_cons (ps_set (i := 3) sc_link.nd rfl (Or.inl rfl) (pe_ix ix_list (pv 1) pe_int (fun _ _ => rfl)))
      (pss_cons (ps_set (i := 4) sc_link.nd rfl (Or.inl rfl) (pe_ix ix_list (pv 1) pe_int (fun _ _ => rfl)))
      (pss_cons (ps_if (pt_cmpR op_eq (pv 3) (pv 4) (nomark _)) (pss_one (ps_ret (pe_lst (pa_cons (pe_gint T.c_WRONG) pa_nil)))) pss_nil)
      (pss_cons (ps_if (pt_val (pe_has G_is_linked hr (pa_cons (pe_fld (pv 2) rfl) (pa_cons (pv 3) (pa_cons (pv 4) pa_nil))))) (pss_one (ps_ret (pe_lst (pa_cons (pe_gint T.c_ALREADY) pa_nil)))) pss_nil)
      (pss_cons (ps_if (pt_cmpR op_eq (pe_callB call_len_seq (by rfl) T.f_len PySem.boot_len (pa_cons (pe_fld (pv 2) rfl) pa_nil)) (pe_gint T.c_MOST_LINKS) (nomark _)) (pss_one (ps_ret (pe_lst (pa_cons (pe_gint T.c_FULL) pa_nil)))) pss_nil)
      (pss_cons (ps_expr (pe_hasM G_Wanderers_change hr (pv 0) (pa_cons (pe_has G_set_out hr (pa_cons (pe_fld (pv 2) rfl) (pa_cons (pe_op op_catA (pe_fld (pv 2) rfl) (pe_tup (pa_cons (pe_tup (pa_cons (pv 3) (pa_cons (pv 4) pa_nil))) pa_nil))) (pa_cons (pe_fld (pv 2) rfl) (pa_cons (pe_fld (pv 2) rfl) pa_nil))))) pa_nil)))
      (pss_one (ps_ret (pe_lst (pa_cons (pe_callB call_len_seq (by rfl) T.f_len PySem.boot_len (pa_cons (pe_fld (pv 2) rfl) pa_nil)) pa_nil))))))))))), ?_⟩)
  · obtain ⟨X, ow, pp, g, s, m, c, _, rfl, _⟩ := h
    rfl
  · obtain ⟨X, ow, pp, g, s, m, c, ⟨u, v, rfl⟩, rfl, hT, hS, hn, hg, hgp, ⟨hu, hv⟩, q⟩ := h
    obtain ⟨dx, x0, dx0, lv, wv, us, how, hpp, hul, ⟨hx, hl, hw, hm⟩, hl', hx1, hx2⟩ := hS.now_is hn
    have hg : H g = some (.lst (vN [u, v])) := hg
    have hu10 : us.length ≤ 10 := by rw [hul]; exact hS.few
    refine ⟨_, rfl, ow, CW K, dx, _, _, rfl, how, T.cl_Wanderers, T.na_now, rfl, ?_⟩
    refine ⟨_, rfl, g, _, (0 : Int), _, rfl, rfl, SqL.of hg, at0, _, rfl, g, _, (1 : Int), _, rfl, rfl, SqL.of hg, at1, ?_⟩
    refine ⟨_, rfl, _, rfl, rfl, _, rfl, ?_⟩
    rw [dec_nat]
    by_cases c1 : u = v
    · have e : playW m s.past (.link u v) = ((m, s.past), [-22]) := by simp only [playW, if_pos c1]
      refine if_true_of (decide_eq_true c1) ⟨(by show 1 ≤ sizeLine; decide), fun r nr => ?_⟩
      exact rd_of hS hn q _ e _ r (same_ext (Same.new nr)) (hT.ext (Same.new nr)) nr upd_same
    · refine if_false_of (decide_eq_false c1) ?_
      refine ⟨_, rfl, x0, CM K, dx0, _, _, rfl, hx, T.cl_Moment, T.na_links, rfl, _, rfl, _, rfl, lv, m.links, u, v, rfl, hl, fun H1 s1 => ⟨_, rfl, ?_⟩⟩
      by_cases c2 : (m.links.contains (u, v) || m.links.contains (v, u)) = true
      · have e : playW m s.past (.link u v) = ((m, s.past), [-17]) := by simp only [playW, if_neg c1, if_pos c2]
        refine if_true_of c2 ⟨(by show 1 ≤ sizeLine; decide), fun r nr => ?_⟩
        have s2 := s1.trans (Same.new (o := .lst [.int (-17)]) nr)
        exact rd_of hS hn q _ e _ r (same_ext s2) (hT.ext s2) (s1.free nr) upd_same
      · obtain ⟨xs, ⟨la, rfl, sqh⟩, al⟩ := links_tup hl'
        have sqa : SqT K H la xs := (hide_same H (ow :: pp :: X)).keep.sqT sqh
        have hxs : xs.length = m.links.length := by rw [al.len, List.length_map]
        refine if_false_of (by simpa using c2) ?_
        refine ⟨_, rfl, x0, CM K, dx0, _, _, rfl, s1 _ _ hx, T.cl_Moment, T.na_links, rfl, la, xs, rfl, .inr (s1.keep.sqT sqa), rfl, _, rfl, ?_⟩
        rw [hxs, show decide (V.int ((m.links.length : Nat) : Int) = V.int 10) = decide (m.links.length = 10) from dec_nat _ 10]
        by_cases c3 : m.links.length = 10
        · have e : playW m s.past (.link u v) = ((m, s.past), [-28]) := by simp only [playW, if_neg c1, if_neg c2, if_pos c3]
          refine if_true_of (decide_eq_true c3) ⟨(by show 1 ≤ sizeLine; decide), fun r nr => ?_⟩
          have s2 := s1.trans (Same.new (o := .lst [.int (-28)]) nr)
          exact rd_of hS hn q _ e _ r (same_ext s2) (hT.ext s2) (s1.free nr) upd_same
        · have e : playW m s.past (.link u v) = ((linkM m (m.links ++ [(u, v)]) m.a m.b, pastL s.past m), [nI m.links.length]) := by simp only [playW, if_neg c1, if_neg c2, if_neg c3]
          refine if_false_of (decide_eq_false c3) ?_
          have okm : MomOk (linkM m (m.links ++ [(u, v)]) m.a m.b) := linkM_ok hm (by have := hm.short; simp only [List.length_append, List.length_cons, List.length_nil]; omega) (fun p hp => by
            rcases List.mem_append.mp hp with hp | hp
            · exact hm.ends p hp
            · simp only [List.mem_singleton] at hp
              subst hp
              exact ⟨hu, hv, c1⟩) hm.a hm.b
          have ht : TupIn K H (ow :: pp :: X) (.ref la) xs := ⟨la, rfl, sqh⟩
          refine ⟨_, rfl, ow, dx, _, rfl, s1 _ _ how, rfl, ?_⟩
          refine ⟨_, rfl, x0, CM K, dx0, _, _, rfl, s1 _ _ hx, T.cl_Moment, T.na_size, rfl, _, rfl, x0, CM K, dx0, _, _, rfl, s1 _ _ hx, T.cl_Moment, T.na_links, rfl, _, rfl, _, rfl, (by show 2 ≤ sizeLine; decide), fun t1 n1 => ⟨(by show 1 ≤ sizeLine; decide), fun t2 n2 => ?_⟩⟩
          have hX1 := hX_of (hS.out.same s1) (s1 _ _ how) (s1 _ _ hpp)
          have sa : Same H1 (upd H1 t1 (.tup [.int (u : Int), .int (v : Int)])) := Same.new n1
          have hX2 := hX_of ((hS.out.same s1).same sa) (sa _ _ (s1 _ _ how)) (sa _ _ (s1 _ _ hpp))
          have sb := sa.trans (Same.new (o := .tup [.ref t1]) n2)
          have hX3 := hX_of ((hS.out.same s1).same sb) (sb _ _ (s1 _ _ how)) (sb _ _ (s1 _ _ hpp))
          refine catA_in (X := (ow :: pp :: X)) hX3 ((ht.up s1).up sb) (TupIn.new hX2 n2) (by rw [hxs]; have := hm.short; exact Nat.le_trans (show m.links.length + 1 ≤ 11 by omega) (by decide)) fun lv2 H2 s2 ht2 => ?_
          have sc := sb.trans s2
          have s02 := s1.trans sc
          have hx' := s02 _ _ hx
          refine ⟨_, rfl, x0, CM K, dx0, _, _, rfl, hx', T.cl_Moment, T.na_a, rfl, _, rfl, x0, CM K, dx0, _, _, rfl, hx', T.cl_Moment, T.na_b, rfl, ?_⟩
          have ht1 : hide H2 (ow :: pp :: X) t1 = some (.tup [.int (u : Int), .int (v : Int)]) := by
            rw [hide_at fun z => hX1 t1 z n1]
            refine s2 _ _ ?_
            rw [upd_ne (fun z => by rw [← z, upd_same] at n2; cases n2), upd_same]
          have hl2 : Dp K (hide H2 (ow :: pp :: X)) lv2 (dLinks (m.links ++ [(u, v)])) := by
            refine tup_links ht2 ?_
            rw [List.map_append]
            exact DpAll.app (al.keep (extN_keep (hide_ext (same_ext s02) _))) (.cons (pair_at ht1) .nil)
          refine ⟨lv2, m.n, m.a, m.b, m.links ++ [(u, v)], rfl, okm, hl2.same (hide_same _ _), fun H3 z s3 hz => ?_⟩
          refine ⟨ow, dx, pp, z, .ref x0, us, rfl, s3 _ _ (s02 _ _ how), s3 _ _ (s02 _ _ hpp), hu10, fun H4 k4 p4 o4 => ?_⟩
          have hx4 : H4 x0 = some (.ins (CM K) dx0 (fsM m (.ref la) wv)) := by rw [k4 x0 hx1 hx2]; exact s3 _ _ hx'
          have sq4 : SqT K H4 la xs := by
            have e4 : hide H4 (ow :: pp :: X) = hide H3 (ow :: pp :: X) := hide_eq fun b hb => k4 b (fun z => hb (by simp [z])) (fun z => hb (by simp [z]))
            have k5 := (extN_keep (hide_ext (same_ext (s02.trans s3)) (ow :: pp :: X))).sqT sqh
            rw [← e4] at k5
            exact (hide_same H4 _).keep.sqT k5
          refine ⟨_, rfl, x0, CM K, dx0, _, _, rfl, hx4, T.cl_Moment, T.na_links, rfl, la, xs, rfl, .inr sq4, (by show 1 ≤ sizeLine; decide), fun r nr => ?_⟩
          exact fin_change hS hn hT q e s02 s3 hz okm hl2 how hpp k4 p4 o4 _ r (Same.new nr) nr (by rw [upd_same, hxs]; rfl)
end
end Nw
end
section
set_option maxRecDepth 100000
set_option maxHeartbeats 2000000
namespace Nw
open PySem PySem.Spec PyProof.Rows L2 LamX NdefX
section
variable {P : Program} {w : World} {K : PySem.W.Frag} {mg : Str → Option Value} {base : Heap} {f : Addr} {fd : FuncData}
abbrev is_unlink (c : Cmd) : Prop := ∃ i, c = .unlink i
theorem sc_unlink : FnScope ["wanderers", "given", "now", "gone", "left"] ["wanderers", "given"] (defScope s_unlink) := ⟨rfl, rfl, rfl, by decide +kernel, rfl, by decide +kernel, by decide +kernel⟩
theorem ok_unlink (T : Tx K mg) (F : FnP K d_unlink f fd) (G_set_out : Has P w K mg 4 "set_out" ["size", "links", "a", "b"] (sp_set_out K)) (G_Wanderers_change : HasM P w K mg 1 (CW K) "change" ["self", "moment"] (sp_Wanderers_change K)) : FnOk P w K mg base CX0 5 f fd ["wanderers", "given"] (sp_c K is_unlink) := by
  refine F.ok sc_unlink (fun vs H Q E h => ?_) (fun cdv A outer s H vs Q E hr h => ⟨_, PSs.nox
    (pss_cons (ps_set (i := 2) sc_unlink.nd rfl (Or.inl rfl) (pe_fld (pv 0) rfl))
      (pss_cons (ps_set (i := 3) sc_unlink.nd rfl (Or.inl rfl) (pe_ix ix_list (pv 1) pe_int (fun _ _ => rfl)))
      (pss_cons (ps_if (pt_cmpR op_ge (pv 3) (pe_callB call_len_seq (by rfl) T.f_len PySem.boot_len (pa_cons (pe_fld (pv 2) rfl) pa_nil)) (nomark _)) (pss_one (ps_ret (pe_lst (pa_cons (pe_gint T.c_NOT_THERE) pa_nil)))) pss_nil)
      (pss_cons (ps_set (i := 4) sc_unlink.nd rfl (Or.inl rfl) (pe_op op_catA (pe_slice sl_tupA (pe_fld (pv 2) rfl) po_none (po_some (pv 3))) (pe_slice sl_tupA (pe_fld (pv 2) rfl) (po_some (pe_op op_add (pv 3) pe_int)) po_none)))
      (pss_cons (ps_expr (pe_hasM G_Wanderers_change hr (pv 0) (pa_cons (pe_has G_set_out hr (pa_cons (pe_fld (pv 2) rfl) (pa_cons (pv 4) (pa_cons (pe_fld (pv 2) rfl) (pa_cons (pe_fld (pv 2) rfl) pa_nil))))) pa_nil)))
      (pss_one (ps_ret (pe_lst (pa_cons (pe_callB call_len_seq (by rfl) T.f_len PySem.boot_len (pa_cons (pv 4) pa_nil)) pa_nil))))))))), ?_⟩)
  · obtain ⟨X, ow, pp, g, s, m, c, _, rfl, _⟩ := h
    rfl
  · obtain ⟨X, ow, pp, g, s, m, c, ⟨i, rfl⟩, rfl, hT, hS, hn, hg, hgp, _, q⟩ := h
    obtain ⟨dx, x0, dx0, lv, wv, us, how, hpp, hul, ⟨hx, hl, hw, hm⟩, hl', hx1, hx2⟩ := hS.now_is hn
    have hg : H g = some (.lst (vN [i])) := hg
    have hu10 : us.length ≤ 10 := by rw [hul]; exact hS.few
    obtain ⟨xs, ⟨la, rfl, sqh⟩, al⟩ := links_tup hl'
    have sqa : SqT K H la xs := (hide_same H (ow :: pp :: X)).keep.sqT sqh
    have hxs : xs.length = m.links.length := by rw [al.len, List.length_map]
    refine ⟨_, rfl, ow, CW K, dx, _, _, rfl, how, T.cl_Wanderers, T.na_now, rfl, ?_⟩
    refine ⟨_, rfl, g, _, (0 : Int), _, rfl, rfl, SqL.of hg, at0, ?_⟩
    refine ⟨_, rfl, _, rfl, x0, CM K, dx0, _, _, rfl, hx, T.cl_Moment, T.na_links, rfl, la, xs, rfl, .inr sqa, _, _, rfl, rfl, _, rfl, ?_⟩
    rw [hxs]
    by_cases c1 : m.links.length ≤ i
    · have e : playW m s.past (.unlink i) = ((m, s.past), [-2]) := by simp only [playW, if_pos c1]
      refine if_true_of (decide_eq_true (by omega)) ⟨(by show 1 ≤ sizeLine; decide), fun r nr => ?_⟩
      exact rd_of hS hn q _ e _ r (same_ext (Same.new nr)) (hT.ext (Same.new nr)) nr upd_same
    · have e : playW m s.past (.unlink i) = ((linkM m (m.links.eraseIdx i) m.a m.b, pastL s.past m), [nI (m.links.eraseIdx i).length]) := by simp only [playW, if_neg c1]
      refine if_false_of (decide_eq_false (by omega)) ?_
      have hle : (m.links.eraseIdx i).length ≤ 10 := Nat.le_trans (List.length_eraseIdx_le _ _) hm.short
      have okm : MomOk (linkM m (m.links.eraseIdx i) m.a m.b) := linkM_ok hm hle (fun p hp => hm.ends p (List.mem_of_mem_eraseIdx hp)) hm.a hm.b
      have ht : TupIn K H (ow :: pp :: X) (.ref la) xs := ⟨la, rfl, sqh⟩
      have hX0 := hX_of hS.out how hpp
      -- left = now.links[:gone] + now.links[gone + 1:]
      refine ⟨_, rfl, x0, CM K, dx0, _, _, rfl, hx, T.cl_Moment, T.na_links, rfl, _, rfl, (i : Int), rfl, slA_in (X := (ow :: pp :: X)) hX0 ht fun l1 H1 s1 ht1 => ?_⟩
      rw [cut_take] at ht1
      refine ⟨_, rfl, x0, CM K, dx0, _, _, rfl, s1 _ _ hx, T.cl_Moment, T.na_links, rfl, _, rfl, _, _, rfl, rfl, (i : Int) + 1, rfl, ?_⟩
      dsimp only [tNoPart]
      refine slA_in (X := (ow :: pp :: X)) (hX_of (hS.out.same s1) (s1 _ _ how) (s1 _ _ hpp)) (ht.up s1) fun l2 H2 s2 ht2 => ?_
      rw [show ((i : Int) + 1) = ((i + 1 : Nat) : Int) by omega, cut_drop] at ht2
      have s02 := s1.trans s2
      refine catA_in (X := (ow :: pp :: X)) (hX_of (hS.out.same s02) (s02 _ _ how) (s02 _ _ hpp)) (ht1.up s2) ht2 ?_ fun l3 H3 s3 ht3 => ?_
      · have h1 := List.length_take_le' i xs
        have h2 : (xs.drop (i + 1)).length ≤ xs.length := by rw [List.length_drop]; omega
        have := hm.short
        exact Nat.le_trans (show (xs.take i).length + (xs.drop (i + 1)).length ≤ 20 by omega) (by decide)
      have s03 := s02.trans s3
      have hx' := s03 _ _ hx
      have hl3 : Dp K (hide H3 (ow :: pp :: X)) l3 (dLinks (m.links.eraseIdx i)) := by
        refine tup_links ht3 ?_
        have al3 := al.keep (extN_keep (hide_ext (same_ext s03) (ow :: pp :: X)))
        rw [List.eraseIdx_eq_take_drop_succ, List.map_append, List.map_take, List.map_drop]
        exact DpAll.app (DpAll.take i al3) (DpAll.drop (i + 1) al3)
      obtain ⟨a3, rfl, sq3⟩ := ht3
      refine ⟨_, rfl, ow, dx, _, rfl, s03 _ _ how, rfl, ?_⟩
      refine ⟨_, rfl, x0, CM K, dx0, _, _, rfl, hx', T.cl_Moment, T.na_size, rfl, _, rfl, _, rfl, x0, CM K, dx0, _, _, rfl, hx', T.cl_Moment, T.na_a, rfl, _, rfl, x0, CM K, dx0, _, _, rfl, hx', T.cl_Moment, T.na_b, rfl, ?_⟩
      refine ⟨.ref a3, m.n, m.a, m.b, m.links.eraseIdx i, rfl, okm, hl3.same (hide_same _ _), fun H4 z s4 hz => ?_⟩
      refine ⟨ow, dx, pp, z, .ref x0, us, rfl, s4 _ _ (s03 _ _ how), s4 _ _ (s03 _ _ hpp), hu10, fun H5 k5 p5 o5 => ?_⟩
      have sq5 : SqT K H5 a3 (xs.take i ++ xs.drop (i + 1)) := by
        have e4 : hide H5 (ow :: pp :: X) = hide H4 (ow :: pp :: X) := hide_eq fun b hb => k5 b (fun z => hb (by simp [z])) (fun z => hb (by simp [z]))
        have k6 := (extN_keep (hide_ext (same_ext s4) (ow :: pp :: X))).sqT sq3
        rw [← e4] at k6
        exact (hide_same H5 _).keep.sqT k6
      have hlen : (xs.take i ++ xs.drop (i + 1)).length = (m.links.eraseIdx i).length := by
        rw [List.eraseIdx_eq_take_drop_succ, List.length_append, List.length_append, List.length_take, List.length_take, List.length_drop, List.length_drop, hxs]
      refine ⟨_, rfl, a3, _, rfl, .inr sq5, (by show 1 ≤ sizeLine; decide), fun r nr => ?_⟩
      exact fin_change hS hn hT q e s03 s4 hz okm hl3 how hpp k5 p5 o5 _ r (Same.new nr) nr (by rw [upd_same, hlen]; rfl)
abbrev is_put (c : Cmd) : Prop := c = .put
theorem sc_put : FnScope ["wanderers", "given", "now"] ["wanderers", "given"] (defScope s_put) := ⟨rfl, rfl, rfl, by decide +kernel, rfl, by decide +kernel, by decide +kernel⟩
theorem ok_put (T : Tx K mg) (F : FnP K d_put f fd) (G_with_pebble : Has P w K mg 4 "with_pebble" ["moment", "pebble"] (sp_with_pebble K)) (G_Wanderers_change : HasM P w K mg 1 (CW K) "change" ["self", "moment"] (sp_Wanderers_change K)) : FnOk P w K mg base CX0 5 f fd ["wanderers", "given"] (sp_c K is_put) := by
  refine F.ok sc_put (fun vs H Q E h => ?_) (fun cdv A outer s H vs Q E hr h => ⟨_, PSs.nox
    (pss_cons (ps_set (i := 2) sc_put.nd rfl (Or.inl rfl) (pe_fld (pv 0) rfl))
      (pss_cons (ps_if (pt_cmpR op_notN (pe_fld (pv 2) rfl) pe_non (nomark _)) (pss_one (ps_ret (pe_lst (pa_cons (pe_gint T.c_ALREADY) pa_nil)))) pss_nil)
      (pss_cons (ps_expr (pe_hasM G_Wanderers_change hr (pv 0) (pa_cons (pe_has G_with_pebble hr (pa_cons (pv 2) (pa_cons (pe_fld (pv 2) rfl) pa_nil))) pa_nil)))
      (pss_one (ps_ret (pe_lst (pa_cons pe_int pa_nil))))))), ?_⟩)
  · obtain ⟨X, ow, pp, g, s, m, c, _, rfl, _⟩ := h
    rfl
  · obtain ⟨X, ow, pp, g, s, m, c, rfl, rfl, hT, hS, hn, hg, hgp, _, q⟩ := h
    obtain ⟨dx, x0, dx0, lv, wv, us, how, hpp, hul, ⟨hx, hl, hw, hm⟩, hl', hx1, hx2⟩ := hS.now_is hn
    have hu10 : us.length ≤ 10 := by rw [hul]; exact hS.few
    refine ⟨_, rfl, ow, CW K, dx, _, _, rfl, how, T.cl_Wanderers, T.na_now, rfl, ?_⟩
    refine ⟨_, rfl, x0, CM K, dx0, _, _, rfl, hx, T.cl_Moment, T.na_pebble, rfl, rfl, _, rfl, ?_⟩
    rw [dec_oVN]
    cases c : m.p with
    | some v =>
      have e : playW m s.past .put = ((m, s.past), [-17]) := by simp only [playW, c]
      refine if_true_of rfl ⟨(by show 1 ≤ sizeLine; decide), fun r nr => ?_⟩
      exact rd_of hS hn q _ e _ r (same_ext (Same.new nr)) (hT.ext (Same.new nr)) nr upd_same
    | none =>
      have e : playW m s.past .put = ((pebM m (some m.a), pastL s.past m), [0]) := by simp only [playW, c]
      refine if_false_of rfl ?_
      refine ⟨_, rfl, ow, dx, _, rfl, how, rfl, ?_⟩
      refine ⟨_, rfl, _, rfl, x0, CM K, dx0, _, _, rfl, hx, T.cl_Moment, T.na_a, rfl, ?_⟩
      have hp : ∀ q, some m.a = some q → q < m.n := fun q e => by cases e; exact hm.a
      refine ⟨x0, dx0, lv, wv, m, some m.a, rfl, ⟨hx, hl, hw, hm⟩, hp, fun H1 z s1 hz => ?_⟩
      refine ⟨ow, dx, pp, z, .ref x0, us, rfl, s1 _ _ how, s1 _ _ hpp, hu10, fun H2 k2 p2 o2 => ?_⟩
      refine ⟨(by show 1 ≤ sizeLine; decide), fun r nr => ?_⟩
      exact fin_change hS hn hT q e (Same.refl _) s1 hz ⟨hm.pos, hm.few, hm.short, hm.ends, hm.a, hm.b, hp⟩ hl' how hpp k2 p2 o2 _ r (Same.new nr) nr upd_same
abbrev is_take (c : Cmd) : Prop := c = .take
theorem sc_take : FnScope ["wanderers", "given", "now"] ["wanderers", "given"] (defScope s_take) := ⟨rfl, rfl, rfl, by decide +kernel, rfl, by decide +kernel, by decide +kernel⟩
theorem ok_take (T : Tx K mg) (F : FnP K d_take f fd) (G_with_pebble : Has P w K mg 4 "with_pebble" ["moment", "pebble"] (sp_with_pebble K)) (G_Wanderers_change : HasM P w K mg 1 (CW K) "change" ["self", "moment"] (sp_Wanderers_change K)) : FnOk P w K mg base CX0 5 f fd ["wanderers", "given"] (sp_c K is_take) := by
  refine F.ok sc_take (fun vs H Q E h => ?_) (fun cdv A outer s H vs Q E hr h => ⟨_, PSs.nox
    (pss_cons (ps_set (i := 2) sc_take.nd rfl (Or.inl rfl) (pe_fld (pv 0) rfl))
      (pss_cons (ps_if (pt_cmpR op_isN (pe_fld (pv 2) rfl) pe_non (nomark _)) (pss_one (ps_ret (pe_lst (pa_cons (pe_gint T.c_ALREADY) pa_nil)))) pss_nil)
      (pss_cons (ps_if (pt_cmpR op_ne (pe_fld (pv 2) rfl) (pe_fld (pv 2) rfl) (nomark _)) (pss_one (ps_ret (pe_lst (pa_cons (pe_gint T.c_NOT_SO) pa_nil)))) pss_nil)
      (pss_cons (ps_expr (pe_hasM G_Wanderers_change hr (pv 0) (pa_cons (pe_has G_with_pebble hr (pa_cons (pv 2) (pa_cons pe_non pa_nil))) pa_nil)))
      (pss_one (ps_ret (pe_lst (pa_cons pe_int pa_nil)))))))), ?_⟩)
  · obtain ⟨X, ow, pp, g, s, m, c, _, rfl, _⟩ := h
    rfl
  · obtain ⟨X, ow, pp, g, s, m, c, rfl, rfl, hT, hS, hn, hg, hgp, _, q⟩ := h
    obtain ⟨dx, x0, dx0, lv, wv, us, how, hpp, hul, ⟨hx, hl, hw, hm⟩, hl', hx1, hx2⟩ := hS.now_is hn
    have hu10 : us.length ≤ 10 := by rw [hul]; exact hS.few
    refine ⟨_, rfl, ow, CW K, dx, _, _, rfl, how, T.cl_Wanderers, T.na_now, rfl, ?_⟩
    refine ⟨_, rfl, x0, CM K, dx0, _, _, rfl, hx, T.cl_Moment, T.na_pebble, rfl, rfl, _, rfl, ?_⟩
    rw [dec_oVN]
    cases c : m.p with
    | none =>
      have e : playW m s.past .take = ((m, s.past), [-17]) := by simp only [playW, c]
      refine if_true_of rfl ⟨(by show 1 ≤ sizeLine; decide), fun r nr => ?_⟩
      exact rd_of hS hn q _ e _ r (same_ext (Same.new nr)) (hT.ext (Same.new nr)) nr upd_same
    | some v =>
      refine if_false_of rfl ?_
      refine ⟨_, rfl, x0, CM K, dx0, _, _, rfl, hx, T.cl_Moment, T.na_pebble, rfl, _, rfl, x0, CM K, dx0, _, _, rfl, hx, T.cl_Moment, T.na_a, rfl, scal_oV _ _, _, rfl, ?_⟩
      rw [dec_oV, c]
      by_cases c2 : v = m.a
      · have e : playW m s.past .take = ((pebM m none, pastL s.past m), [0]) := by simp only [playW, c, if_pos c2]
        refine if_false_of (by rw [decide_eq_true (by rw [c2])]; rfl) ?_
        refine ⟨_, rfl, ow, dx, _, rfl, how, rfl, ?_⟩
        refine ⟨_, rfl, ?_⟩
        have hp : ∀ q, (none : Option Nat) = some q → q < m.n := fun q e => by cases e
        refine ⟨x0, dx0, lv, wv, m, none, rfl, ⟨hx, hl, hw, hm⟩, hp, fun H1 z s1 hz => ?_⟩
        refine ⟨ow, dx, pp, z, .ref x0, us, rfl, s1 _ _ how, s1 _ _ hpp, hu10, fun H2 k2 p2 o2 => ?_⟩
        refine ⟨(by show 1 ≤ sizeLine; decide), fun r nr => ?_⟩
        exact fin_change hS hn hT q e (Same.refl _) s1 hz ⟨hm.pos, hm.few, hm.short, hm.ends, hm.a, hm.b, hp⟩ hl' how hpp k2 p2 o2 _ r (Same.new nr) nr upd_same
      · have e : playW m s.past .take = ((m, s.past), [-33]) := by simp only [playW, c, if_neg c2]
        refine if_true_of (by rw [decide_eq_false fun z => c2 (Option.some.inj z)]; rfl) ⟨(by show 1 ≤ sizeLine; decide), fun r nr => ?_⟩
        exact rd_of hS hn q _ e _ r (same_ext (Same.new nr)) (hT.ext (Same.new nr)) nr upd_same
end
end Nw
end
section
set_option maxRecDepth 100000
set_option maxHeartbeats 2000000
namespace Nw
open PySem PySem.Spec PyProof.Rows L2 LamX NdefX
theorem St.ways_in {K : PySem.W.Frag} {H : Hp} {X : List Addr} {ow pp x0 dx0 : Addr} {s : WS} {m : Mom} {dx : Addr} {lv wv : V} (h : St K H X ow pp s) (hn : s.now = some m) (how : H ow = some (.ins (CW K) dx (fsW (.ref x0) (.ref pp)))) (hx : H x0 = some (.ins (CM K) dx0 (fsM m lv wv))) : Dp K (hide H (ow :: pp :: X)) wv (dWays (waysM m)) := by
  obtain ⟨dx', nv, us, h1, h2, h3, h4⟩ := h.ex
  rw [how] at h1
  cases h1
  rw [hn] at h3
  obtain ⟨x1, dx1, lv1, wv1, e, hx1, hl1, hw1⟩ := h3
  cases e
  have := hide_same H (ow :: pp :: X) _ _ hx1
  rw [hx] at this
  cases this
  exact hw1
section
variable {P : Program} {w : World} {K : PySem.W.Frag} {mg : Str → Option Value} {base : Heap} {f : Addr} {fd : FuncData}
theorem row_len {H : Hp} {wv : V} {W : Ways} (h : Dp K H wv (dWays W)) {u : Nat} (hu : u < W.length) : ∃ a xs b ys, wv = .ref a ∧ SqL K H a xs ∧ xs[u]? = some (.ref b) ∧ SqL K H b ys ∧ ys.length = (rowAt W u).length := by
  obtain ⟨a, xs, rfl, sq, al⟩ := h.lst_of
  obtain ⟨r, hr1, hr2⟩ := al.get (rowsGet (row_some hu))
  obtain ⟨b, ys, rfl, sq2, al2⟩ := hr2.lst_of
  exact ⟨a, xs, b, ys, rfl, sq, hr1, sq2, by rw [al2.len, List.length_map]⟩
abbrev is_step (c : Cmd) : Prop := ∃ x y, c = .step x y
theorem sc_step : FnScope ["wanderers", "given", "before", "now", "seen_by_a", "seen_by_b"] ["wanderers", "given"] (defScope s_step) := ⟨rfl, rfl, rfl, by decide +kernel, rfl, by decide +kernel, by decide +kernel⟩
theorem ok_step (T : Tx K mg) (F : FnP K d_step f fd) (G_stepped : Has P w K mg 4 "stepped" ["moment", "x", "y"] (sp_stepped K)) (G_came_in : Has P w K mg 2 "came_in" ["ways", "place", "letter"] (sp_came_in K)) (G_Wanderers_change : HasM P w K mg 1 (CW K) "change" ["self", "moment"] (sp_Wanderers_change K)) : FnOk P w K mg base CX0 5 f fd ["wanderers", "given"] (sp_c K is_step) := by
  refine F.ok sc_step (fun vs H Q E h => ?_) (fun cdv A outer s H vs Q E hr h => ⟨_, PSs.nox
    (pss_cons (ps_set (i := 2) sc_step.nd rfl (Or.inl rfl) (pe_fld (pv 0) rfl))
      (pss_cons (ps_expr (pe_hasM G_Wanderers_change hr (pv 0) (pa_cons (pe_has G_stepped hr (pa_cons (pv 2) (pa_cons (pe_ix ix_list (pv 1) pe_int (fun _ _ => rfl)) (pa_cons (pe_ix ix_list (pv 1) pe_int (fun _ _ => rfl)) pa_nil)))) pa_nil)))
      (pss_cons (ps_set (i := 3) sc_step.nd rfl (Or.inl rfl) (pe_fld (pv 0) rfl))
      (pss_cons (ps_set (i := 4) sc_step.nd rfl (Or.inl rfl) (pe_lst (pa_cons (pe_has G_came_in hr (pa_cons (pe_fld (pv 2) rfl) (pa_cons (pe_fld (pv 2) rfl) (pa_cons (pe_ix ix_list (pv 1) pe_int (fun _ _ => rfl)) pa_nil)))) (pa_cons (pe_callB call_len_seq (by rfl) T.f_len PySem.boot_len (pa_cons (pe_ix ix_list (pe_fld (pv 3) rfl) (pe_fld (pv 3) rfl) (fun _ _ => rfl)) pa_nil)) pa_nil))))
      (pss_cons (ps_set (i := 5) sc_step.nd rfl (Or.inl rfl) (pe_lst (pa_cons (pe_has G_came_in hr (pa_cons (pe_fld (pv 2) rfl) (pa_cons (pe_fld (pv 2) rfl) (pa_cons (pe_ix ix_list (pv 1) pe_int (fun _ _ => rfl)) pa_nil)))) (pa_cons (pe_callB call_len_seq (by rfl) T.f_len PySem.boot_len (pa_cons (pe_ix ix_list (pe_fld (pv 3) rfl) (pe_fld (pv 3) rfl) (fun _ _ => rfl)) pa_nil)) pa_nil))))
      (pss_one (ps_ret (pe_op op_cat (pe_op op_cat (pe_lst (pa_cons (pe_ifExp (pt_cmpR op_eq (pe_fld (pv 3) rfl) (pe_fld (pv 3) rfl) (nomark _)) pe_int pe_int) pa_nil)) (pv 4)) (pv 5))))))))), ?_⟩)
  · obtain ⟨X, ow, pp, g, s, m, c, _, rfl, _⟩ := h
    rfl
  · obtain ⟨X, ow, pp, g, s, m, c, ⟨x, y, rfl⟩, rfl, hT, hS, hn, hg, hgp, _, q⟩ := h
    obtain ⟨dx, x0, dx0, lv, wv, us, how, hpp, hul, ⟨hx, hl, hw, hm⟩, hl', hx1, hx2⟩ := hS.now_is hn
    have hw' := hS.ways_in hn how hx
    have hg : H g = some (.lst (vN [x, y])) := hg
    have hgo : g ≠ ow := ne_of hg how fun z => by cases z
    have hu10 : us.length ≤ 10 := by rw [hul]; exact hS.few
    have hm' := stepM_ok hm x y
    refine ⟨_, rfl, ow, CW K, dx, _, _, rfl, how, T.cl_Wanderers, T.na_now, rfl, ?_⟩
    refine ⟨_, rfl, ow, dx, _, rfl, how, rfl, ?_⟩
    refine ⟨_, rfl, _, rfl, g, _, (0 : Int), _, rfl, rfl, SqL.of hg, at0, _, rfl, g, _, (1 : Int), _, rfl, rfl, SqL.of hg, at1, ?_⟩
    refine ⟨x0, dx0, lv, wv, m, x, y, rfl, ⟨hx, hl, hw, hm⟩, fun H1 z s1 hz => ?_⟩
    refine ⟨ow, dx, pp, z, .ref x0, us, rfl, s1 _ _ how, s1 _ _ hpp, hu10, fun H2 k2 p2 o2 => ?_⟩
    have fin := fin_change hS hn hT q (l := [if (stepM m x y).a = (stepM m x y).b then 1 else 0, nI (cameIn (waysM m) m.a x), nI (rowAt (waysM m) (stepM m x y).a).length, nI (cameIn (waysM m) m.b y), nI (rowAt (waysM m) (stepM m x y).b).length]) rfl (Same.refl _) s1 hz hm' hl' how hpp k2 p2 o2
    obtain ⟨x3, dx3, wv3, rfl, nx3, hx3, hw3⟩ := hz
    have hX := hX_of hS.out how hpp
    have eh : hide H2 (ow :: pp :: X) = hide H1 (ow :: pp :: X) := hide_eq fun b hb => k2 b (fun z => hb (by simp [z])) (fun z => hb (by simp [z]))
    have hx32 : H2 x3 = some (.ins (CM K) dx3 (fsM (stepM m x y) lv wv3)) := by
      rw [k2 x3 (fun z => hX ow (by simp) (by rw [← z]; exact nx3)) (fun z => hX pp (by simp) (by rw [← z]; exact nx3))]
      exact hx3
    have hW3 : Dp K H2 wv3 (dWays (waysM m)) := by
      refine hw3.same fun b o eb => ?_
      have nb : H b = none := by
        unfold news at eb
        cases c : H b with
        | none => rfl
        | some u => rw [c] at eb; cases eb
      rw [k2 b (fun z => hX ow (by simp) (by rw [← z]; exact nb)) (fun z => hX pp (by simp) (by rw [← z]; exact nb))]
      exact news_keep _ _ eb
    have hW2 : Dp K H2 wv (dWays (waysM m)) := by
      have := hw'.keep (extN_keep (hide_ext (same_ext s1) (ow :: pp :: X)))
      rw [← eh] at this
      exact this.same (hide_same _ _)
    have hx02 : H2 x0 = some (.ins (CM K) dx0 (fsM m lv wv)) := by rw [k2 x0 hx1 hx2]; exact s1 _ _ hx
    have hg2 : H2 g = some (.lst (vN [x, y])) := by rw [k2 g hgo hgp]; exact s1 _ _ hg
    have hla : (stepM m x y).a < (waysM m).length := by rw [hm.len]; exact hm'.a
    have hlb : (stepM m x y).b < (waysM m).length := by rw [hm.len]; exact hm'.b
    obtain ⟨wa, xs, ba, ya, rfl, sq, hra, sqa, hya⟩ := row_len hW3 hla
    obtain ⟨_, xs', bb, yb, e, sq', hrb, sqb, hyb⟩ := row_len hW3 hlb
    cases e
    -- now = wanderers.now
    refine ⟨_, rfl, ow, CW K, dx, _, _, rfl, o2, T.cl_Wanderers, T.na_now, rfl, ?_⟩
    -- seen_by_a
    refine ⟨_, rfl, x0, CM K, dx0, _, _, rfl, hx02, T.cl_Moment, T.na_ways, rfl, _, rfl, x0, CM K, dx0, _, _, rfl, hx02, T.cl_Moment, T.na_a, rfl, _, rfl, g, _, (0 : Int), _, rfl, rfl, SqL.of hg2, at0, wv, waysM m, m.a, x, rfl, hW2, by rw [hm.len]; exact hm.a, ?_⟩
    refine ⟨_, rfl, x3, CM K, dx3, _, _, rfl, hx32, T.cl_Moment, T.na_ways, rfl, _, rfl, x3, CM K, dx3, _, _, rfl, hx32, T.cl_Moment, T.na_a, rfl, wa, xs, ((stepM m x y).a : Int), _, rfl, rfl, sq, at_nat hra, ba, ya, rfl, .inl sqa, (by show 2 ≤ sizeLine; decide), fun pa npa => ?_⟩
    have s3 : Same H2 (upd H2 pa (.lst [.int (cameIn (waysM m) m.a x : Nat), .int (ya.length : Nat)])) := Same.new npa
    -- seen_by_b
    have hx03 := s3 _ _ hx02
    have hx33 := s3 _ _ hx32
    refine ⟨_, rfl, x0, CM K, dx0, _, _, rfl, hx03, T.cl_Moment, T.na_ways, rfl, _, rfl, x0, CM K, dx0, _, _, rfl, hx03, T.cl_Moment, T.na_b, rfl, _, rfl, g, _, (1 : Int), _, rfl, rfl, SqL.of (s3 _ _ hg2), at1, wv, waysM m, m.b, y, rfl, hW2.same s3, by rw [hm.len]; exact hm.b, ?_⟩
    refine ⟨_, rfl, x3, CM K, dx3, _, _, rfl, hx33, T.cl_Moment, T.na_ways, rfl, _, rfl, x3, CM K, dx3, _, _, rfl, hx33, T.cl_Moment, T.na_b, rfl, wa, xs', ((stepM m x y).b : Int), _, rfl, rfl, s3.keep.sqL sq', at_nat hrb, bb, yb, rfl, .inl (s3.keep.sqL sqb), (by show 2 ≤ sizeLine; decide), fun pb npb => ?_⟩
    have s4 := s3.trans (Same.new (o := .lst [.int (cameIn (waysM m) m.b y : Nat), .int (yb.length : Nat)]) npb)
    have hx34 := s4 _ _ hx32
    have hpab : pa ≠ pb := fun z => by rw [← z, upd_same] at npb; cases npb
    -- the answer
    refine ⟨_, rfl, x3, CM K, dx3, _, _, rfl, hx34, T.cl_Moment, T.na_a, rfl, _, rfl, x3, CM K, dx3, _, _, rfl, hx34, T.cl_Moment, T.na_b, rfl, rfl, _, rfl, ?_⟩
    rw [dec_nat]
    have tail : ∀ (c : Int) (H5 : Hp) (p5 : Addr), (if (stepM m x y).a = (stepM m x y).b then (1 : Int) else 0) = c → H5 = upd (upd (upd H2 pa (.lst [.int (cameIn (waysM m) m.a x : Nat), .int (ya.length : Nat)])) pb (.lst [.int (cameIn (waysM m) m.b y : Nat), .int (yb.length : Nat)])) p5 (.lst [.int c]) →
        upd (upd H2 pa (.lst [.int (cameIn (waysM m) m.a x : Nat), .int (ya.length : Nat)])) pb (.lst [.int (cameIn (waysM m) m.b y : Nat), .int (yb.length : Nat)]) p5 = none → ∀ p6, H5 p6 = none → ∀ p7, upd H5 p6 (.lst ([.int c] ++ [.int (cameIn (waysM m) m.a x : Nat), .int (ya.length : Nat)])) p7 = none →
        Q (.ref p7) (upd (upd H5 p6 (.lst ([.int c] ++ [.int (cameIn (waysM m) m.a x : Nat), .int (ya.length : Nat)]))) p7 (.lst ([.int c] ++ [.int (cameIn (waysM m) m.a x : Nat), .int (ya.length : Nat)] ++ [.int (cameIn (waysM m) m.b y : Nat), .int (yb.length : Nat)]))) := by
      intro c H5 p5 hc e5 n5 p6 n6 p7 n7
      subst e5
      have s6 := (s4.trans (Same.new (o := .lst [.int c]) n5)).trans (Same.new (o := .lst ([.int c] ++ [.int (cameIn (waysM m) m.a x : Nat), .int (ya.length : Nat)])) n6)
      refine fin _ p7 (s6.trans (Same.new n7)) (s6.free n7) ?_
      rw [upd_same, hc, hya, hyb]
      rfl
    by_cases c : (stepM m x y).a = (stepM m x y).b
    · refine if_true_of (decide_eq_true c) ⟨(by show 1 ≤ sizeLine; decide), fun p5 n5 => ?_⟩
      refine ⟨_, rfl, p5, pa, _, [.int (cameIn (waysM m) m.a x : Nat), .int (ya.length : Nat)], rfl, rfl, upd_same, ?_, by show 3 ≤ sizeLine; decide, fun p6 n6 => ?_⟩
      · refine Same.new n5 _ _ ?_
        rw [upd_ne hpab, upd_same]
      · refine ⟨_, rfl, p6, pb, _, [.int (cameIn (waysM m) m.b y : Nat), .int (yb.length : Nat)], rfl, rfl, upd_same, ?_, by show 5 ≤ sizeLine; decide, fun p7 n7 => ?_⟩
        · refine Same.new n6 _ _ (Same.new n5 _ _ upd_same)
        · exact tail 1 _ p5 (if_pos c) rfl n5 p6 n6 p7 n7
    · refine if_false_of (decide_eq_false c) ⟨(by show 1 ≤ sizeLine; decide), fun p5 n5 => ?_⟩
      refine ⟨_, rfl, p5, pa, _, [.int (cameIn (waysM m) m.a x : Nat), .int (ya.length : Nat)], rfl, rfl, upd_same, ?_, by show 3 ≤ sizeLine; decide, fun p6 n6 => ?_⟩
      · refine Same.new n5 _ _ ?_
        rw [upd_ne hpab, upd_same]
      · refine ⟨_, rfl, p6, pb, _, [.int (cameIn (waysM m) m.b y : Nat), .int (yb.length : Nat)], rfl, rfl, upd_same, ?_, by show 5 ≤ sizeLine; decide, fun p7 n7 => ?_⟩
        · refine Same.new n6 _ _ (Same.new n5 _ _ upd_same)
        · exact tail 0 _ p5 (if_neg c) rfl n5 p6 n6 p7 n7
end
end Nw
end
section
set_option maxRecDepth 100000
set_option maxHeartbeats 2000000
namespace Nw
open PySem PySem.Spec PyProof.Rows L2 LamX NdefX
theorem paired_drop {α β : Type} {R : α → β → Prop} : ∀ {l : List α} {r : List β}, Paired R l r → Paired R l.dropLast r.dropLast
  | _, _, .nil => .nil
  | _, _, .cons h .nil => .nil
  | _, _, .cons h (.cons k t) => .cons h (paired_drop (.cons k t))
section
variable {P : Program} {w : World} {K : PySem.W.Frag} {mg : Str → Option Value} {base : Heap} {f : Addr} {fd : FuncData}
def sp_begin (K : PySem.W.Frag) : Sp := fun vs H Q _ => ∃ (X : List Addr) (ow pp g : Addr) (s : WS) (n : Nat), vs = [.ref ow, .ref g] ∧ TabsN (Tn K) H ∧ St K H X ow pp s ∧ H g = some (.lst (vN [n])) ∧ g ≠ pp ∧
  ∀ H' r pp', After K H H' ow pp pp' → St K H' X ow pp' (if 1 ≤ n ∧ n ≤ 7 then ⟨some (emptyM n), []⟩ else s) → H r = none → H' r = some (.lst [.int (if 1 ≤ n ∧ n ≤ 7 then 0 else -22)]) → Q (.ref r) H'
theorem sc_begin : FnScope ["wanderers", "given", "size"] ["wanderers", "given"] (defScope s_begin) := ⟨rfl, rfl, rfl, by decide +kernel, rfl, by decide +kernel, by decide +kernel⟩
theorem ok_begin (T : Tx K mg) (F : FnP K d_begin f fd) (G_set_out : Has P w K mg 4 "set_out" ["size", "links", "a", "b"] (sp_set_out K)) (G_Wanderers_begin : HasM P w K mg 1 (CW K) "begin" ["self", "moment"] (sp_Wanderers_begin K)) : FnOk P w K mg base CX0 5 f fd ["wanderers", "given"] (sp_begin K) := by
  refine F.ok sc_begin (fun vs H Q E h => ?_) (fun cdv A outer s H vs Q E hr h => ⟨_, PSs.nox
    (pss_cons (ps_set (i := 2) sc_begin.nd rfl (Or.inl rfl) (pe_ix ix_list (pv 1) pe_int (fun _ _ => rfl)))
      (pss_cons (ps_if (pt_not (pt_chain op_le op_le pe_int (pv 2) (pe_gint T.c_MOST_PLACES))) (pss_one (ps_ret (pe_lst (pa_cons (pe_gint T.c_WRONG) pa_nil)))) pss_nil)
      (pss_cons (ps_expr (pe_hasM G_Wanderers_begin hr (pv 0) (pa_cons (pe_has G_set_out hr (pa_cons (pv 2) (pa_cons (pe_tup pa_nil) (pa_cons pe_int (pa_cons pe_int pa_nil))))) pa_nil)))
      (pss_one (ps_ret (pe_lst (pa_cons pe_int pa_nil))))))), ?_⟩)
  · obtain ⟨X, ow, pp, g, s, n, rfl, _⟩ := h
    rfl
  · obtain ⟨X, ow, pp, g, s, n, rfl, hT, hS, hg, hgp, q⟩ := h
    refine ⟨_, rfl, g, _, (0 : Int), _, rfl, rfl, SqL.of hg, at0, ?_⟩
    refine ⟨_, rfl, _, _, rfl, rfl, _, rfl, ?_⟩
    have bad : ¬ (1 ≤ n ∧ n ≤ 7) → ∀ r, H r = none → Q (.ref r) (upd H r (.lst [.int (-22)])) := fun c r nr => by
      rw [if_neg c, if_neg c] at q
      exact q _ r pp (After.of_ext (same_ext (Same.new nr)) (hT.ext (Same.new nr))) (hS.up (same_ext (Same.new nr))) nr upd_same
    by_cases c1 : 1 ≤ n
    · refine if_true_of (decide_eq_true (by omega)) ?_
      refine ⟨_, _, rfl, rfl, _, rfl, ?_⟩
      by_cases c2 : n ≤ 7
      · have c : 1 ≤ n ∧ n ≤ 7 := ⟨c1, c2⟩
        rw [if_pos c, if_pos c] at q
        refine if_false_of (by rw [decide_eq_true (by omega)]; rfl) ?_
        obtain ⟨dx, nv, us, how, hpp, h3, h4⟩ := hS.ex
        refine ⟨_, rfl, ow, dx, _, rfl, how, rfl, ?_⟩
        refine ⟨_, rfl, (by show 0 ≤ sizeLine; decide), fun t nt => ?_⟩
        have ok : MomOk (emptyM n) := ⟨c1, c2, by show 0 ≤ 10; decide, (fun p hp => nomatch hp), by show 0 < n; omega, by show 0 < n; omega, fun q e => by cases e⟩
        have hto : t ≠ ow := fun z => by rw [z, how] at nt; cases nt
        have s0 : Same H (upd H t (.tup [])) := Same.new nt
        have htX : t ∉ ow :: X := fun z => by
          rcases List.mem_cons.mp z with z | z
          · exact hto z
          · obtain ⟨o, h1, _⟩ := hS.out t z
            rw [nt] at h1
            cases h1
        have hl : Dp K (hide (upd H t (.tup [])) (ow :: X)) (.ref t) (dLinks []) := .tup (SqT.of (by rw [hide_at htX, upd_same])) .nil
        refine ⟨.ref t, n, 0, 0, [], rfl, ok, hl.same (hide_same _ _), fun H1 z s1 hz => ?_⟩
        refine ⟨ow, dx, z, nv, .ref pp, rfl, s1 _ _ (s0 _ _ how), fun H2 pp' k2 np' hp' ho' => ?_⟩
        refine ⟨(by show 1 ≤ sizeLine; decide), fun r nr => ?_⟩
        have s01 := s0.trans s1
        have npH : H pp' = none := s01.free np'
        have s3 : Same H2 (upd H2 r (.lst [.int 0])) := Same.new nr
        have k3 : ∀ b o, H b = some o → b ≠ ow → upd H2 r (.lst [.int 0]) b = some o := fun b o e h1 => s3 _ _ (by
          rw [k2 b h1 (fun z => by rw [z, npH] at e; cases e)]
          exact s01 _ _ e)
        have hpX : pp' ∉ X := fun z => by
          obtain ⟨o, h1, _⟩ := hS.out pp' z
          rw [npH] at h1
          cases h1
        have eh : hide H2 (ow :: pp' :: X) = hide H1 (ow :: X) := by
          funext b
          by_cases b0 : b ∈ ow :: X
          · have : b ∈ ow :: pp' :: X := by
              rcases List.mem_cons.mp b0 with z | z
              · rw [z]; exact List.mem_cons_self
              · exact List.mem_cons_of_mem _ (List.mem_cons_of_mem _ z)
            unfold hide
            rw [if_pos this, if_pos b0]
          · by_cases b2 : b = pp'
            · subst b2
              unfold hide
              rw [if_pos (List.mem_cons_of_mem _ List.mem_cons_self), if_neg b0, np']
            · have b1 : b ≠ ow := fun z => b0 (by rw [z]; exact List.mem_cons_self)
              have b3 : b ∉ ow :: pp' :: X := fun z => by
                rcases List.mem_cons.mp z with z | z
                · exact b1 z
                · rcases List.mem_cons.mp z with z | z
                  · exact b2 z
                  · exact b0 (List.mem_cons_of_mem _ z)
              rw [hide_at b3, hide_at b0, k2 b b1 b2]
        have hMA : MAt K (hide H2 (ow :: pp' :: X)) z (emptyM n) := by
          rw [eh]
          refine hz.at_ (fun b hb => ?_) (hl.keep (extN_keep (hide_ext (same_ext s1) (ow :: X))))
          rcases List.mem_cons.mp hb with z | z
          · rw [z, s0 _ _ how]
            exact fun z => by cases z
          · obtain ⟨o, h1, _⟩ := hS.out b z
            rw [s0 _ _ h1]
            exact fun z => by cases z
        have out2 : OutX H2 X := fun b hb => by
          obtain ⟨o, h1, h2⟩ := hS.out b hb
          by_cases z : b = ow
          · exact ⟨_, by rw [z]; exact ho', fun ps z => by cases z⟩
          · refine ⟨o, ?_, h2⟩
            rw [k2 b z (fun z => hpX (by rw [← z]; exact hb))]
            exact s01 _ _ h1
        have S2 : St K H2 X ow pp' ⟨some (emptyM n), []⟩ := ⟨⟨dx, z, [], ho', hp', hMA, .nil⟩, fun m e => by cases e; exact ok, (fun m hm => nomatch hm), by show 0 ≤ 10; decide, out2⟩
        refine q _ r pp' ⟨fun b o e h1 _ _ => k3 b o e h1, tabs_but (ow := ow) (pp := pp) hT (fun b o e h1 _ => k3 b o e h1) (fun o eo => ?_) (fun o eo => ?_), .inr npH⟩ (S2.up (same_ext s3)) ?_ upd_same
        · rw [how] at eo
          cases eo
          exact ⟨_, _, _, rfl⟩
        · rw [hpp] at eo
          cases eo
          exact ⟨_, rfl⟩
        · cases c : H r with
          | none => rfl
          | some o =>
            by_cases h1 : r = ow
            · rw [h1, ho'] at nr
              cases nr
            · have := k2 r h1 (fun z => by rw [z, npH] at c; cases c)
              rw [nr, s01 _ _ c] at this
              cases this
      · refine if_true_of (by rw [decide_eq_false (by omega)]; rfl) ?_
        exact ⟨(by show 1 ≤ sizeLine; decide), fun r nr => bad (fun z => c2 z.2) r nr⟩
    · refine if_false_of (decide_eq_false (by omega)) ?_
      refine ⟨_, rfl, ?_⟩
      refine if_true_of rfl ?_
      exact ⟨(by show 1 ≤ sizeLine; decide), fun r nr => bad (fun z => c1 z.1) r nr⟩
abbrev is_back (c : Cmd) : Prop := c = .back
theorem sc_back : FnScope ["wanderers", "given"] ["wanderers", "given"] (defScope s_back) := ⟨rfl, rfl, rfl, by decide +kernel, rfl, by decide +kernel, by decide +kernel⟩
theorem ok_back (T : Tx K mg) (F : FnP K d_back f fd) (G_Wanderers_take_back : HasM P w K mg 1 (CW K) "take_back" ["self"] (sp_Wanderers_take_back K)) : FnOk P w K mg base CX0 5 f fd ["wanderers", "given"] (sp_c K is_back) := by
  refine F.ok sc_back (fun vs H Q E h => ?_) (fun cdv A outer s H vs Q E hr h => ⟨_, PSs.nox
    (pss_cons (ps_if (pt_cmpR op_eq (pe_callB call_len_seq (by rfl) T.f_len PySem.boot_len (pa_cons (pe_fld (pv 0) rfl) pa_nil)) pe_int (nomark _)) (pss_one (ps_ret (pe_lst (pa_cons (pe_gint T.c_NONE_SUCH) pa_nil)))) pss_nil)
      (pss_cons (ps_expr (pe_hasM0 G_Wanderers_take_back hr (pv 0)))
      (pss_one (ps_ret (pe_lst (pa_cons (pe_callB call_len_seq (by rfl) T.f_len PySem.boot_len (pa_cons (pe_fld (pv 0) rfl) pa_nil)) pa_nil)))))), ?_⟩)
  · obtain ⟨X, ow, pp, g, s, m, c, _, rfl, _⟩ := h
    rfl
  · obtain ⟨X, ow, pp, g, s, m, c, rfl, rfl, hT, hS, hn, hg, hgp, _, q⟩ := h
    obtain ⟨dx, nv, us, how, hpp, h3, h4⟩ := hS.ex
    have hul : us.length = s.past.length := paired_len h4
    have hpo : pp ≠ ow := ne_of hpp how fun z => by cases z
    refine ⟨_, rfl, ow, CW K, dx, _, _, rfl, how, T.cl_Wanderers, T.na_past, rfl, pp, us, rfl, .inl (SqL.of hpp), rfl, _, rfl, ?_⟩
    rw [show decide (V.int ((us.length : Nat) : Int) = V.int 0) = decide (us.length = 0) from dec_nat _ 0]
    by_cases c1 : us.length = 0
    · have hp0 : s.past = [] := List.length_eq_zero_iff.mp (by omega)
      have e : playW m s.past .back = ((m, s.past), [-6]) := by
        rw [hp0]
        rfl
      refine if_true_of (decide_eq_true c1) ⟨(by show 1 ≤ sizeLine; decide), fun r nr => ?_⟩
      exact rd_of hS hn q _ e _ r (same_ext (Same.new nr)) (hT.ext (Same.new nr)) nr upd_same
    · refine if_false_of (decide_eq_false c1) ?_
      have hy : us[us.length - 1]? = some (us[us.length - 1]'(by omega)) := List.getElem?_eq_getElem _
      generalize us[us.length - 1]'(by omega) = y at hy
      obtain ⟨mm, hg1⟩ : ∃ mm, s.past.getLast? = some mm := by
        cases e : s.past.getLast? with
        | some x => exact ⟨x, rfl⟩
        | none =>
          rw [List.getLast?_eq_none_iff] at e
          rw [e] at hul
          exact absurd hul c1
      have hg2 : s.past[us.length - 1]? = some mm := by
        rw [hul, ← List.getLast?_eq_getElem?]
        exact hg1
      have hym := paired_at h4 hy hg2
      have e : playW m s.past .back = ((mm, s.past.dropLast), [nI s.past.dropLast.length]) := by simp only [playW, hg1]
      refine ⟨_, rfl, ow, dx, _, rfl, how, rfl, ?_⟩
      refine ⟨ow, dx, pp, nv, y, us, rfl, how, hpp, hy, fun H2 k2 p2 o2 => ?_⟩
      refine ⟨_, rfl, ow, CW K, dx, _, _, rfl, o2, T.cl_Wanderers, T.na_past, rfl, pp, _, rfl, .inl (SqL.of p2), (by show 1 ≤ sizeLine; decide), fun r nr => ?_⟩
      have s3 : Same H2 (upd H2 r (.lst [.int ((us.dropLast.length : Nat) : Int)])) := Same.new nr
      have k3 : ∀ b o, H b = some o → b ≠ ow → b ≠ pp → upd H2 r (.lst [.int ((us.dropLast.length : Nat) : Int)]) b = some o := fun b o e h1 h2 => s3 _ _ (by rw [k2 b h1 h2]; exact e)
      have eh : hide H2 (ow :: pp :: X) = hide H (ow :: pp :: X) := hide_eq fun b hb => k2 b (fun z => hb (by simp [z])) (fun z => hb (by simp [z]))
      have out2 : OutX H2 X := fun b hb => by
        obtain ⟨o, h1, h2⟩ := hS.out b hb
        by_cases z : b = ow
        · exact ⟨_, by rw [z]; exact o2, fun ps z => by cases z⟩
        · by_cases z2 : b = pp
          · exact ⟨_, by rw [z2]; exact p2, fun ps z => by cases z⟩
          · exact ⟨o, by rw [k2 b z z2]; exact h1, h2⟩
      have S2 : St K H2 X ow pp ⟨some mm, s.past.dropLast⟩ := by
        refine ⟨⟨dx, y, us.dropLast, o2, p2, ?_, ?_⟩, fun q e => ?_, fun q hq => hS.pastOk q (List.dropLast_subset _ hq), ?_, out2⟩
        · show MAt K (hide H2 (ow :: pp :: X)) y mm
          rw [eh]
          exact hym
        · rw [eh]
          exact paired_drop h4
        · cases e
          exact hS.pastOk mm (List.mem_of_getElem? hg2)
        · have := hS.few
          show s.past.dropLast.length ≤ 10
          rw [List.length_dropLast]
          omega
      rw [e] at q
      refine q _ r pp ⟨fun b o e h1 h2 _ => k3 b o e h1 h2, tabs_but hT k3 (fun o eo => ?_) (fun o eo => ?_), .inl rfl⟩ (S2.up (same_ext s3)) (newL_of ?_) ?_
      · rw [how] at eo
        cases eo
        exact ⟨_, _, _, rfl⟩
      · rw [hpp] at eo
        cases eo
        exact ⟨_, rfl⟩
      · cases c : H r with
        | none => rfl
        | some o =>
          by_cases h1 : r = ow
          · rw [h1, o2] at nr
            cases nr
          · by_cases h2 : r = pp
            · rw [h2, p2] at nr
              cases nr
            · have := k2 r h1 h2
              rw [nr, c] at this
              cases this
      · rw [upd_same, List.length_dropLast, hul]
        show _ = some (HO.lst [V.int ((s.past.dropLast.length : Nat) : Int)])
        rw [List.length_dropLast]
abbrev is_count (c : Cmd) : Prop := c = .count
theorem sc_count : FnScope ["wanderers", "given"] ["wanderers", "given"] (defScope s_count) := ⟨rfl, rfl, rfl, by decide +kernel, rfl, by decide +kernel, by decide +kernel⟩
theorem ok_count (T : Tx K mg) (F : FnP K d_count f fd) : FnOk P w K mg base CX0 5 f fd ["wanderers", "given"] (sp_c K is_count) := by
  refine F.ok sc_count (fun vs H Q E h => ?_) (fun cdv A outer s H vs Q E hr h => ⟨_, PSs.nox
    (pss_one (ps_ret (pe_lst (pa_cons (pe_fld (pe_fld (pv 0) rfl) rfl) (pa_cons (pe_fld (pe_fld (pv 0) rfl) rfl) pa_nil))))), ?_⟩)
  · obtain ⟨X, ow, pp, g, s, m, c, _, rfl, _⟩ := h
    rfl
  · obtain ⟨X, ow, pp, g, s, m, c, rfl, rfl, hT, hS, hn, hg, hgp, _, q⟩ := h
    obtain ⟨dx, x0, dx0, lv, wv, us, how, hpp, hul, ⟨hx, hl, hw, hm⟩, hl', hx1, hx2⟩ := hS.now_is hn
    refine ⟨_, rfl, ow, CW K, dx, _, _, rfl, how, T.cl_Wanderers, T.na_now, rfl, x0, CM K, dx0, _, _, rfl, hx, T.cl_Moment, T.na_steps, rfl, _, rfl, ow, CW K, dx, _, _, rfl, how, T.cl_Wanderers, T.na_now, rfl, x0, CM K, dx0, _, _, rfl, hx, T.cl_Moment, T.na_met, rfl, (by show 2 ≤ sizeLine; decide), fun r nr => ?_⟩
    exact rd_of hS hn q _ rfl _ r (same_ext (Same.new nr)) (hT.ext (Same.new nr)) nr upd_same
abbrev is_looks (c : Cmd) : Prop := ∃ i, c = .looks i
theorem sc_looks : FnScope ["wanderers", "given", "now", "place"] ["wanderers", "given"] (defScope s_looks) := ⟨rfl, rfl, rfl, by decide +kernel, rfl, by decide +kernel, by decide +kernel⟩
theorem ok_looks (T : Tx K mg) (F : FnP K d_looks f fd) : FnOk P w K mg base CX0 5 f fd ["wanderers", "given"] (sp_c K is_looks) := by
  refine F.ok sc_looks (fun vs H Q E h => ?_) (fun cdv A outer s H vs Q E hr h => ⟨_, PSs.nox
    (pss_cons (ps_set (i := 2) sc_looks.nd rfl (Or.inl rfl) (pe_fld (pv 0) rfl))
      (pss_cons (ps_if (pt_cmpR op_gt (pe_ix ix_list (pv 1) pe_int (fun _ _ => rfl)) pe_int (nomark _)) (pss_one (ps_ret (pe_lst (pa_cons (pe_gint T.c_NOT_THERE) pa_nil)))) pss_nil)
      (pss_cons (ps_set (i := 3) sc_looks.nd rfl (Or.inl rfl) (pe_ifExp (pt_cmpR op_eq (pe_ix ix_list (pv 1) pe_int (fun _ _ => rfl)) pe_int (nomark _)) (pe_fld (pv 2) rfl) (pe_fld (pv 2) rfl)))
      (pss_one (ps_ret (pe_lst (pa_cons (pe_callB call_len_seq (by rfl) T.f_len PySem.boot_len (pa_cons (pe_ix ix_list (pe_fld (pv 2) rfl) (pv 3) (fun _ _ => rfl)) pa_nil)) (pa_cons (pe_ifExp (pt_cmpR op_eq (pe_fld (pv 2) rfl) (pv 3) (nomark _)) pe_int pe_int) (pa_cons (pe_ifExp (pt_cmpR op_eq (pe_fld (pv 2) rfl) (pe_fld (pv 2) rfl) (nomark _)) pe_int pe_int) pa_nil))))))))), ?_⟩)
  · obtain ⟨X, ow, pp, g, s, m, c, _, rfl, _⟩ := h
    rfl
  · obtain ⟨X, ow, pp, g, s, m, c, ⟨i, rfl⟩, rfl, hT, hS, hn, hg, hgp, _, q⟩ := h
    obtain ⟨dx, x0, dx0, lv, wv, us, how, hpp, hul, ⟨hx, hl, hw, hm⟩, hl', hx1, hx2⟩ := hS.now_is hn
    have hg : H g = some (.lst (vN [i])) := hg
    refine ⟨_, rfl, ow, CW K, dx, _, _, rfl, how, T.cl_Wanderers, T.na_now, rfl, ?_⟩
    refine ⟨_, rfl, g, _, (0 : Int), _, rfl, rfl, SqL.of hg, at0, _, _, rfl, rfl, _, rfl, ?_⟩
    by_cases c1 : 2 ≤ i
    · have e : playW m s.past (.looks i) = ((m, s.past), [-2]) := by simp only [playW, if_pos c1]
      refine if_true_of (decide_eq_true (by omega)) ⟨(by show 1 ≤ sizeLine; decide), fun r nr => ?_⟩
      exact rd_of hS hn q _ e _ r (same_ext (Same.new nr)) (hT.ext (Same.new nr)) nr upd_same
    · refine if_false_of (decide_eq_false (by omega)) ?_
      refine ⟨_, rfl, g, _, (0 : Int), _, rfl, rfl, SqL.of hg, at0, rfl, _, rfl, ?_⟩
      rw [show decide (V.int ((i : Nat) : Int) = V.int 0) = decide (i = 0) from dec_nat _ 0]
      have tail : ∀ u : Nat, (if i = 0 then m.a else m.b) = u → u < m.n → ∃ (wa : Addr) (xs : List V) (ba : Addr) (ya : List V), wv = .ref wa ∧ SqL K H wa xs ∧ xs[u]? = some (.ref ba) ∧ SqL K H ba ya ∧ ya.length = (rowAt (waysM m) u).length ∧ ∀ r, H r = none → Q (.ref r) (upd H r (.lst [.int ((ya.length : Nat) : Int), .int (if m.p = some u then 1 else 0), .int (if m.a = m.b then 1 else 0)])) := fun u hu hul => by
        obtain ⟨wa, xs, ba, ya, e1, sq, hra, sqa, hya⟩ := row_len hw (show u < (waysM m).length by rw [hm.len]; exact hul)
        refine ⟨wa, xs, ba, ya, e1, sq, hra, sqa, hya, fun r nr => ?_⟩
        have e : playW m s.past (.looks i) = ((m, s.past), [nI (rowAt (waysM m) u).length, if m.p = some u then 1 else 0, if m.a = m.b then 1 else 0]) := by simp only [playW, if_neg c1, hu]
        refine rd_of hS hn q _ e _ r (same_ext (Same.new nr)) (hT.ext (Same.new nr)) nr ?_
        rw [upd_same, hya]
        rfl
      by_cases c2 : i = 0
      · refine if_true_of (decide_eq_true c2) ⟨_, rfl, x0, CM K, dx0, _, _, rfl, hx, T.cl_Moment, T.na_a, rfl, ?_⟩
        obtain ⟨wa, xs, ba, ya, rfl, sq, hra, sqa, hya, fin⟩ := tail m.a (if_pos c2) hm.a
        refine ⟨_, rfl, x0, CM K, dx0, _, _, rfl, hx, T.cl_Moment, T.na_ways, rfl, _, rfl, wa, xs, (m.a : Int), _, rfl, rfl, sq, at_nat hra, ba, ya, rfl, .inl sqa, _, rfl, x0, CM K, dx0, _, _, rfl, hx, T.cl_Moment, T.na_pebble, rfl, _, rfl, scal_oV _ _, _, rfl, ?_⟩
        rw [dec_oV]
        by_cases c3 : m.p = some m.a
        · rw [if_pos c3] at fin
          refine if_true_of (decide_eq_true c3) ?_
          refine ⟨_, rfl, x0, CM K, dx0, _, _, rfl, hx, T.cl_Moment, T.na_a, rfl, _, rfl, x0, CM K, dx0, _, _, rfl, hx, T.cl_Moment, T.na_b, rfl, rfl, _, rfl, ?_⟩
          rw [dec_nat]
          by_cases c4 : m.a = m.b
          · rw [if_pos c4] at fin
            exact if_true_of (decide_eq_true c4) ⟨(by show 3 ≤ sizeLine; decide), fun r nr => fin r nr⟩
          · rw [if_neg c4] at fin
            exact if_false_of (decide_eq_false c4) ⟨(by show 3 ≤ sizeLine; decide), fun r nr => fin r nr⟩
        · rw [if_neg c3] at fin
          refine if_false_of (decide_eq_false c3) ?_
          refine ⟨_, rfl, x0, CM K, dx0, _, _, rfl, hx, T.cl_Moment, T.na_a, rfl, _, rfl, x0, CM K, dx0, _, _, rfl, hx, T.cl_Moment, T.na_b, rfl, rfl, _, rfl, ?_⟩
          rw [dec_nat]
          by_cases c4 : m.a = m.b
          · rw [if_pos c4] at fin
            exact if_true_of (decide_eq_true c4) ⟨(by show 3 ≤ sizeLine; decide), fun r nr => fin r nr⟩
          · rw [if_neg c4] at fin
            exact if_false_of (decide_eq_false c4) ⟨(by show 3 ≤ sizeLine; decide), fun r nr => fin r nr⟩
      · refine if_false_of (decide_eq_false c2) ⟨_, rfl, x0, CM K, dx0, _, _, rfl, hx, T.cl_Moment, T.na_b, rfl, ?_⟩
        obtain ⟨wa, xs, ba, ya, rfl, sq, hra, sqa, hya, fin⟩ := tail m.b (if_neg c2) hm.b
        refine ⟨_, rfl, x0, CM K, dx0, _, _, rfl, hx, T.cl_Moment, T.na_ways, rfl, _, rfl, wa, xs, (m.b : Int), _, rfl, rfl, sq, at_nat hra, ba, ya, rfl, .inl sqa, _, rfl, x0, CM K, dx0, _, _, rfl, hx, T.cl_Moment, T.na_pebble, rfl, _, rfl, scal_oV _ _, _, rfl, ?_⟩
        rw [dec_oV]
        by_cases c3 : m.p = some m.b
        · rw [if_pos c3] at fin
          refine if_true_of (decide_eq_true c3) ?_
          refine ⟨_, rfl, x0, CM K, dx0, _, _, rfl, hx, T.cl_Moment, T.na_a, rfl, _, rfl, x0, CM K, dx0, _, _, rfl, hx, T.cl_Moment, T.na_b, rfl, rfl, _, rfl, ?_⟩
          rw [dec_nat]
          by_cases c4 : m.a = m.b
          · rw [if_pos c4] at fin
            exact if_true_of (decide_eq_true c4) ⟨(by show 3 ≤ sizeLine; decide), fun r nr => fin r nr⟩
          · rw [if_neg c4] at fin
            exact if_false_of (decide_eq_false c4) ⟨(by show 3 ≤ sizeLine; decide), fun r nr => fin r nr⟩
        · rw [if_neg c3] at fin
          refine if_false_of (decide_eq_false c3) ?_
          refine ⟨_, rfl, x0, CM K, dx0, _, _, rfl, hx, T.cl_Moment, T.na_a, rfl, _, rfl, x0, CM K, dx0, _, _, rfl, hx, T.cl_Moment, T.na_b, rfl, rfl, _, rfl, ?_⟩
          rw [dec_nat]
          by_cases c4 : m.a = m.b
          · rw [if_pos c4] at fin
            exact if_true_of (decide_eq_true c4) ⟨(by show 3 ≤ sizeLine; decide), fun r nr => fin r nr⟩
          · rw [if_neg c4] at fin
            exact if_false_of (decide_eq_false c4) ⟨(by show 3 ≤ sizeLine; decide), fun r nr => fin r nr⟩
end
end Nw
end
section
set_option maxRecDepth 100000
set_option maxHeartbeats 2000000
namespace Nw
open PySem PySem.Spec PyProof.Rows L2 LamX NdefX
abbrev vP (l : List (Nat × Nat)) : List V := l.flatMap fun q => [V.int (q.1 : Int), V.int (q.2 : Int)]
theorem iP_V (l : List (Nat × Nat)) : (l.flatMap fun q => [nI q.1, nI q.2]).map V.int = vP l := by
  rw [List.map_flatMap]
  rfl
theorem vP_snoc (l : List (Nat × Nat)) (q : Nat × Nat) : vP (l ++ [q]) = vP l ++ [V.int (q.1 : Int)] ++ [V.int (q.2 : Int)] := by
  rw [vP, List.flatMap_append]
  simp
theorem vP_len (l : List (Nat × Nat)) : (vP l).length = 2 * l.length := by
  induction l with
  | nil => rfl
  | cons q l ih =>
    show (V.int _ :: V.int _ :: vP l).length = _
    rw [List.length_cons, List.length_cons, ih, List.length_cons]
    omega
theorem MomOk.row {m : Mom} (h : MomOk m) : ∀ r ∈ waysM m, r.length ≤ 100 := fun r hr => by
  obtain ⟨u, hu⟩ := List.mem_iff_getElem?.mp hr
  have h1 := mostW_le (waysM m) u
  rw [rowAt_of hu] at h1
  have := h.most
  omega
theorem MomOk.rowle {m : Mom} (h : MomOk m) (u : Nat) : (rowAt (waysM m) u).length ≤ 10 := Nat.le_trans (mostW_le (waysM m) u) h.most
section
variable {P : Program} {w : World} {K : PySem.W.Frag} {mg : Str → Option Value} {base : Heap} {f : Addr} {fd : FuncData}
theorem rd_same {H : Hp} {X : List Addr} {ow pp : Addr} {s : WS} {m : Mom} {Q : VK} {p : PS × List Int} (hS : St K H X ow pp s) (hn : s.now = some m) (hT : TabsN (Tn K) H)
    (q : ∀ H' r pp', After K H H' ow pp pp' → St K H' X ow pp' ⟨some p.1.1, p.1.2⟩ → NewL H r → H' r = some (.lst (p.2.map V.int)) → Q (.ref r) H') (l : List Int) (e : p = ((m, s.past), l)) :
    ∀ H' r, Same H H' → H r = none → H' r = some (.lst (l.map V.int)) → Q (.ref r) H' := fun H' r sm nr hr => rd_of hS hn q l e H' r (same_ext sm) (hT.ext sm) nr hr
theorem newL_ext {H H1 : Hp} {r : Addr} (e : ExtN H H1) (n : H1 r = none) : NewL H r := fun xs z => by
  rw [e _ _ z (fun ps z => by cases z)] at n
  cases n
/-- an answer made behind H1 -/
theorem rd_new {H H1 : Hp} {X : List Addr} {ow pp : Addr} {s : WS} {m : Mom} {Q : VK} {p : PS × List Int} (hS : St K H X ow pp s) (hn : s.now = some m) (hT : TabsN (Tn K) H1)
    (q : ∀ H' r pp', After K H H' ow pp pp' → St K H' X ow pp' ⟨some p.1.1, p.1.2⟩ → NewL H r → H' r = some (.lst (p.2.map V.int)) → Q (.ref r) H') (l : List Int) (e : p = ((m, s.past), l)) (e1 : ExtN H H1) :
    ∀ H' r, Same H1 H' → H1 r = none → H' r = some (.lst (l.map V.int)) → Q (.ref r) H' := fun H' r sm nr hr => rd_ext hS hn q l e H' r (extN_trans e1 (same_ext sm)) (hT.ext sm) (newL_ext e1 nr) hr
abbrev is_exits (c : Cmd) : Prop := ∃ u, c = .exits u
theorem sc_exits : FnScope ["wanderers", "given", "row", "answer", "place", "entry"] ["wanderers", "given"] (defScope s_exits) := ⟨rfl, rfl, rfl, by decide +kernel, rfl, by decide +kernel, by decide +kernel⟩
theorem ok_exits (T : Tx K mg) (F : FnP K d_exits f fd) : FnOk P w K mg base CX0 5 f fd ["wanderers", "given"] (sp_c K is_exits) := by
  refine F.ok sc_exits (fun vs H Q E h => ?_) (fun cdv A outer s H vs Q E hr h => ⟨_, PSs.nox
    (pss_cons (ps_set (i := 2) sc_exits.nd rfl (Or.inl rfl) (pe_ix ix_list (pe_fld (pe_fld (pv 0) rfl) rfl) (pe_ix ix_list (pv 1) pe_int (fun _ _ => rfl)) (fun _ _ => rfl)))
      (pss_cons (ps_set (i := 3) sc_exits.nd rfl (Or.inl rfl) (pe_lst (pa_cons (pe_callB call_len_seq (by rfl) T.f_len PySem.boot_len (pa_cons (pv 2) pa_nil)) pa_nil)))
      (pss_cons (ps_for PassesOwn.never rfl (pi_list (pv 2)) (pg_tup rfl (pgs_cons (pg_name (i := 4) sc_exits.nd rfl (Or.inl rfl)) (pgs_cons (pg_name (i := 5) sc_exits.nd rfl (Or.inl rfl)) pgs_nil))) (pss_cons (ps_expr (pe_bm PySem.F.plainAttrs_list PySem.F.slot_list_append PySem.F.type_list_append mt_append (pv 3) (pa_cons (pv 4) pa_nil)))
      (pss_one (ps_expr (pe_bm PySem.F.plainAttrs_list PySem.F.slot_list_append PySem.F.type_list_append mt_append (pv 3) (pa_cons (pv 5) pa_nil))))))
      (pss_one (ps_ret (pv 3)))))), ?_⟩)
  · obtain ⟨X, ow, pp, g, s, m, c, _, rfl, _⟩ := h
    rfl
  · obtain ⟨X, ow, pp, g, s, m, c, ⟨u, rfl⟩, rfl, hT, hS, hn, hg, hgp, hu, q⟩ := h
    obtain ⟨dx, x0, dx0, lv, wv, us, how, hpp, hul, ⟨hx, hl, hw, hm⟩, hl', hx1, hx2⟩ := hS.now_is hn
    have hg : H g = some (.lst (vN [u])) := hg
    have hu : u < m.n := hu
    have hlt : u < (waysM m).length := by rw [hm.len]; exact hu
    obtain ⟨a, xs, rfl, sq, al⟩ := hw.lst_of
    obtain ⟨r0, hr1, hr2⟩ := al.get (rowsGet (row_some hlt))
    obtain ⟨b, ys, rfl, sq2, al2⟩ := hr2.lst_of
    have hyl : ys.length = (rowAt (waysM m) u).length := by rw [al2.len, List.length_map]
    have hle := hm.rowle u
    have fin := rd_same hS hn hT q _ rfl
    refine ⟨_, rfl, ow, CW K, dx, _, _, rfl, how, T.cl_Wanderers, T.na_now, rfl, x0, CM K, dx0, _, _, rfl, hx, T.cl_Moment, T.na_ways, rfl, _, rfl, g, _, (0 : Int), _, rfl, rfl, SqL.of hg, at0, a, xs, (u : Int), _, rfl, rfl, sq, at_nat hr1, ?_⟩
    refine ⟨_, rfl, b, ys, rfl, .inl sq2, (by show 1 ≤ sizeLine; decide), fun p np => ?_⟩
    refine ⟨_, rfl, b, rfl, ⟨_, (Keep.new np).sqL sq2⟩, for_list (K := K) (a := b) (xs := ys) (fun i σ H' => ∃ z2 z3 : Option V, σ = [some (.ref ow), some (.ref g), some (.ref b), some (.ref p), z2, z3] ∧ Same H H' ∧ H' p = some (.lst (V.int (ys.length : Nat) :: vP ((rowAt (waysM m) u).take i))))
      ⟨none, none, rfl, Same.new np, upd_same⟩ (fun i σ H' _ ⟨_, _, _, s5, _⟩ => s5.keep.sqL sq2) ?_ ?_⟩
    · rintro i y σ H3 hi ⟨z2, z3, rfl, s3, hp⟩
      have hil := (List.getElem?_eq_some_iff.mp hi).1
      obtain ⟨d, hd1, hd2⟩ := al2.getV hi
      rw [List.getElem?_map] at hd1
      obtain ⟨pr, hpr, rfl⟩ := Option.map_eq_some_iff.mp hd1
      obtain ⟨c1, zs, rfl, sq3, al3⟩ := hd2.tup_of
      have ezs : zs = [.int (pr.1 : Int), .int (pr.2 : Int)] := DpAll.ints [(pr.1 : Int), (pr.2 : Int)] al3
      subst ezs
      have hlen : (V.int (ys.length : Nat) :: vP ((rowAt (waysM m) u).take i)).length ≤ 21 := by
        rw [List.length_cons, vP_len, List.length_take]
        omega
      refine ⟨c1, _, rfl, s3.keep.sqT sq3, rfl, _, _, rfl, _, _, rfl, rfl, ?_⟩
      refine ⟨_, rfl, .inl ⟨rfl, _, SqL.of hp⟩, _, rfl, p, _, _, rfl, rfl, hp, Nat.lt_of_le_of_lt hlen (by decide), ?_⟩
      refine ⟨_, rfl, .inl ⟨rfl, _, SqL.of upd_same⟩, _, rfl, p, _, _, rfl, rfl, upd_same, ?_, ?_⟩
      · rw [List.length_append]
        exact Nat.lt_of_le_of_lt (show _ + 1 ≤ 22 by omega) (by decide)
      · refine ⟨_, _, rfl, (s3.upd np).upd np, ?_⟩
        rw [upd_same, take_more hpr, vP_snoc]
        rfl
    · rintro σ H3 ⟨z2, z3, rfl, s3, hp⟩
      rw [hyl, List.take_length] at hp
      refine ⟨_, rfl, fin _ p s3 np ?_⟩
      rw [hp, List.map_cons, iP_V]
abbrev is_walk (c : Cmd) : Prop := ∃ u l, c = .walk u l
theorem sc_walk : FnScope ["wanderers", "given", "word", "places"] ["wanderers", "given"] (defScope s_walk) := ⟨rfl, rfl, rfl, by decide +kernel, rfl, by decide +kernel, by decide +kernel⟩
theorem ok_walk (T : Tx K mg) (F : FnP K d_walk f fd) (G_walked : Has P w K mg 3 "walked" ["ways", "start", "word"] (sp_walked K)) : FnOk P w K mg base CX0 5 f fd ["wanderers", "given"] (sp_c K is_walk) := by
  refine F.ok sc_walk (fun vs H Q E h => ?_) (fun cdv A outer s H vs Q E hr h => ⟨_, PSs.nox
    (pss_cons (ps_set (i := 2) sc_walk.nd rfl (Or.inl rfl) (pe_ix ix_list (pv 1) pe_int (fun _ _ => rfl)))
      (pss_cons (ps_if (pt_cmpR op_gt (pe_callB call_len_seq (by rfl) T.f_len PySem.boot_len (pa_cons (pv 2) pa_nil)) (pe_gint T.c_MOST_LETTERS) (nomark _)) (pss_one (ps_ret (pe_lst (pa_cons (pe_gint T.c_WRONG) pa_nil)))) pss_nil)
      (pss_cons (ps_set (i := 3) sc_walk.nd rfl (Or.inl rfl) (pe_has G_walked hr (pa_cons (pe_fld (pe_fld (pv 0) rfl) rfl) (pa_cons (pe_ix ix_list (pv 1) pe_int (fun _ _ => rfl)) (pa_cons (pv 2) pa_nil)))))
      (pss_one (ps_ret (pe_op op_cat (pe_lst (pa_cons (pe_callB call_len_seq (by rfl) T.f_len PySem.boot_len (pa_cons (pv 3) pa_nil)) pa_nil)) (pv 3))))))), ?_⟩)
  · obtain ⟨X, ow, pp, g, s, m, c, _, rfl, _⟩ := h
    rfl
  · obtain ⟨X, ow, pp, g, s, m, c, ⟨u, l, rfl⟩, rfl, hT, hS, hn, ⟨rl, hg, hrl⟩, hgp, ⟨hu, hll⟩, q⟩ := h
    obtain ⟨dx, x0, dx0, lv, wv, us, how, hpp, hul, ⟨hx, hl, hw, hm⟩, hl', hx1, hx2⟩ := hS.now_is hn
    have hg : H g = some (.lst [.int (u : Int), .ref rl]) := hg
    have hlt : u < (waysM m).length := by rw [hm.len]; exact hu
    refine ⟨_, rfl, g, _, (1 : Int), _, rfl, rfl, SqL.of hg, at1, ?_⟩
    refine ⟨_, rfl, rl, _, rfl, .inl (SqL.of hrl), _, _, rfl, rfl, _, rfl, ?_⟩
    rw [vN_len]
    by_cases c1 : 30 < l.length
    · have e : playW m s.past (.walk u l) = ((m, s.past), [-22]) := by simp only [playW, if_pos c1]
      refine if_true_of (decide_eq_true (by omega)) ⟨(by show 1 ≤ sizeLine; decide), fun r nr => ?_⟩
      exact rd_same hS hn hT q _ e _ r (Same.new nr) nr upd_same
    · have e : playW m s.past (.walk u l) = ((m, s.past), nI (walkedW (waysM m) u l).length :: iN (walkedW (waysM m) u l)) := by simp only [playW, if_neg c1]
      refine if_false_of (decide_eq_false (by omega)) ?_
      refine ⟨_, rfl, ow, CW K, dx, _, _, rfl, how, T.cl_Wanderers, T.na_now, rfl, x0, CM K, dx0, _, _, rfl, hx, T.cl_Moment, T.na_ways, rfl, _, rfl, g, _, (0 : Int), _, rfl, rfl, SqL.of hg, at0, _, rfl, wv, .ref rl, waysM m, u, l, rfl, hw, hm.ways, hlt, ⟨rl, rfl, SqL.of hrl⟩, by omega, fun H1 p s1 np hp => ?_⟩
      refine ⟨_, rfl, p, _, rfl, .inl (SqL.of hp), (by show 1 ≤ sizeLine; decide), fun p2 np2 => ⟨_, rfl, p2, p, _, _, rfl, rfl, upd_same, Same.new np2 _ _ hp, ?_, fun p3 np3 => ?_⟩⟩
      · rw [vN_len, walkedW_len]
        exact Nat.le_trans (show 1 + (l.length + 1) ≤ 52 by omega) (by decide)
      · have s2 := (s1.trans (Same.new (o := .lst [.int (((vN (walkedW (waysM m) u l)).length : Nat) : Int)]) np2))
        refine rd_same hS hn hT q _ e _ p3 (s2.trans (Same.new np3)) (s2.free np3) ?_
        rw [upd_same, List.map_cons, iN_V, vN_len]
        rfl
abbrev is_apart (c : Cmd) : Prop := ∃ u v, c = .apart u v
theorem sc_apart : FnScope ["wanderers", "given", "steps"] ["wanderers", "given"] (defScope s_apart) := ⟨rfl, rfl, rfl, by decide +kernel, rfl, by decide +kernel, by decide +kernel⟩
theorem ok_apart (T : Tx K mg) (F : FnP K d_apart f fd) (G_steps_apart : Has P w K mg 3 "steps_apart" ["ways", "u", "v"] (sp_steps_apart K)) : FnOk P w K mg base CX0 5 f fd ["wanderers", "given"] (sp_c K is_apart) := by
  refine F.ok sc_apart (fun vs H Q E h => ?_) (fun cdv A outer s H vs Q E hr h => ⟨_, PSs.nox
    (pss_cons (ps_set (i := 2) sc_apart.nd rfl (Or.inl rfl) (pe_has G_steps_apart hr (pa_cons (pe_fld (pe_fld (pv 0) rfl) rfl) (pa_cons (pe_ix ix_list (pv 1) pe_int (fun _ _ => rfl)) (pa_cons (pe_ix ix_list (pv 1) pe_int (fun _ _ => rfl)) pa_nil)))))
      (pss_cons (ps_if (pt_cmpR op_isN (pv 2) pe_non (nomark _)) (pss_one (ps_ret (pe_lst (pa_cons (pe_gint T.c_NONE_SUCH) pa_nil)))) pss_nil)
      (pss_one (ps_ret (pe_lst (pa_cons (pv 2) pa_nil)))))), ?_⟩)
  · obtain ⟨X, ow, pp, g, s, m, c, _, rfl, _⟩ := h
    rfl
  · obtain ⟨X, ow, pp, g, s, m, c, ⟨u, v, rfl⟩, rfl, hT, hS, hn, hg, hgp, ⟨hu, hv⟩, q⟩ := h
    obtain ⟨dx, x0, dx0, lv, wv, us, how, hpp, hul, ⟨hx, hl, hw, hm⟩, hl', hx1, hx2⟩ := hS.now_is hn
    have hg : H g = some (.lst (vN [u, v])) := hg
    have hlu : u < (waysM m).length := by rw [hm.len]; exact hu
    have hlv : v < (waysM m).length := by rw [hm.len]; exact hv
    refine ⟨_, rfl, ow, CW K, dx, _, _, rfl, how, T.cl_Wanderers, T.na_now, rfl, x0, CM K, dx0, _, _, rfl, hx, T.cl_Moment, T.na_ways, rfl, _, rfl, g, _, (0 : Int), _, rfl, rfl, SqL.of hg, at0, _, rfl, g, _, (1 : Int), _, rfl, rfl, SqL.of hg, at1, wv, waysM m, u, v, rfl, hw, hm.ways, by rw [hm.len]; exact hm.few, hm.row, hlu, hlv, fun H1 k s1 hne hst => ?_⟩
    rw [apW_is hm.ways hne hst]
    refine ⟨_, rfl, rfl, _, rfl, ?_⟩
    rw [dec_oVN]
    cases c : apW (waysM m) u v with
    | none =>
      have e : playW m s.past (.apart u v) = ((m, s.past), [-6]) := by simp only [playW, c]
      refine if_true_of rfl ⟨(by show 1 ≤ sizeLine; decide), fun r nr => ?_⟩
      exact rd_same hS hn hT q _ e _ r (s1.trans (Same.new nr)) (s1.free nr) upd_same
    | some k =>
      have e : playW m s.past (.apart u v) = ((m, s.past), [nI k]) := by simp only [playW, c]
      refine if_false_of rfl ⟨_, rfl, (by show 1 ≤ sizeLine; decide), fun r nr => ?_⟩
      exact rd_same hS hn hT q _ e _ r (s1.trans (Same.new nr)) (s1.free nr) upd_same
abbrev is_classes (c : Cmd) : Prop := c = .classes
theorem sc_classes : FnScope ["wanderers", "given"] ["wanderers", "given"] (defScope s_classes) := ⟨rfl, rfl, rfl, by decide +kernel, rfl, by decide +kernel, by decide +kernel⟩
theorem ok_classes (T : Tx K mg) (F : FnP K d_classes f fd) (G_classes_of : Has P w K mg 3 "classes_of" ["ways"] (sp_classes_of K)) : FnOk P w K mg base CX0 5 f fd ["wanderers", "given"] (sp_c K is_classes) := by
  refine F.ok sc_classes (fun vs H Q E h => ?_) (fun cdv A outer s H vs Q E hr h => ⟨_, PSs.nox
    (pss_one (ps_ret (pe_op op_cat (pe_lst (pa_cons (pe_fld (pe_fld (pv 0) rfl) rfl) pa_nil)) (pe_has G_classes_of hr (pa_cons (pe_fld (pe_fld (pv 0) rfl) rfl) pa_nil))))), ?_⟩)
  · obtain ⟨X, ow, pp, g, s, m, c, _, rfl, _⟩ := h
    rfl
  · obtain ⟨X, ow, pp, g, s, m, c, rfl, rfl, hT, hS, hn, hg, hgp, _, q⟩ := h
    obtain ⟨dx, x0, dx0, lv, wv, us, how, hpp, hul, ⟨hx, hl, hw, hm⟩, hl', hx1, hx2⟩ := hS.now_is hn
    refine ⟨_, rfl, ow, CW K, dx, _, _, rfl, how, T.cl_Wanderers, T.na_now, rfl, x0, CM K, dx0, _, _, rfl, hx, T.cl_Moment, T.na_size, rfl, (by show 1 ≤ sizeLine; decide), fun p1 np1 => ?_⟩
    have s0 : Same H (upd H p1 (.lst [.int (m.n : Int)])) := Same.new np1
    refine ⟨_, rfl, ow, CW K, dx, _, _, rfl, s0 _ _ how, T.cl_Wanderers, T.na_now, rfl, x0, CM K, dx0, _, _, rfl, s0 _ _ hx, T.cl_Moment, T.na_ways, rfl, wv, waysM m, rfl, hw.same s0, hm.ways, by rw [hm.len]; exact hm.few, hm.row, fun H1 b k s1 hne hst hb => ?_⟩
    rw [clsE_is hm.ways hne hst] at hb
    refine ⟨p1, b, _, _, rfl, rfl, s1 _ _ upd_same, hb, ?_, fun p3 np3 => ?_⟩
    · rw [vN_len, cls_len, hm.len]
      have := hm.few
      exact Nat.le_trans (show 1 + m.n ≤ 8 by omega) (by decide)
    · have s2 := s0.trans s1
      refine rd_same hS hn hT q _ rfl _ p3 (s2.trans (Same.new np3)) (s2.free np3) ?_
      rw [upd_same, List.map_cons, iN_V]
      rfl
abbrev is_distance (c : Cmd) : Prop := ∃ u v, c = .distance u v
theorem sc_distance : FnScope ["wanderers", "given", "steps"] ["wanderers", "given"] (defScope s_distance) := ⟨rfl, rfl, rfl, by decide +kernel, rfl, by decide +kernel, by decide +kernel⟩
theorem ok_distance (T : Tx K mg) (F : FnP K d_distance f fd) (G_distances_from : Has P w K mg 2 "distances_from" ["ways", "start"] (sp_distances_from K)) : FnOk P w K mg base CX0 5 f fd ["wanderers", "given"] (sp_c K is_distance) := by
  refine F.ok sc_distance (fun vs H Q E h => ?_) (fun cdv A outer s H vs Q E hr h => ⟨_, PSs.nox
    (pss_cons (ps_set (i := 2) sc_distance.nd rfl (Or.inl rfl) (pe_ix ix_list (pe_has G_distances_from hr (pa_cons (pe_fld (pe_fld (pv 0) rfl) rfl) (pa_cons (pe_ix ix_list (pv 1) pe_int (fun _ _ => rfl)) pa_nil))) (pe_ix ix_list (pv 1) pe_int (fun _ _ => rfl)) (fun _ _ => rfl)))
      (pss_cons (ps_if (pt_cmpR op_isN (pv 2) pe_non (nomark _)) (pss_one (ps_ret (pe_lst (pa_cons (pe_gint T.c_NOT_SO) pa_nil)))) pss_nil)
      (pss_one (ps_ret (pe_lst (pa_cons (pv 2) pa_nil)))))), ?_⟩)
  · obtain ⟨X, ow, pp, g, s, m, c, _, rfl, _⟩ := h
    rfl
  · obtain ⟨X, ow, pp, g, s, m, c, ⟨u, v, rfl⟩, rfl, hT, hS, hn, hg, hgp, ⟨hu, hv⟩, q⟩ := h
    obtain ⟨dx, x0, dx0, lv, wv, us, how, hpp, hul, ⟨hx, hl, hw, hm⟩, hl', hx1, hx2⟩ := hS.now_is hn
    have hg : H g = some (.lst (vN [u, v])) := hg
    have hlu : u < (waysM m).length := by rw [hm.len]; exact hu
    have hlv : v < (waysM m).length := by rw [hm.len]; exact hv
    have hfew : (waysM m).length ≤ 1000 := by rw [hm.len]; have := hm.few; omega
    refine ⟨_, rfl, ow, CW K, dx, _, _, rfl, how, T.cl_Wanderers, T.na_now, rfl, x0, CM K, dx0, _, _, rfl, hx, T.cl_Moment, T.na_ways, rfl, _, rfl, g, _, (0 : Int), _, rfl, rfl, SqL.of hg, at0, wv, waysM m, u, rfl, hw, hm.ways, hfew, hlu, fun H1 p s1 np hp => ?_⟩
    refine ⟨_, rfl, g, _, (1 : Int), _, rfl, rfl, SqL.of (s1 _ _ hg), at1, p, _, (v : Int), _, rfl, rfl, SqL.of hp, at_nat (vO_get (by rw [allFar_len hm.ways hlu]; exact hlv)), ?_⟩
    refine ⟨_, rfl, rfl, _, rfl, ?_⟩
    rw [dec_oVN]
    cases c : (allFar (waysM m) u).getD v none with
    | none =>
      have e : playW m s.past (.distance u v) = ((m, s.past), [-33]) := by simp only [playW, c]
      refine if_true_of rfl ⟨(by show 1 ≤ sizeLine; decide), fun r nr => ?_⟩
      exact rd_same hS hn hT q _ e _ r (s1.trans (Same.new nr)) (s1.free nr) upd_same
    | some k =>
      have e : playW m s.past (.distance u v) = ((m, s.past), [nI k]) := by simp only [playW, c]
      refine if_false_of rfl ⟨_, rfl, (by show 1 ≤ sizeLine; decide), fun r nr => ?_⟩
      exact rd_same hS hn hT q _ e _ r (s1.trans (Same.new nr)) (s1.free nr) upd_same
end
end Nw
end
section
set_option maxRecDepth 100000
set_option maxHeartbeats 2000000
namespace Nw
open PySem PySem.Spec PyProof.Rows L2 LamX NdefX
theorem jo_rch {m : Mom} (h : MomOk m) (j : Jo m) : ∀ u v, u < m.n → v < m.n → Rch (waysM m) (List.range (waysM m).length) u v := fun u v hu hv => by
  have h0 : 0 < (waysM m).length := by rw [h.len]; exact h.pos
  have one : ∀ v, v < m.n → Rch (waysM m) (List.range (waysM m).length) 0 v := fun v hv => by
    have hv' : v < (waysM m).length := by rw [h.len]; exact hv
    cases e : (allFar (waysM m) 0).getD v none with
    | none => exact absurd e (j v hv)
    | some d =>
      obtain ⟨⟨w, _, hw, ew⟩, _⟩ := (far_some h.ways h0 hv' (Nat.le_refl _)).mp e
      exact ⟨w, hw, ew⟩
  exact ((one u hu).symm h.sym h.ways (List.mem_range.mpr h0) h0).trans (one v hv)
theorem jo_far {m : Mom} (h : MomOk m) (j : Jo m) {u v : Nat} (hu : u < m.n) (hv : v < m.n) : ∃ d, (allFar (waysM m) u).getD v none = some d :=
  far_of_rch h.ways (by rw [h.len]; exact hu) (by rw [h.len]; exact hv) (jo_rch h j u v hu hv)
section
variable {P : Program} {w : World} {K : PySem.W.Frag} {mg : Str → Option Value} {base : Heap} {f : Addr} {fd : FuncData}
abbrev is_near (c : Cmd) : Prop := ∃ u v, c = .shrink u v
theorem sc_near : FnScope ["wanderers", "given", "ways", "best"] ["wanderers", "given"] (defScope s_near) := ⟨rfl, rfl, rfl, by decide +kernel, rfl, by decide +kernel, by decide +kernel⟩
theorem ok_near (T : Tx K mg) (TB : TabsB K mg base) (F : FnP K d_near f fd) (G_steps_apart : Has P w K mg 3 "steps_apart" ["ways", "u", "v"] (sp_steps_apart K)) (G_nearest : HasB P w K mg (TabsB K mg) 7 "nearest" ["ways", "u", "v"] (sp_nearest K)) : FnOk P w K mg base CX0 8 f fd ["wanderers", "given"] (sp_c K is_near) := by
  refine F.ok sc_near (fun vs H Q E h => ?_) (fun cdv A outer s H vs Q E hr h => ⟨_, PSs.nox
    (pss_cons (ps_set (i := 2) sc_near.nd rfl (Or.inl rfl) (pe_fld (pe_fld (pv 0) rfl) rfl))
      (pss_cons (ps_if (pt_cmpR op_notN (pe_has G_steps_apart hr (pa_cons (pv 2) (pa_cons (pe_ix ix_list (pv 1) pe_int (fun _ _ => rfl)) (pa_cons (pe_ix ix_list (pv 1) pe_int (fun _ _ => rfl)) pa_nil)))) pe_non (nomark _)) (pss_one (ps_ret (pe_lst (pa_cons (pe_gint T.c_NOT_SO) pa_nil)))) pss_nil)
      (pss_cons (ps_set (i := 3) sc_near.nd rfl (Or.inl rfl) (pe_hasB G_nearest TB hr (by decide) pass0 (by rfl) (pa_cons (pv 2) (pa_cons (pe_ix ix_list (pv 1) pe_int (fun _ _ => rfl)) (pa_cons (pe_ix ix_list (pv 1) pe_int (fun _ _ => rfl)) pa_nil)))))
      (pss_one (ps_ret (pe_op op_cat (pe_lst (pa_cons (pe_ix ix_tup (pv 3) pe_int (fun _ _ => rfl)) (pa_cons (pe_callB call_len_seq (by rfl) T.f_len PySem.boot_len (pa_cons (pe_ix ix_tup (pv 3) pe_int (fun _ _ => rfl)) pa_nil)) pa_nil))) (pe_ix ix_tup (pv 3) pe_int (fun _ _ => rfl)))))))), ?_⟩)
  · obtain ⟨X, ow, pp, g, s, m, c, _, rfl, _⟩ := h
    rfl
  · obtain ⟨X, ow, pp, g, s, m, c, ⟨u, v, rfl⟩, rfl, hT, hS, hn, hg, hgp, ⟨hu, hv, hj⟩, q⟩ := h
    obtain ⟨dx, x0, dx0, lv, wv, us, how, hpp, hul, ⟨hx, hl, hw, hm⟩, hl', hx1, hx2⟩ := hS.now_is hn
    have hg : H g = some (.lst (vN [u, v])) := hg
    have hlu : u < (waysM m).length := by rw [hm.len]; exact hu
    have hlv : v < (waysM m).length := by rw [hm.len]; exact hv
    have hfew : (waysM m).length ≤ 7 := by rw [hm.len]; exact hm.few
    refine ⟨_, rfl, ow, CW K, dx, _, _, rfl, how, T.cl_Wanderers, T.na_now, rfl, x0, CM K, dx0, _, _, rfl, hx, T.cl_Moment, T.na_ways, rfl, ?_⟩
    refine ⟨_, rfl, _, rfl, g, _, (0 : Int), _, rfl, rfl, SqL.of hg, at0, _, rfl, g, _, (1 : Int), _, rfl, rfl, SqL.of hg, at1, wv, waysM m, u, v, rfl, hw, hm.ways, hfew, hm.row, hlu, hlv, fun H1 k s1 hne hst => ?_⟩
    rw [apW_is hm.ways hne hst]
    refine ⟨rfl, _, rfl, ?_⟩
    rw [dec_oVN]
    cases c : apW (waysM m) u v with
    | some k =>
      have e : playW m s.past (.shrink u v) = ((m, s.past), [-33]) := by simp only [playW, c, Option.isSome_some, if_true]
      refine if_true_of rfl ⟨(by show 1 ≤ sizeLine; decide), fun r nr => ?_⟩
      exact rd_same hS hn hT q _ e _ r (s1.trans (Same.new nr)) (s1.free nr) upd_same
    | none =>
      have e : playW m s.past (.shrink u v) = ((m, s.past), nI (nearW (waysM m) u v).1 :: nI (nearW (waysM m) u v).2.length :: iN (nearW (waysM m) u v).2) := by simp only [playW, c, Option.isSome_none, Bool.false_eq_true, if_false]
      refine if_false_of rfl ?_
      obtain ⟨k0, hk0⟩ := jo_far hm hj hu hv
      have hg1 := s1 _ _ hg
      refine ⟨_, rfl, _, rfl, g, _, (0 : Int), _, rfl, rfl, SqL.of hg1, at0, _, rfl, g, _, (1 : Int), _, rfl, rfl, SqL.of hg1, at1, wv, waysM m, u, v, k0, rfl, hT.ext s1, hw.same s1, hm.ways, by omega, by have := hm.most; omega, hlu, hlv, hk0, fun H2 t p k l e2 hT2 h1 h2 ht hp => ?_⟩
      have hnw := nearW_is hk0 h1 h2
      rw [hnw] at e
      have hll : l.length ≤ 49 := by
        have := few_pairs hm.ways (m := mostW (waysM m) + 1) hlu hlv ((waysM m).length * (waysM m).length)
        obtain ⟨r, hr, rfl⟩ := Option.map_eq_some_iff.mp h2
        obtain ⟨i, hi⟩ := List.mem_iff_getElem?.mp (List.mem_of_find?_eq_some hr)
        have a1 := Q_index _ _ _ _ _ _ hi
        have a2 := (List.getElem?_eq_some_iff.mp hi).1
        have : (waysM m).length * (waysM m).length ≤ 7 * 7 := Nat.mul_le_mul hfew hfew
        omega
      refine ⟨_, rfl, t, _, (0 : Int), _, rfl, rfl, SqT.of ht, at0, _, rfl, t, _, (1 : Int), _, rfl, rfl, SqT.of ht, at1, p, _, rfl, .inl (SqL.of hp), (by show 2 ≤ sizeLine; decide), fun p2 np2 => ?_⟩
      have s3 : Same H2 (upd H2 p2 (.lst [.int (k : Int), .int (((vN l).length : Nat) : Int)])) := Same.new np2
      refine ⟨_, rfl, t, _, (1 : Int), _, rfl, rfl, SqT.of (s3 _ _ ht), at1, p2, p, _, _, rfl, rfl, upd_same, s3 _ _ hp, ?_, fun p3 np3 => ?_⟩
      · rw [vN_len]
        exact Nat.le_trans (show 2 + l.length ≤ 51 by omega) (by decide)
      · refine rd_new hS hn hT2 q _ e (extN_trans (same_ext s1) e2) _ p3 (s3.trans (Same.new np3)) (s3.free np3) ?_
        rw [upd_same, List.map_cons, List.map_cons, iN_V, vN_len]
        rfl
abbrev is_can (c : Cmd) : Prop := ∃ d, c = .can d
theorem sc_can : FnScope ["wanderers", "given", "now"] ["wanderers", "given"] (defScope s_can) := ⟨rfl, rfl, rfl, by decide +kernel, rfl, by decide +kernel, by decide +kernel⟩
theorem ok_can (T : Tx K mg) (TB : TabsB K mg base) (F : FnP K d_can f fd) (G_steps_apart : Has P w K mg 3 "steps_apart" ["ways", "u", "v"] (sp_steps_apart K)) (G_nearest : HasB P w K mg (TabsB K mg) 7 "nearest" ["ways", "u", "v"] (sp_nearest K)) : FnOk P w K mg base CX0 8 f fd ["wanderers", "given"] (sp_c K is_can) := by
  refine F.ok sc_can (fun vs H Q E h => ?_) (fun cdv A outer s H vs Q E hr h => ⟨_, PSs.nox
    (pss_cons (ps_set (i := 2) sc_can.nd rfl (Or.inl rfl) (pe_fld (pv 0) rfl))
      (pss_cons (ps_if (pt_cmpR op_notN (pe_has G_steps_apart hr (pa_cons (pe_fld (pv 2) rfl) (pa_cons (pe_fld (pv 2) rfl) (pa_cons (pe_fld (pv 2) rfl) pa_nil)))) pe_non (nomark _)) (pss_one (ps_ret (pe_lst (pa_cons pe_int pa_nil)))) pss_nil)
      (pss_one (ps_ret (pe_lst (pa_cons (pe_ifExp (pt_cmpR op_le (pe_ix ix_tup (pe_hasB G_nearest TB hr (by decide) pass0 (by rfl) (pa_cons (pe_fld (pv 2) rfl) (pa_cons (pe_fld (pv 2) rfl) (pa_cons (pe_fld (pv 2) rfl) pa_nil)))) pe_int (fun _ _ => rfl)) (pe_ix ix_list (pv 1) pe_int (fun _ _ => rfl)) (nomark _)) pe_int pe_int) pa_nil)))))), ?_⟩)
  · obtain ⟨X, ow, pp, g, s, m, c, _, rfl, _⟩ := h
    rfl
  · obtain ⟨X, ow, pp, g, s, m, c, ⟨d, rfl⟩, rfl, hT, hS, hn, hg, hgp, hj, q⟩ := h
    obtain ⟨dx, x0, dx0, lv, wv, us, how, hpp, hul, ⟨hx, hl, hw, hm⟩, hl', hx1, hx2⟩ := hS.now_is hn
    have hg : H g = some (.lst (vN [d])) := hg
    have hj : Jo m := hj
    have hlu : m.a < (waysM m).length := by rw [hm.len]; exact hm.a
    have hlv : m.b < (waysM m).length := by rw [hm.len]; exact hm.b
    have hfew : (waysM m).length ≤ 7 := by rw [hm.len]; exact hm.few
    refine ⟨_, rfl, ow, CW K, dx, _, _, rfl, how, T.cl_Wanderers, T.na_now, rfl, ?_⟩
    refine ⟨_, rfl, x0, CM K, dx0, _, _, rfl, hx, T.cl_Moment, T.na_ways, rfl, _, rfl, x0, CM K, dx0, _, _, rfl, hx, T.cl_Moment, T.na_a, rfl, _, rfl, x0, CM K, dx0, _, _, rfl, hx, T.cl_Moment, T.na_b, rfl, wv, waysM m, m.a, m.b, rfl, hw, hm.ways, hfew, hm.row, hlu, hlv, fun H1 k s1 hne hst => ?_⟩
    rw [apW_is hm.ways hne hst]
    refine ⟨rfl, _, rfl, ?_⟩
    rw [dec_oVN]
    cases c : apW (waysM m) m.a m.b with
    | some k =>
      have e : playW m s.past (.can d) = ((m, s.past), [1]) := by simp only [playW, c, Option.isSome_some, if_true]
      refine if_true_of rfl ⟨(by show 1 ≤ sizeLine; decide), fun r nr => ?_⟩
      exact rd_same hS hn hT q _ e _ r (s1.trans (Same.new nr)) (s1.free nr) upd_same
    | none =>
      have e : playW m s.past (.can d) = ((m, s.past), [if (nearW (waysM m) m.a m.b).1 ≤ d then 1 else 0]) := by simp only [playW, c, Option.isSome_none, Bool.false_eq_true, if_false]
      refine if_false_of rfl ?_
      obtain ⟨k0, hk0⟩ := jo_far hm hj hm.a hm.b
      have hg1 := s1 _ _ hg
      have hx' := s1 _ _ hx
      refine ⟨_, rfl, x0, CM K, dx0, _, _, rfl, hx', T.cl_Moment, T.na_ways, rfl, _, rfl, x0, CM K, dx0, _, _, rfl, hx', T.cl_Moment, T.na_a, rfl, _, rfl, x0, CM K, dx0, _, _, rfl, hx', T.cl_Moment, T.na_b, rfl, wv, waysM m, m.a, m.b, k0, rfl, hT.ext s1, hw.same s1, hm.ways, by omega, by have := hm.most; omega, hlu, hlv, hk0, fun H2 t p k l e2 hT2 h1 h2 ht hp => ?_⟩
      have hnw := nearW_is hk0 h1 h2
      rw [hnw] at e
      have hg2 := e2 _ _ hg1 (fun ps z => by cases z)
      refine ⟨t, _, (0 : Int), _, rfl, rfl, SqT.of ht, at0, _, rfl, g, _, (0 : Int), _, rfl, rfl, SqL.of hg2, at0, _, _, rfl, rfl, _, rfl, ?_⟩
      by_cases c2 : k ≤ d
      · rw [if_pos c2] at e
        refine if_true_of (decide_eq_true (by omega)) ⟨(by show 1 ≤ sizeLine; decide), fun p3 np3 => ?_⟩
        exact rd_new hS hn hT2 q _ e (extN_trans (same_ext s1) e2) _ p3 (Same.new np3) np3 upd_same
      · rw [if_neg c2] at e
        refine if_false_of (decide_eq_false (by omega)) ⟨(by show 1 ≤ sizeLine; decide), fun p3 np3 => ?_⟩
        exact rd_new hS hn hT2 q _ e (extN_trans (same_ext s1) e2) _ p3 (Same.new np3) np3 upd_same
end
end Nw
end
section
set_option maxRecDepth 100000
set_option maxHeartbeats 2000000
namespace Nw
open PySem PySem.Spec PyProof.Rows L2 LamX NdefX
theorem or_isH {t u : TT} {σ : L2.St} {H : Hp} {Q : Bool → Hp → Prop} (b1 b2 : Bool) (h1 : ∀ R : Bool → Hp → Prop, R b1 H → t σ H R) (h2 : b1 = false → ∀ R : Bool → Hp → Prop, (∀ H', Same H H' → R b2 H') → u σ H R) (q : ∀ H', Same H H' → Q (b1 || b2) H') : tOrI t u σ H Q := by
  rw [tOrI_eq]
  refine h1 _ ?_
  cases b1 with
  | true => exact if_true_of rfl (q H (Same.refl _))
  | false => exact if_false_of rfl (h2 rfl _ q)
theorem and_isH {t u : TT} {σ : L2.St} {H : Hp} {Q : Bool → Hp → Prop} (b1 b2 : Bool) (h1 : ∀ R : Bool → Hp → Prop, R b1 H → t σ H R) (h2 : b1 = true → ∀ R : Bool → Hp → Prop, (∀ H', Same H H' → R b2 H') → u σ H R) (q : ∀ H', Same H H' → Q (b1 && b2) H') : tAndI t u σ H Q := by
  rw [tAndI_eq]
  refine h1 _ ?_
  cases b1 with
  | true => exact if_true_of rfl (h2 rfl _ q)
  | false => exact if_false_of rfl (q H (Same.refl _))
theorem fw_len {go : NestedKey → Nat → NestedKey} {m : Nat} {s0 : NestedKey} {isE : NestedKey → Bool} {N : Nat} {l : List Nat} (hc : (Q go m s0 N).length ≤ N) (h : fwRes go m s0 isE N = some l) : l.length ≤ N := by
  obtain ⟨r, hr, rfl⟩ := Option.map_eq_some_iff.mp h
  obtain ⟨i, hi⟩ := List.mem_iff_getElem?.mp (List.mem_of_find?_eq_some hr)
  have a1 := Q_index _ _ _ _ _ _ hi
  have a2 := (List.getElem?_eq_some_iff.mp hi).1
  omega
section
variable {P : Program} {w : World} {K : PySem.W.Frag} {mg : Str → Option Value} {base : Heap} {f : Addr} {fd : FuncData}
abbrev is_meets (c : Cmd) : Prop := ∃ d l, c = .meets d l
theorem sc_meets : FnScope ["wanderers", "given", "now", "later", "word", "met"] ["wanderers", "given"] (defScope s_meets) := ⟨rfl, rfl, rfl, by decide +kernel, rfl, by decide +kernel, by decide +kernel⟩
theorem ok_meets (T : Tx K mg) (F : FnP K d_meets f fd) (G_meeting : Has P w K mg 4 "meeting" ["ways", "u", "v", "later", "word"] (sp_meeting K)) : FnOk P w K mg base CX0 5 f fd ["wanderers", "given"] (sp_c K is_meets) := by
  refine F.ok sc_meets (fun vs H Q E h => ?_) (fun cdv A outer s H vs Q E hr h => ⟨_, PSs.nox
    (pss_cons (ps_set (i := 2) sc_meets.nd rfl (Or.inl rfl) (pe_fld (pv 0) rfl))
      (pss_cons (ps_set (i := 3) sc_meets.nd rfl (Or.inl rfl) (pe_ix ix_list (pv 1) pe_int (fun _ _ => rfl)))
      (pss_cons (ps_set (i := 4) sc_meets.nd rfl (Or.inl rfl) (pe_ix ix_list (pv 1) pe_int (fun _ _ => rfl)))
      (pss_cons (ps_if (PW.pt (pw_orI (pt_cmpR op_gt (pe_callB call_len_seq (by rfl) T.f_len PySem.boot_len (pa_cons (pv 4) pa_nil)) (pe_gint T.c_MOST_LETTERS) (nomark _)) (pw_or1 (pt_cmpR op_gt (pv 3) (pe_gint T.c_MOST_LATER) (nomark _))))) (pss_one (ps_ret (pe_lst (pa_cons (pe_gint T.c_WRONG) pa_nil)))) pss_nil)
      (pss_cons (ps_set (i := 5) sc_meets.nd rfl (Or.inl rfl) (pe_has G_meeting hr (pa_cons (pe_fld (pv 2) rfl) (pa_cons (pe_fld (pv 2) rfl) (pa_cons (pe_fld (pv 2) rfl) (pa_cons (pv 3) (pa_cons (pv 4) pa_nil)))))))
      (pss_cons (ps_if (pt_cmpR op_isN (pv 5) pe_non (nomark _)) (pss_one (ps_ret (pe_lst (pa_cons (pe_gint T.c_NOT_SO) pa_nil)))) pss_nil)
      (pss_one (ps_ret (pe_callTy call_list_of (by rfl) T.f_list (by decide +kernel) (pa_cons (pv 5) pa_nil)))))))))), ?_⟩)
  · obtain ⟨X, ow, pp, g, s, m, c, _, rfl, _⟩ := h
    rfl
  · obtain ⟨X, ow, pp, g, s, m, c, ⟨d, l, rfl⟩, rfl, hT, hS, hn, ⟨rl, hg, hrl⟩, hgp, hll, q⟩ := h
    obtain ⟨dx, x0, dx0, lv, wv, us, how, hpp, hul, ⟨hx, hl, hw, hm⟩, hl', hx1, hx2⟩ := hS.now_is hn
    have hg : H g = some (.lst [.int (d : Int), .ref rl]) := hg
    have hll : l.length ≤ 50 := hll
    have hlu : m.a < (waysM m).length := by rw [hm.len]; exact hm.a
    have hlv : m.b < (waysM m).length := by rw [hm.len]; exact hm.b
    refine ⟨_, rfl, ow, CW K, dx, _, _, rfl, how, T.cl_Wanderers, T.na_now, rfl, ?_⟩
    refine ⟨_, rfl, g, _, (0 : Int), _, rfl, rfl, SqL.of hg, at0, ?_⟩
    refine ⟨_, rfl, g, _, (1 : Int), _, rfl, rfl, SqL.of hg, at1, ?_⟩
    refine or_is (decide (30 < l.length)) (decide (20 < d)) (fun R r => ⟨_, rfl, rl, _, rfl, .inl (SqL.of hrl), _, _, rfl, rfl, _, rfl, ?_⟩) (fun _ R r => ⟨_, rfl, _, _, rfl, rfl, _, rfl, ?_⟩) ?_
    · rw [vN_len]
      have e : decide ((30 : Int) < (l.length : Int)) = decide (30 < l.length) := decide_eq_decide.mpr (by omega)
      show R (decide ((30 : Int) < (l.length : Int))) H
      rw [e]
      exact r
    · have e : decide ((20 : Int) < (d : Int)) = decide (20 < d) := decide_eq_decide.mpr (by omega)
      show R (decide ((20 : Int) < (d : Int))) H
      rw [e]
      exact r
    by_cases c1 : 30 < l.length ∨ 20 < d
    · have e : playW m s.past (.meets d l) = ((m, s.past), [-22]) := by simp only [playW, if_pos c1]
      refine if_true_of (by rw [Bool.or_eq_true, decide_eq_true_iff, decide_eq_true_iff]; exact c1) ⟨(by show 1 ≤ sizeLine; decide), fun r nr => ?_⟩
      exact rd_same hS hn hT q _ e _ r (Same.new nr) nr upd_same
    · refine if_false_of (by rw [Bool.or_eq_false_iff, decide_eq_false_iff_not, decide_eq_false_iff_not]; exact ⟨fun z => c1 (.inl z), fun z => c1 (.inr z)⟩) ?_
      refine ⟨_, rfl, x0, CM K, dx0, _, _, rfl, hx, T.cl_Moment, T.na_ways, rfl, _, rfl, x0, CM K, dx0, _, _, rfl, hx, T.cl_Moment, T.na_a, rfl, _, rfl, x0, CM K, dx0, _, _, rfl, hx, T.cl_Moment, T.na_b, rfl, _, rfl, _, rfl, wv, rl, waysM m, m.a, m.b, d, l, rfl, hw, hm.ways, hlu, hlv, by omega, hrl, by omega, fun H1 s1 hk => ?_, fun H1 t k s1 hk ht => ?_⟩
      · have e : playW m s.past (.meets d l) = ((m, s.past), [-33]) := by simp only [playW, if_neg c1, hk]
        refine ⟨_, rfl, rfl, _, rfl, if_true_of rfl ⟨(by show 1 ≤ sizeLine; decide), fun r nr => ?_⟩⟩
        exact rd_same hS hn hT q _ e _ r (s1.trans (Same.new nr)) (s1.free nr) upd_same
      · have e : playW m s.past (.meets d l) = ((m, s.past), [nI k, nI ((fstW (waysM m) m.a d l).getD k 0)]) := by simp only [playW, if_neg c1, hk]
        refine ⟨_, rfl, rfl, _, rfl, if_false_of rfl ?_⟩
        refine ⟨_, rfl, t, _, rfl, .inr (SqT.of ht), fun r nr => ?_⟩
        exact rd_same hS hn hT q _ e _ r (s1.trans (Same.new nr)) (s1.free nr) upd_same
abbrev is_found (c : Cmd) : Prop := ∃ d, c = .found d
theorem sc_found : FnScope ["wanderers", "given", "now", "word"] ["wanderers", "given"] (defScope s_found) := ⟨rfl, rfl, rfl, by decide +kernel, rfl, by decide +kernel, by decide +kernel⟩
theorem ok_found (T : Tx K mg) (TB : TabsB K mg base) (F : FnP K d_found f fd) (G_most_exits : Has P w K mg 1 "most_exits" ["ways"] (sp_most_exits K)) (G_meeting_word : HasB P w K mg (TabsB K mg) 6 "meeting_word" ["ways", "u", "v", "later"] (sp_meeting_word K)) : FnOk P w K mg base CX0 8 f fd ["wanderers", "given"] (sp_c K is_found) := by
  refine F.ok sc_found (fun vs H Q E h => ?_) (fun cdv A outer s H vs Q E hr h => ⟨_, PSs.nox
    (pss_cons (ps_set (i := 2) sc_found.nd rfl (Or.inl rfl) (pe_fld (pv 0) rfl))
      (pss_cons (ps_if (PW.pt (pw_orI (pt_cmpR op_gt (pe_ix ix_list (pv 1) pe_int (fun _ _ => rfl)) (pe_gint T.c_MOST_LATER_FOUND) (nomark _)) (pw_or1 (pt_cmpR op_gt (pe_has G_most_exits hr (pa_cons (pe_fld (pv 2) rfl) pa_nil)) (pe_gint T.c_MOST_EXITS_FOUND) (nomark _))))) (pss_one (ps_ret (pe_lst (pa_cons (pe_gint T.c_TOO_MUCH) pa_nil)))) pss_nil)
      (pss_cons (ps_set (i := 3) sc_found.nd rfl (Or.inl rfl) (pe_hasB G_meeting_word TB hr (by decide) pass0 (by rfl) (pa_cons (pe_fld (pv 2) rfl) (pa_cons (pe_fld (pv 2) rfl) (pa_cons (pe_fld (pv 2) rfl) (pa_cons (pe_ix ix_list (pv 1) pe_int (fun _ _ => rfl)) pa_nil))))))
      (pss_cons (ps_if (pt_cmpR op_isN (pv 3) pe_non (nomark _)) (pss_one (ps_ret (pe_lst (pa_cons (pe_gint T.c_NOT_SO) pa_nil)))) pss_nil)
      (pss_one (ps_ret (pe_op op_cat (pe_lst (pa_cons (pe_callB call_len_seq (by rfl) T.f_len PySem.boot_len (pa_cons (pv 3) pa_nil)) pa_nil)) (pv 3)))))))), ?_⟩)
  · obtain ⟨X, ow, pp, g, s, m, c, _, rfl, _⟩ := h
    rfl
  · obtain ⟨X, ow, pp, g, s, m, c, ⟨d, rfl⟩, rfl, hT, hS, hn, hg, hgp, hj, q⟩ := h
    obtain ⟨dx, x0, dx0, lv, wv, us, how, hpp, hul, ⟨hx, hl, hw, hm⟩, hl', hx1, hx2⟩ := hS.now_is hn
    have hg : H g = some (.lst (vN [d])) := hg
    have hlu : m.a < (waysM m).length := by rw [hm.len]; exact hm.a
    have hlv : m.b < (waysM m).length := by rw [hm.len]; exact hm.b
    have hfew : (waysM m).length ≤ 7 := by rw [hm.len]; exact hm.few
    refine ⟨_, rfl, ow, CW K, dx, _, _, rfl, how, T.cl_Wanderers, T.na_now, rfl, ?_⟩
    refine or_isH (decide (2 < d)) (decide (4 < mostW (waysM m))) (fun R r => ⟨_, rfl, g, _, (0 : Int), _, rfl, rfl, SqL.of hg, at0, _, _, rfl, rfl, _, rfl, ?_⟩) (fun _ R r => ⟨_, rfl, x0, CM K, dx0, _, _, rfl, hx, T.cl_Moment, T.na_ways, rfl, wv, waysM m, rfl, hw, by omega, by omega, fun H' s' => ⟨_, _, rfl, rfl, _, rfl, ?_⟩⟩) fun H1 s1 => ?_
    · have e : decide ((2 : Int) < (d : Int)) = decide (2 < d) := decide_eq_decide.mpr (by omega)
      show R (decide ((2 : Int) < (d : Int))) H
      rw [e]
      exact r
    · have e : decide ((4 : Int) < (mostW (waysM m) : Int)) = decide (4 < mostW (waysM m)) := decide_eq_decide.mpr (by omega)
      show R (decide ((4 : Int) < (mostW (waysM m) : Int))) H'
      rw [e]
      exact r H' s'
    by_cases c1 : 2 < d ∨ 4 < mostW (waysM m)
    · have e : playW m s.past (.found d) = ((m, s.past), [-75]) := by simp only [playW, if_pos c1]
      refine if_true_of (by rw [Bool.or_eq_true, decide_eq_true_iff, decide_eq_true_iff]; exact c1) ⟨(by show 1 ≤ sizeLine; decide), fun r nr => ?_⟩
      exact rd_same hS hn hT q _ e _ r (s1.trans (Same.new nr)) (s1.free nr) upd_same
    · refine if_false_of (by rw [Bool.or_eq_false_iff, decide_eq_false_iff_not, decide_eq_false_iff_not]; exact ⟨fun z => c1 (.inl z), fun z => c1 (.inr z)⟩) ?_
      have hx' := s1 _ _ hx
      have hmw : mostW (waysM m) ≤ 4 := by omega
      have hd : d ≤ 2 := by omega
      refine ⟨_, rfl, x0, CM K, dx0, _, _, rfl, hx', T.cl_Moment, T.na_ways, rfl, _, rfl, x0, CM K, dx0, _, _, rfl, hx', T.cl_Moment, T.na_a, rfl, _, rfl, x0, CM K, dx0, _, _, rfl, hx', T.cl_Moment, T.na_b, rfl, _, rfl, g, _, (0 : Int), _, rfl, rfl, SqL.of (s1 _ _ hg), at0, wv, waysM m, m.a, m.b, d, rfl, hT.ext s1, hw.same s1, hm.ways, by omega, by omega, hlu, hlv, hd, fun H2 z e2 hT2 hz => ?_⟩
      cases c : meetW (waysM m) m.a m.b d with
      | none =>
        rw [c] at hz
        have hz : z = .non := hz
        subst hz
        have e : playW m s.past (.found d) = ((m, s.past), [-33]) := by simp only [playW, if_neg c1, c]
        refine ⟨_, rfl, rfl, _, rfl, if_true_of rfl ⟨(by show 1 ≤ sizeLine; decide), fun r nr => ?_⟩⟩
        exact rd_new hS hn hT2 q _ e (extN_trans (same_ext s1) e2) _ r (Same.new nr) nr upd_same
      | some l =>
        rw [c] at hz
        obtain ⟨p, rfl, hp⟩ := hz
        have e : playW m s.past (.found d) = ((m, s.past), nI l.length :: iN l) := by simp only [playW, if_neg c1, c]
        have hll : l.length ≤ 10000 := by
          have h0 : ∀ x ∈ List.replicate d 0, x < mostW (waysM m) + 1 := fun x hx => by
            rw [(List.mem_replicate.mp hx).2]
            omega
          have h1 := fw_len (few_mk3 hm.ways (m := mostW (waysM m) + 1) (d := d) (l := List.replicate d 0) hlu hlv List.length_replicate h0 _) c
          have h2 : (mostW (waysM m) + 1) ^ d ≤ 5 ^ 2 := Nat.le_trans (Nat.pow_le_pow_left (by omega) d) (Nat.pow_le_pow_right (by omega) hd)
          have h3 : (waysM m).length * ((waysM m).length * (mostW (waysM m) + 1) ^ d) ≤ 7 * (7 * 5 ^ 2) := Nat.mul_le_mul hfew (Nat.mul_le_mul hfew h2)
          have h4 : numM (waysM m).length (mostW (waysM m) + 1) d = (waysM m).length * ((waysM m).length * (mostW (waysM m) + 1) ^ d) := rfl
          omega
        refine ⟨_, rfl, rfl, _, rfl, if_false_of rfl ?_⟩
        refine ⟨_, rfl, p, _, rfl, .inl (SqL.of hp), (by show 1 ≤ sizeLine; decide), fun p2 np2 => ?_⟩
        have s3 : Same H2 (upd H2 p2 (.lst [.int (((vN l).length : Nat) : Int)])) := Same.new np2
        refine ⟨_, rfl, p2, p, _, _, rfl, rfl, upd_same, s3 _ _ hp, ?_, fun p3 np3 => ?_⟩
        · rw [vN_len]
          exact Nat.le_trans (show 1 + l.length ≤ 10001 by omega) (by decide)
        · refine rd_new hS hn hT2 q _ e (extN_trans (same_ext s1) e2) _ p3 (s3.trans (Same.new np3)) (s3.free np3) ?_
          rw [upd_same, List.map_cons, iN_V, vN_len]
          rfl
abbrev is_pebble (c : Cmd) : Prop := ∃ u v, c = .pebble u v
theorem sc_pebble : FnScope ["wanderers", "given", "now", "word"] ["wanderers", "given"] (defScope s_pebble) := ⟨rfl, rfl, rfl, by decide +kernel, rfl, by decide +kernel, by decide +kernel⟩
theorem ok_pebble (T : Tx K mg) (TB : TabsB K mg base) (F : FnP K d_pebble f fd) (G_pebble_word : HasB P w K mg (TabsB K mg) 6 "pebble_word" ["ways", "u", "v"] (sp_pebble_word K)) : FnOk P w K mg base CX0 8 f fd ["wanderers", "given"] (sp_c K is_pebble) := by
  refine F.ok sc_pebble (fun vs H Q E h => ?_) (fun cdv A outer s H vs Q E hr h => ⟨_, PSs.nox
    (pss_cons (ps_set (i := 2) sc_pebble.nd rfl (Or.inl rfl) (pe_fld (pv 0) rfl))
      (pss_cons (ps_if (pt_cmpR op_gt (pe_fld (pv 2) rfl) (pe_gint T.c_MOST_PLACES_PEBBLE) (nomark _)) (pss_one (ps_ret (pe_lst (pa_cons (pe_gint T.c_TOO_MUCH) pa_nil)))) pss_nil)
      (pss_cons (ps_set (i := 3) sc_pebble.nd rfl (Or.inl rfl) (pe_hasB G_pebble_word TB hr (by decide) pass0 (by rfl) (pa_cons (pe_fld (pv 2) rfl) (pa_cons (pe_ix ix_list (pv 1) pe_int (fun _ _ => rfl)) (pa_cons (pe_ix ix_list (pv 1) pe_int (fun _ _ => rfl)) pa_nil)))))
      (pss_cons (ps_if (pt_cmpR op_isN (pv 3) pe_non (nomark _)) (pss_one (ps_ret (pe_lst (pa_cons (pe_gint T.c_NONE_SUCH) pa_nil)))) pss_nil)
      (pss_one (ps_ret (pe_op op_cat (pe_lst (pa_cons (pe_callB call_len_seq (by rfl) T.f_len PySem.boot_len (pa_cons (pv 3) pa_nil)) pa_nil)) (pv 3)))))))), ?_⟩)
  · obtain ⟨X, ow, pp, g, s, m, c, _, rfl, _⟩ := h
    rfl
  · obtain ⟨X, ow, pp, g, s, m, c, ⟨u, v, rfl⟩, rfl, hT, hS, hn, hg, hgp, ⟨hu, hv⟩, q⟩ := h
    obtain ⟨dx, x0, dx0, lv, wv, us, how, hpp, hul, ⟨hx, hl, hw, hm⟩, hl', hx1, hx2⟩ := hS.now_is hn
    have hg : H g = some (.lst (vN [u, v])) := hg
    have hlu : u < (waysM m).length := by rw [hm.len]; exact hu
    have hlv : v < (waysM m).length := by rw [hm.len]; exact hv
    refine ⟨_, rfl, ow, CW K, dx, _, _, rfl, how, T.cl_Wanderers, T.na_now, rfl, ?_⟩
    refine ⟨_, rfl, x0, CM K, dx0, _, _, rfl, hx, T.cl_Moment, T.na_size, rfl, _, _, rfl, rfl, _, rfl, ?_⟩
    by_cases c1 : 5 < m.n
    · have e : playW m s.past (.pebble u v) = ((m, s.past), [-75]) := by simp only [playW, if_pos c1]
      refine if_true_of (decide_eq_true (by omega)) ⟨(by show 1 ≤ sizeLine; decide), fun r nr => ?_⟩
      exact rd_same hS hn hT q _ e _ r (Same.new nr) nr upd_same
    · refine if_false_of (decide_eq_false (by omega)) ?_
      have hn5 : (waysM m).length ≤ 5 := by rw [hm.len]; omega
      refine ⟨_, rfl, x0, CM K, dx0, _, _, rfl, hx, T.cl_Moment, T.na_ways, rfl, _, rfl, g, _, (0 : Int), _, rfl, rfl, SqL.of hg, at0, _, rfl, g, _, (1 : Int), _, rfl, rfl, SqL.of hg, at1, wv, waysM m, u, v, rfl, hT, hw, hm.ways, hn5, by have := hm.most; omega, hlu, hlv, fun H2 z e2 hT2 hz => ?_⟩
      cases c : pebW (waysM m) u v with
      | none =>
        rw [c] at hz
        have hz : z = .non := hz
        subst hz
        have e : playW m s.past (.pebble u v) = ((m, s.past), [-6]) := by simp only [playW, if_neg c1, c]
        refine ⟨_, rfl, rfl, _, rfl, if_true_of rfl ⟨(by show 1 ≤ sizeLine; decide), fun r nr => ?_⟩⟩
        exact rd_new hS hn hT2 q _ e e2 _ r (Same.new nr) nr upd_same
      | some l =>
        rw [c] at hz
        obtain ⟨p, rfl, hp⟩ := hz
        have e : playW m s.past (.pebble u v) = ((m, s.past), nI l.length :: iN l) := by simp only [playW, if_neg c1, c]
        have hll : l.length ≤ 10000 := by
          have h1 := fw_len (few_pb hm.ways (m := mostW (waysM m) + 2 + 1) (UPb_unless ⟨hlu, fun q e => by cases e⟩ ⟨hlv, fun q e => by cases e⟩) _) c
          have h2 : (waysM m).length * ((waysM m).length + 1) ≤ 5 * 6 := Nat.mul_le_mul hn5 (by omega)
          have h3 := Nat.mul_le_mul h2 h2
          have h4 : numP (waysM m).length = (waysM m).length * ((waysM m).length + 1) * ((waysM m).length * ((waysM m).length + 1)) + 1 := rfl
          omega
        refine ⟨_, rfl, rfl, _, rfl, if_false_of rfl ?_⟩
        refine ⟨_, rfl, p, _, rfl, .inl (SqL.of hp), (by show 1 ≤ sizeLine; decide), fun p2 np2 => ?_⟩
        have s3 : Same H2 (upd H2 p2 (.lst [.int (((vN l).length : Nat) : Int)])) := Same.new np2
        refine ⟨_, rfl, p2, p, _, _, rfl, rfl, upd_same, s3 _ _ hp, ?_, fun p3 np3 => ?_⟩
        · rw [vN_len]
          exact Nat.le_trans (show 1 + l.length ≤ 10001 by omega) (by decide)
        · refine rd_new hS hn hT2 q _ e e2 _ p3 (s3.trans (Same.new np3)) (s3.free np3) ?_
          rw [upd_same, List.map_cons, iN_V, vN_len]
          rfl
abbrev is_same (c : Cmd) : Prop := ∃ u v, c = .same u v
theorem sc_same : FnScope ["wanderers", "given", "names"] ["wanderers", "given"] (defScope s_same) := ⟨rfl, rfl, rfl, by decide +kernel, rfl, by decide +kernel, by decide +kernel⟩
theorem ok_same (T : Tx K mg) (F : FnP K d_same f fd) (G_naming : Has P w K mg 1 "naming" ["ways", "u", "v"] (sp_naming K)) : FnOk P w K mg base CX0 5 f fd ["wanderers", "given"] (sp_c K is_same) := by
  refine F.ok sc_same (fun vs H Q E h => ?_) (fun cdv A outer s H vs Q E hr h => ⟨_, PSs.nox
    (pss_cons (ps_set (i := 2) sc_same.nd rfl (Or.inl rfl) (pe_has G_naming hr (pa_cons (pe_fld (pe_fld (pv 0) rfl) rfl) (pa_cons (pe_ix ix_list (pv 1) pe_int (fun _ _ => rfl)) (pa_cons (pe_ix ix_list (pv 1) pe_int (fun _ _ => rfl)) pa_nil)))))
      (pss_cons (ps_if (pt_cmpR op_isN (pv 2) pe_non (nomark _)) (pss_one (ps_ret (pe_lst (pa_cons (pe_gint T.c_NOT_SO) pa_nil)))) pss_nil)
      (pss_one (ps_ret (pe_op op_cat (pe_lst (pa_cons (pe_callB call_len_seq (by rfl) T.f_len PySem.boot_len (pa_cons (pv 2) pa_nil)) pa_nil)) (pv 2)))))), ?_⟩)
  · obtain ⟨X, ow, pp, g, s, m, c, _, rfl, _⟩ := h
    rfl
  · obtain ⟨X, ow, pp, g, s, m, c, ⟨u, v, rfl⟩, rfl, hT, hS, hn, hg, hgp, ⟨hu, hv, hj⟩, q⟩ := h
    obtain ⟨dx, x0, dx0, lv, wv, us, how, hpp, hul, ⟨hx, hl, hw, hm⟩, hl', hx1, hx2⟩ := hS.now_is hn
    have hg : H g = some (.lst (vN [u, v])) := hg
    have hlu : u < (waysM m).length := by rw [hm.len]; exact hu
    have hlv : v < (waysM m).length := by rw [hm.len]; exact hv
    have hfew : (waysM m).length ≤ 7 := by rw [hm.len]; exact hm.few
    refine ⟨_, rfl, ow, CW K, dx, _, _, rfl, how, T.cl_Wanderers, T.na_now, rfl, x0, CM K, dx0, _, _, rfl, hx, T.cl_Moment, T.na_ways, rfl, _, rfl, g, _, (0 : Int), _, rfl, rfl, SqL.of hg, at0, _, rfl, g, _, (1 : Int), _, rfl, rfl, SqL.of hg, at1, wv, waysM m, u, v, rfl, hw, hm.ways, by omega, by have := hm.most; omega, hlu, hlv, fun p hp => jo_rch hm hj u p hu (by rw [hm.len] at hp; exact hp), fun H1 z s1 hz => ?_⟩
    cases c : namingW (waysM m) u v with
    | none =>
      rw [c] at hz
      have hz : z = .non := hz
      subst hz
      have e : playW m s.past (.same u v) = ((m, s.past), [-33]) := by simp only [playW, c]
      refine ⟨_, rfl, rfl, _, rfl, if_true_of rfl ⟨(by show 1 ≤ sizeLine; decide), fun r nr => ?_⟩⟩
      exact rd_same hS hn hT q _ e _ r (s1.trans (Same.new nr)) (s1.free nr) upd_same
    | some l =>
      rw [c] at hz
      obtain ⟨p, rfl, hp⟩ := hz
      have e : playW m s.past (.same u v) = ((m, s.past), nI l.length :: iN l) := by simp only [playW, c]
      have hll : l.length ≤ 7 := by
        obtain ⟨st, _, rfl⟩ := Option.map_eq_some_iff.mp c
        rw [List.length_map, List.length_range]
        exact hfew
      refine ⟨_, rfl, rfl, _, rfl, if_false_of rfl ?_⟩
      refine ⟨_, rfl, p, _, rfl, .inl (SqL.of hp), (by show 1 ≤ sizeLine; decide), fun p2 np2 => ?_⟩
      have s3 : Same H1 (upd H1 p2 (.lst [.int (((vN l).length : Nat) : Int)])) := Same.new np2
      refine ⟨_, rfl, p2, p, _, _, rfl, rfl, upd_same, s3 _ _ hp, ?_, fun p3 np3 => ?_⟩
      · rw [vN_len]
        exact Nat.le_trans (show 1 + l.length ≤ 8 by omega) (by decide)
      · refine rd_same hS hn hT q _ e _ p3 ((s1.trans s3).trans (Same.new np3)) ((s1.trans s3).free np3) ?_
        rw [upd_same, List.map_cons, iN_V, vN_len]
        rfl
end
end Nw
end
section
set_option maxRecDepth 100000
set_option maxHeartbeats 2000000
namespace Nw
open PySem PySem.Spec PyProof.Rows L2 LamX NdefX
theorem best_isSome {W : Ways} {h : Nat} {F : List Nat → Nat} : ∀ (os : List (List Nat)) (b : Option (Nat × List Nat)), ((∃ o ∈ os, (knownW W h o).isSome = true) ∨ b.isSome = true) → (os.foldl (bestStep W h F) b).isSome = true
  | [], b, hb => by
    rcases hb with ⟨o, ho, _⟩ | hb
    · cases ho
    · exact hb
  | o :: os, b, hb => by
    refine best_isSome os _ ?_
    have keep : b.isSome = true → (bestStep W h F b o).isSome = true := fun z => by
      unfold bestStep
      cases knownW W h o with
      | none => exact z
      | some l =>
        cases b with
        | none => rfl
        | some p =>
          show (if F l < p.1 then some (F l, o) else some p).isSome = true
          split <;> rfl
    rcases hb with ⟨x, hx, hk⟩ | hb
    · rcases List.mem_cons.mp hx with e | hx
      · right
        subst e
        unfold bestStep
        obtain ⟨l, hl⟩ := Option.isSome_iff_exists.mp hk
        rw [hl]
        cases b with
        | none => rfl
        | some p =>
          show (if F l < p.1 then some (F l, x) else some p).isSome = true
          split <;> rfl
      · exact .inl ⟨x, hx, hk⟩
    · exact .inr (keep hb)
theorem best_ex {m : Mom} (hm : MomOk m) (j : Jo m) {h : Nat} (hh : h < m.n) (F : List Nat → Nat) : ∃ p, bestW (waysM m) h F = some p := by
  have hl := hm.len
  obtain ⟨o, ho, hk⟩ := order_ex hm.ways hm.sym (fun a b ha hb => ⟨_, jo_rch hm j a b (by rw [hl] at ha; exact ha) (by rw [hl] at hb; exact hb)⟩) (home := h) (by rw [hl]; exact hh)
  exact Option.isSome_iff_exists.mp (best_isSome _ none (.inl ⟨o, ho, hk⟩))
theorem best_in {W : Ways} {h : Nat} {F : List Nat → Nat} : ∀ (os : List (List Nat)) (b : Option (Nat × List Nat)) (p : Nat × List Nat), os.foldl (bestStep W h F) b = some p → p.2 ∈ os ∨ b = some p
  | [], b, p, e => .inr e
  | o :: os, b, p, e => by
    rcases best_in os _ p e with c | c
    · exact .inl (List.mem_cons_of_mem _ c)
    · unfold bestStep at c
      cases hk : knownW W h o with
      | none =>
        rw [hk] at c
        exact .inr c
      | some l =>
        rw [hk] at c
        cases b with
        | none =>
          have c : some (F l, o) = some p := c
          cases c
          exact .inl List.mem_cons_self
        | some q =>
          have c : (if F l < q.1 then some (F l, o) else some q) = some p := c
          split at c
          · cases c
            exact .inl List.mem_cons_self
          · exact .inr c
theorem best_len {W : Ways} {h : Nat} {F : List Nat → Nat} {p : Nat × List Nat} (hn : W.length ≤ 6) (e : bestW W h F = some p) : p.2.length ≤ 6 := by
  rcases best_in _ _ p e with c | c
  · rw [(orders_in _ _ _ c).1]
    unfold allBut
    exact Nat.le_trans (List.length_filter_le _ _) (by rw [List.length_range]; exact hn)
  · cases c
theorem sorted_is (o : List Nat) {ns : List Int} (hp : ns.Perm (o.map fun n : Nat => (n : Int))) (hs : ns.Pairwise (· ≤ ·)) : ns = (o.mergeSort (· ≤ ·)).map fun n : Nat => (n : Int) := by
  have s2 : (o.mergeSort (· ≤ ·)).Pairwise (fun a b => a ≤ b) := by
    have := List.pairwise_mergeSort (le := fun a b : Nat => decide (a ≤ b)) (fun a b c h1 h2 => by
      rw [decide_eq_true_iff] at *
      omega) (fun a b => by
      rw [Bool.or_eq_true, decide_eq_true_iff, decide_eq_true_iff]
      omega) o
    exact this.imp fun h => of_decide_eq_true h
  refine (hp.trans ((List.mergeSort_perm o (fun a b : Nat => decide (a ≤ b))).map (fun n : Nat => (n : Int))).symm).eq_of_pairwise (le := fun a b => a ≤ b) (fun a b _ _ h1 h2 => Int.le_antisymm h1 h2) hs ?_
  rw [List.pairwise_map]
  exact s2.imp fun h => by omega
/-- a name of the module that holds an object -/
theorem pe_gref {X : Cx} {x : Str} {pos : Pos} {a : Addr} (h : X.mg x = some (.ref a)) (hg : Gl X x := by rfl) (hd : (x == ("__debug__" : Str)) = false := by decide) : PE X (.Name x pos) (tC (.ref a)) := pe_glob hg h rfl hd
section
variable {P : Program} {w : World} {K : PySem.W.Frag} {mg : Str → Option Value} {base : Heap} {f : Addr} {fd : FuncData}
abbrev is_soonest (c : Cmd) : Prop := ∃ h, c = .soonest h
theorem sc_soonest : FnScope ["wanderers", "given", "now", "best"] ["wanderers", "given"] (defScope s_soonest) := ⟨rfl, rfl, rfl, by decide +kernel, rfl, by decide +kernel, by decide +kernel⟩
theorem ok_soonest (T : Tx K mg) (F : FnP K d_soonest f fd) {fa : Addr} (m_at_worst : mg "at_worst" = some (.ref fa)) (HA : HeldA P w K mg 3 fa (spF K worstL)) (G_best_order : Has P w K mg 4 "best_order" ["ways", "home", "steps_of"] (sp_best_order P w K mg)) : FnOk P w K mg base CX0 8 f fd ["wanderers", "given"] (sp_c K is_soonest) := by
  refine F.ok sc_soonest (fun vs H Q E h => ?_) (fun cdv A outer s H vs Q E hr h => ⟨_, PSs.nox
    (pss_cons (ps_set (i := 2) sc_soonest.nd rfl (Or.inl rfl) (pe_fld (pv 0) rfl))
      (pss_cons (ps_if (pt_cmpR op_gt (pe_fld (pv 2) rfl) (pe_gint T.c_MOST_PLACES_LOOKED) (nomark _)) (pss_one (ps_ret (pe_lst (pa_cons (pe_gint T.c_TOO_MUCH) pa_nil)))) pss_nil)
      (pss_cons (ps_set (i := 3) sc_soonest.nd rfl (Or.inl rfl) (pe_has G_best_order hr (pa_cons (pe_fld (pv 2) rfl) (pa_cons (pe_ix ix_list (pv 1) pe_int (fun _ _ => rfl)) (pa_cons (pe_gref m_at_worst) pa_nil)))))
      (pss_one (ps_ret (pe_op op_cat (pe_lst (pa_cons (pe_ix ix_tup (pv 3) pe_int (fun _ _ => rfl)) pa_nil)) (pe_ix ix_tup (pv 3) pe_int (fun _ _ => rfl)))))))), ?_⟩)
  · obtain ⟨X, ow, pp, g, s, m, c, _, rfl, _⟩ := h
    rfl
  · obtain ⟨X, ow, pp, g, s, m, c, ⟨h, rfl⟩, rfl, hT, hS, hn, hg, hgp, ⟨hh, hj⟩, q⟩ := h
    obtain ⟨dx, x0, dx0, lv, wv, us, how, hpp, hul, ⟨hx, hl, hw, hm⟩, hl', hx1, hx2⟩ := hS.now_is hn
    have hg : H g = some (.lst (vN [h])) := hg
    have hlh : h < (waysM m).length := by rw [hm.len]; exact hh
    refine ⟨_, rfl, ow, CW K, dx, _, _, rfl, how, T.cl_Wanderers, T.na_now, rfl, ?_⟩
    refine ⟨_, rfl, x0, CM K, dx0, _, _, rfl, hx, T.cl_Moment, T.na_size, rfl, _, _, rfl, rfl, _, rfl, ?_⟩
    by_cases c1 : 6 < m.n
    · have e : playW m s.past (.soonest h) = ((m, s.past), [-75]) := by simp only [playW, if_pos c1]
      refine if_true_of (decide_eq_true (by omega)) ⟨(by show 1 ≤ sizeLine; decide), fun r nr => ?_⟩
      exact rd_same hS hn hT q _ e _ r (Same.new nr) nr upd_same
    · refine if_false_of (decide_eq_false (by omega)) ?_
      have hn6 : (waysM m).length ≤ 6 := by rw [hm.len]; omega
      obtain ⟨p, hp⟩ := best_ex hm hj hh worstL
      have hpl := best_len hn6 hp
      have e : playW m s.past (.soonest h) = ((m, s.past), nI p.1 :: iN p.2) := by simp only [playW, if_neg c1, hp]
      refine ⟨_, rfl, x0, CM K, dx0, _, _, rfl, hx, T.cl_Moment, T.na_ways, rfl, _, rfl, g, _, (0 : Int), _, rfl, rfl, SqL.of hg, at0, wv, fa, waysM m, h, worstL, rfl, HA, hw, hm.ways, hm.sym, hn6, by have := hm.most; omega, hlh, fun H1 z s1 hz => ?_⟩
      rw [hp] at hz
      obtain ⟨t, r, rfl, ht, hr2⟩ := hz
      refine ⟨_, rfl, t, _, (0 : Int), _, rfl, rfl, SqT.of ht, at0, (by show 1 ≤ sizeLine; decide), fun p2 np2 => ?_⟩
      have s3 : Same H1 (upd H1 p2 (.lst [.int (p.1 : Int)])) := Same.new np2
      refine ⟨_, rfl, t, _, (1 : Int), _, rfl, rfl, SqT.of (s3 _ _ ht), at1, p2, r, _, _, rfl, rfl, upd_same, s3 _ _ hr2, ?_, fun p3 np3 => ?_⟩
      · rw [vN_len]
        exact Nat.le_trans (show 1 + p.2.length ≤ 7 by omega) (by decide)
      · refine rd_same hS hn hT q _ e _ p3 ((s1.trans s3).trans (Same.new np3)) ((s1.trans s3).free np3) ?_
        rw [upd_same, List.map_cons, iN_V]
        rfl
abbrev is_mean (c : Cmd) : Prop := ∃ h, c = .mean h
theorem sc_mean : FnScope ["wanderers", "given", "now", "best"] ["wanderers", "given"] (defScope s_mean) := ⟨rfl, rfl, rfl, by decide +kernel, rfl, by decide +kernel, by decide +kernel⟩
theorem ok_mean (T : Tx K mg) (F : FnP K d_mean f fd) {fa : Addr} (m_all_together : mg "all_together" = some (.ref fa)) (HA : HeldA P w K mg 3 fa (spF K List.sum)) (G_best_order : Has P w K mg 4 "best_order" ["ways", "home", "steps_of"] (sp_best_order P w K mg)) : FnOk P w K mg base CX0 8 f fd ["wanderers", "given"] (sp_c K is_mean) := by
  refine F.ok sc_mean (fun vs H Q E h => ?_) (fun cdv A outer s H vs Q E hr h => ⟨_, PSs.nox
    (pss_cons (ps_set (i := 2) sc_mean.nd rfl (Or.inl rfl) (pe_fld (pv 0) rfl))
      (pss_cons (ps_if (pt_cmpR op_gt (pe_fld (pv 2) rfl) (pe_gint T.c_MOST_PLACES_LOOKED) (nomark _)) (pss_one (ps_ret (pe_lst (pa_cons (pe_gint T.c_TOO_MUCH) pa_nil)))) pss_nil)
      (pss_cons (ps_set (i := 3) sc_mean.nd rfl (Or.inl rfl) (pe_has G_best_order hr (pa_cons (pe_fld (pv 2) rfl) (pa_cons (pe_ix ix_list (pv 1) pe_int (fun _ _ => rfl)) (pa_cons (pe_gref m_all_together) pa_nil)))))
      (pss_one (ps_ret (pe_op op_cat (pe_lst (pa_cons (pe_ix ix_tup (pv 3) pe_int (fun _ _ => rfl)) pa_nil)) (pe_ix ix_tup (pv 3) pe_int (fun _ _ => rfl)))))))), ?_⟩)
  · obtain ⟨X, ow, pp, g, s, m, c, _, rfl, _⟩ := h
    rfl
  · obtain ⟨X, ow, pp, g, s, m, c, ⟨h, rfl⟩, rfl, hT, hS, hn, hg, hgp, ⟨hh, hj⟩, q⟩ := h
    obtain ⟨dx, x0, dx0, lv, wv, us, how, hpp, hul, ⟨hx, hl, hw, hm⟩, hl', hx1, hx2⟩ := hS.now_is hn
    have hg : H g = some (.lst (vN [h])) := hg
    have hlh : h < (waysM m).length := by rw [hm.len]; exact hh
    refine ⟨_, rfl, ow, CW K, dx, _, _, rfl, how, T.cl_Wanderers, T.na_now, rfl, ?_⟩
    refine ⟨_, rfl, x0, CM K, dx0, _, _, rfl, hx, T.cl_Moment, T.na_size, rfl, _, _, rfl, rfl, _, rfl, ?_⟩
    by_cases c1 : 6 < m.n
    · have e : playW m s.past (.mean h) = ((m, s.past), [-75]) := by simp only [playW, if_pos c1]
      refine if_true_of (decide_eq_true (by omega)) ⟨(by show 1 ≤ sizeLine; decide), fun r nr => ?_⟩
      exact rd_same hS hn hT q _ e _ r (Same.new nr) nr upd_same
    · refine if_false_of (decide_eq_false (by omega)) ?_
      have hn6 : (waysM m).length ≤ 6 := by rw [hm.len]; omega
      obtain ⟨p, hp⟩ := best_ex hm hj hh List.sum
      have hpl := best_len hn6 hp
      have e : playW m s.past (.mean h) = ((m, s.past), nI p.1 :: iN p.2) := by simp only [playW, if_neg c1, hp]
      refine ⟨_, rfl, x0, CM K, dx0, _, _, rfl, hx, T.cl_Moment, T.na_ways, rfl, _, rfl, g, _, (0 : Int), _, rfl, rfl, SqL.of hg, at0, wv, fa, waysM m, h, List.sum, rfl, HA, hw, hm.ways, hm.sym, hn6, by have := hm.most; omega, hlh, fun H1 z s1 hz => ?_⟩
      rw [hp] at hz
      obtain ⟨t, r, rfl, ht, hr2⟩ := hz
      refine ⟨_, rfl, t, _, (0 : Int), _, rfl, rfl, SqT.of ht, at0, (by show 1 ≤ sizeLine; decide), fun p2 np2 => ?_⟩
      have s3 : Same H1 (upd H1 p2 (.lst [.int (p.1 : Int)])) := Same.new np2
      refine ⟨_, rfl, t, _, (1 : Int), _, rfl, rfl, SqT.of (s3 _ _ ht), at1, p2, r, _, _, rfl, rfl, upd_same, s3 _ _ hr2, ?_, fun p3 np3 => ?_⟩
      · rw [vN_len]
        exact Nat.le_trans (show 1 + p.2.length ≤ 7 by omega) (by decide)
      · refine rd_same hS hn hT q _ e _ p3 ((s1.trans s3).trans (Same.new np3)) ((s1.trans s3).free np3) ?_
        rw [upd_same, List.map_cons, iN_V]
        rfl
abbrev is_known (c : Cmd) : Prop := ∃ h o, c = .known h o
theorem sc_known : FnScope ["wanderers", "given", "now", "order", "steps"] ["wanderers", "given"] (defScope s_known) := ⟨rfl, rfl, rfl, by decide +kernel, rfl, by decide +kernel, by decide +kernel⟩
theorem ok_known (T : Tx K mg) (F : FnP K d_known f fd) (G_all_but : Has P w K mg 1 "all_but" ["size", "home"] sp_all_but) (G_steps_known : Has P w K mg 3 "steps_known" ["ways", "home", "order"] (sp_steps_known K)) : FnOk P w K mg base CX0 5 f fd ["wanderers", "given"] (sp_c K is_known) := by
  refine F.ok sc_known (fun vs H Q E h => ?_) (fun cdv A outer s H vs Q E hr h => ⟨_, PSs.nox
    (pss_cons (ps_set (i := 2) sc_known.nd rfl (Or.inl rfl) (pe_fld (pv 0) rfl))
      (pss_cons (ps_set (i := 3) sc_known.nd rfl (Or.inl rfl) (pe_ix ix_list (pv 1) pe_int (fun _ _ => rfl)))
      (pss_cons (ps_if (pt_cmpR (op_neD hr.units) (pe_callB cr_sorted (by rfl) T.f_sorted (by decide +kernel) (pa_cons (pv 3) pa_nil)) (pe_has G_all_but hr (pa_cons (pe_fld (pv 2) rfl) (pa_cons (pe_ix ix_list (pv 1) pe_int (fun _ _ => rfl)) pa_nil))) (nomark _)) (pss_one (ps_ret (pe_lst (pa_cons (pe_gint T.c_WRONG) pa_nil)))) pss_nil)
      (pss_cons (ps_set (i := 4) sc_known.nd rfl (Or.inl rfl) (pe_has G_steps_known hr (pa_cons (pe_fld (pv 2) rfl) (pa_cons (pe_ix ix_list (pv 1) pe_int (fun _ _ => rfl)) (pa_cons (pv 3) pa_nil)))))
      (pss_cons (ps_if (pt_cmpR op_isN (pv 4) pe_non (nomark _)) (pss_one (ps_ret (pe_lst (pa_cons (pe_gint T.c_NOT_SO) pa_nil)))) pss_nil)
      (pss_one (ps_ret (pe_op op_cat (pe_lst (pa_cons (pe_callB call_len_seq (by rfl) T.f_len PySem.boot_len (pa_cons (pv 4) pa_nil)) pa_nil)) (pv 4))))))))), ?_⟩)
  · obtain ⟨X, ow, pp, g, s, m, c, _, rfl, _⟩ := h
    rfl
  · obtain ⟨X, ow, pp, g, s, m, c, ⟨h, o, rfl⟩, rfl, hT, hS, hn, ⟨rl, hg, hrl⟩, hgp, ⟨hh, hol⟩, q⟩ := h
    obtain ⟨dx, x0, dx0, lv, wv, us, how, hpp, hul, ⟨hx, hl, hw, hm⟩, hl', hx1, hx2⟩ := hS.now_is hn
    have hg : H g = some (.lst [.int (h : Int), .ref rl]) := hg
    have hlh : h < (waysM m).length := by rw [hm.len]; exact hh
    have hfew := hm.few
    refine ⟨_, rfl, ow, CW K, dx, _, _, rfl, how, T.cl_Wanderers, T.na_now, rfl, ?_⟩
    refine ⟨_, rfl, g, _, (1 : Int), _, rfl, rfl, SqL.of hg, at1, ?_⟩
    have ev : vN o = (o.map fun n : Nat => (n : Int)).map V.int := by
      rw [List.map_map]
      rfl
    refine ⟨_, rfl, rl, o.map fun n : Nat => (n : Int), rfl, SqL.of (by rw [← ev]; exact hrl), by rw [List.length_map]; omega, fun ns' ps hperm hpw nps => ?_⟩
    rw [sorted_is o hperm hpw, List.map_map]
    have s1 : Same H (upd H ps (.lst (((o.mergeSort (· ≤ ·)).map (V.int ∘ fun n : Nat => (n : Int)))))) := Same.new nps
    have hx' := s1 _ _ hx
    refine ⟨_, rfl, x0, CM K, dx0, _, _, rfl, hx', T.cl_Moment, T.na_size, rfl, _, rfl, g, _, (0 : Int), _, rfl, rfl, SqL.of (s1 _ _ hg), at0, m.n, h, rfl, by omega, fun H2 pb s2 npb hpb => ?_⟩
    have hps : H2 ps = some (.lst (vN (o.mergeSort (· ≤ ·)))) := s2 _ _ upd_same
    refine ⟨_, _, dp_nats (SqL.of hps), dp_nats (SqL.of hpb), shaped_of (lay_nats _), shaped_of (lay_nats _), _, rfl, ?_⟩
    rw [eqv_nats]
    have s12 := s1.trans s2
    by_cases c1 : o.mergeSort (· ≤ ·) = allBut m.n h
    · have c1' : ¬ (o.mergeSort (· ≤ ·) ≠ allBut m.n h) := fun z => z c1
      refine if_false_of (by rw [decide_eq_true c1]; rfl) ?_
      have hx2' := s2 _ _ hx'
      have hin : ∀ x ∈ o, x < (waysM m).length := fun x hx => by
        have := (List.mergeSort_perm o (fun a b : Nat => decide (a ≤ b))).mem_iff.mpr hx
        have c2 : o.mergeSort (fun a b : Nat => decide (a ≤ b)) = allBut m.n h := c1
        rw [c2] at this
        rw [hm.len]
        exact (allBut_mem.mp this).1
      refine ⟨_, rfl, x0, CM K, dx0, _, _, rfl, hx2', T.cl_Moment, T.na_ways, rfl, _, rfl, g, _, (0 : Int), _, rfl, rfl, SqL.of (s12 _ _ hg), at0, _, rfl, wv, .ref rl, waysM m, h, o, rfl, hw.same s12, hm.ways, hm.sym, by rw [hm.len]; omega, by have := hm.most; omega, ⟨rl, rfl, SqL.of (s12 _ _ hrl)⟩, hlh, hin, by omega, fun H3 s3 e3 => ?_, fun H3 t l s3 e3 nt ht => ?_⟩
      · have e : playW m s.past (.known h o) = ((m, s.past), [-33]) := by simp only [playW, if_neg c1', e3]
        refine ⟨_, rfl, rfl, _, rfl, if_true_of rfl ⟨(by show 1 ≤ sizeLine; decide), fun r nr => ?_⟩⟩
        exact rd_same hS hn hT q _ e _ r ((s12.trans s3).trans (Same.new nr)) ((s12.trans s3).free nr) upd_same
      · have e : playW m s.past (.known h o) = ((m, s.past), nI l.length :: iN l) := by simp only [playW, if_neg c1', e3]
        have hll : l.length ≤ 60 := by
          unfold knownW at e3
          obtain ⟨st, hst, rfl⟩ := Option.map_eq_some_iff.mp e3
          have h1 := (known_len _ hst).1
          rw [List.length_dropLast] at h1
          split
          · omega
          · rw [List.length_append, List.length_singleton]
            omega
        refine ⟨_, rfl, rfl, _, rfl, if_false_of rfl ?_⟩
        refine ⟨_, rfl, t, _, rfl, .inl (SqL.of ht), (by show 1 ≤ sizeLine; decide), fun p2 np2 => ?_⟩
        have s4 : Same H3 (upd H3 p2 (.lst [.int (((vN l).length : Nat) : Int)])) := Same.new np2
        have s124 := (s12.trans s3).trans s4
        refine ⟨_, rfl, p2, t, _, _, rfl, rfl, upd_same, s4 _ _ ht, ?_, fun p3 np3 => ?_⟩
        · rw [vN_len]
          exact Nat.le_trans (show 1 + l.length ≤ 61 by omega) (by decide)
        · refine rd_same hS hn hT q _ e _ p3 (s124.trans (Same.new np3)) (s124.free np3) ?_
          rw [upd_same, List.map_cons, iN_V, vN_len]
          rfl
    · have e : playW m s.past (.known h o) = ((m, s.past), [-22]) := by simp only [playW, if_pos c1]
      refine if_true_of (by rw [decide_eq_false c1]; rfl) ⟨(by show 1 ≤ sizeLine; decide), fun r nr => ?_⟩
      exact rd_same hS hn hT q _ e _ r (s12.trans (Same.new nr)) (s12.free nr) upd_same
end
end Nw
end
section
set_option maxRecDepth 100000
set_option maxHeartbeats 2000000
namespace Nw
open PySem PySem.Spec PyProof.Rows L2 LamX NdefX
theorem ifE_is {t : TT} {ta tb : TE} {σ : L2.St} {H : Hp} {Q : VK} (b : Bool) (v : V) (h1 : ∀ R : Bool → Hp → Prop, R b H → t σ H R) (h2 : b = true → ∀ R : VK, R v H → ta σ H R) (h3 : b = false → ∀ R : VK, R v H → tb σ H R) (q : Q v H) : tIfI t ta tb σ H Q := by
  rw [tIfI_eq]
  refine h1 _ ?_
  cases b with
  | true => exact if_true_of rfl (h2 rfl _ q)
  | false => exact if_false_of rfl (h3 rfl _ q)
theorem ifE_isH {t : TT} {ta tb : TE} {σ : L2.St} {H : Hp} {Q : VK} (b : Bool) (v : V) (h1 : ∀ R : Bool → Hp → Prop, (∀ H', Same H H' → R b H') → t σ H R) (h2 : b = true → ∀ (R : VK) H', R v H' → ta σ H' R) (h3 : b = false → ∀ (R : VK) H', R v H' → tb σ H' R) (q : ∀ H', Same H H' → Q v H') : tIfI t ta tb σ H Q := by
  rw [tIfI_eq]
  refine h1 _ fun H' s => ?_
  cases b with
  | true => exact if_true_of rfl (h2 rfl _ _ (q H' s))
  | false => exact if_false_of rfl (h3 rfl _ _ (q H' s))
section
variable {P : Program} {w : World} {K : PySem.W.Frag} {mg : Str → Option Value} {base : Heap} {f : Addr} {fd : FuncData}
abbrev is_state (c : Cmd) : Prop := c = .state
abbrev liesI (m : Mom) : Int := match m.p with | none => 0 | some v => nI (v + 1)
abbrev togB (m : Mom) : Bool := !(allFar (waysM m) 0).any (·.isNone)
abbrev togI (m : Mom) : Int := if togB m = true then 1 else 0
theorem sc_state : FnScope ["wanderers", "given", "now", "lies", "together", "answer", "u", "v"] ["wanderers", "given"] (defScope s_state) := ⟨rfl, rfl, rfl, by decide +kernel, rfl, by decide +kernel, by decide +kernel⟩
theorem ok_state (T : Tx K mg) (F : FnP K d_state f fd) (G_hangs_together : Has P w K mg 3 "hangs_together" ["ways"] (sp_hangs_together K)) : FnOk P w K mg base CX0 5 f fd ["wanderers", "given"] (sp_c K is_state) := by
  refine F.ok sc_state (fun vs H Q E h => ?_) (fun cdv A outer s H vs Q E hr h => ⟨_, PSs.nox
    (pss_cons (ps_set (i := 2) sc_state.nd rfl (Or.inl rfl) (pe_fld (pv 0) rfl))
      (pss_cons (ps_set (i := 3) sc_state.nd rfl (Or.inl rfl) (pe_ifExpI (pt_cmpR op_isN (pe_fld (pv 2) rfl) pe_non (nomark _)) pe_int (pe_op op_add (pe_fld (pv 2) rfl) pe_int)))
      (pss_cons (ps_set (i := 4) sc_state.nd rfl (Or.inl rfl) (pe_ifExpI (pt_val (pe_has G_hangs_together hr (pa_cons (pe_fld (pv 2) rfl) pa_nil))) pe_int pe_int))
      (pss_cons (ps_set (i := 5) sc_state.nd rfl (Or.inl rfl) (pe_lst (pa_cons (pe_fld (pv 2) rfl) (pa_cons (pe_fld (pv 2) rfl) (pa_cons (pe_fld (pv 2) rfl) (pa_cons (pv 3) (pa_cons (pv 4) (pa_cons (pe_callB call_len_seq (by rfl) T.f_len PySem.boot_len (pa_cons (pe_fld (pv 0) rfl) pa_nil)) (pa_cons (pe_callB call_len_seq (by rfl) T.f_len PySem.boot_len (pa_cons (pe_fld (pv 2) rfl) pa_nil)) pa_nil)))))))))
      (pss_cons (ps_for PassesOwn.never rfl (pi_tup (pe_fld (pv 2) rfl)) (pg_tup rfl (pgs_cons (pg_name (i := 6) sc_state.nd rfl (Or.inl rfl)) (pgs_cons (pg_name (i := 7) sc_state.nd rfl (Or.inl rfl)) pgs_nil))) (pss_one (ps_expr (pe_bm PySem.F.plainAttrs_list PySem.F.slot_list_extend PySem.F.type_list_extend mt_extend (pv 5) (pa_cons (pe_lst (pa_cons (pv 6) (pa_cons (pv 7) pa_nil))) pa_nil)))))
      (pss_one (ps_ret (pv 5)))))))), ?_⟩)
  · obtain ⟨X, ow, pp, g, s, m, c, _, rfl, _⟩ := h
    rfl
  · obtain ⟨X, ow, pp, g, s, m, c, rfl, rfl, hT, hS, hn, hg, hgp, _, q⟩ := h
    obtain ⟨dx, x0, dx0, lv, wv, us, how, hpp, hul, ⟨hx, hl, hw, hm⟩, hl', hx1, hx2⟩ := hS.now_is hn
    have hfew : (waysM m).length ≤ 7 := by rw [hm.len]; exact hm.few
    have hpos : 0 < (waysM m).length := by rw [hm.len]; exact hm.pos
    have hshort := hm.short
    obtain ⟨a, xs, rfl, sq, al⟩ := hl.tup_of
    have hxl : xs.length = m.links.length := by rw [al.len, List.length_map]
    have fin := rd_same hS hn hT q _ rfl
    refine ⟨_, rfl, ow, CW K, dx, _, _, rfl, how, T.cl_Wanderers, T.na_now, rfl, ?_⟩
    refine ifE_is (decide (m.p = none)) (.int (liesI m)) (fun R r => ⟨_, rfl, x0, CM K, dx0, _, _, rfl, hx, T.cl_Moment, T.na_pebble, rfl, rfl, _, rfl, by rw [dec_oVN]; exact r⟩) (fun c R r => ?_) (fun c R r => ⟨_, rfl, x0, CM K, dx0, _, _, rfl, hx, T.cl_Moment, T.na_pebble, rfl, ?_⟩) ?_
    · have c := of_decide_eq_true c
      unfold liesI at r
      rw [c] at r
      exact r
    · cases e : m.p with
      | none => rw [e] at c; cases c
      | some v =>
        unfold liesI at r
        rw [e] at r
        exact ⟨_, _, rfl, rfl, r⟩
    refine ifE_isH (togB m) (.int (togI m)) (fun R r => ⟨_, rfl, x0, CM K, dx0, _, _, rfl, hx, T.cl_Moment, T.na_ways, rfl, wv, waysM m, rfl, hw, hm.ways, by omega, hpos, fun H' s' => ⟨_, rfl, r H' s'⟩⟩) (fun c R H' r => ?_) (fun c R H' r => ?_) fun H1 s1 => ?_
    · unfold togI at r
      rw [if_pos c] at r
      exact r
    · unfold togI at r
      rw [c, if_neg Bool.false_ne_true] at r
      exact r
    have hx' := s1 _ _ hx
    refine ⟨_, rfl, x0, CM K, dx0, _, _, rfl, hx', T.cl_Moment, T.na_size, rfl, _, rfl, x0, CM K, dx0, _, _, rfl, hx', T.cl_Moment, T.na_a, rfl, _, rfl, x0, CM K, dx0, _, _, rfl, hx', T.cl_Moment, T.na_b, rfl, _, rfl, _, rfl, _, rfl, ow, CW K, dx, _, _, rfl, s1 _ _ how, T.cl_Wanderers, T.na_past, rfl, pp, us, rfl, .inl (SqL.of (s1 _ _ hpp)), _, rfl, x0, CM K, dx0, _, _, rfl, hx', T.cl_Moment, T.na_links, rfl, a, xs, rfl, .inr (s1.keep.sqT sq), (by show 7 ≤ sizeLine; decide), fun p np => ?_⟩
    have np0 : H p = none := s1.free np
    have hx2 : upd H1 p (.lst [.int (m.n : Int), .int (m.a : Int), .int (m.b : Int), .int (liesI m), .int (togI m), .int ((us.length : Nat) : Int), .int ((xs.length : Nat) : Int)]) x0 = some (.ins (CM K) dx0 (fsM m (.ref a) wv)) := Same.new np _ _ hx'
    refine ⟨_, rfl, x0, CM K, dx0, _, _, rfl, hx2, T.cl_Moment, T.na_links, rfl, a, rfl, ⟨_, (s1.trans (Same.new np)).keep.sqT sq⟩, for_tup (K := K) (a := a) (xs := xs) (fun i σ H' => ∃ z2 z3 : Option V, σ = [some (.ref ow), some (.ref g), some (.ref x0), some (.int (liesI m)), some (.int (togI m)), some (.ref p), z2, z3] ∧ Same H H' ∧
        H' p = some (.lst ([.int (m.n : Int), .int (m.a : Int), .int (m.b : Int), .int (liesI m), .int (togI m), .int ((us.length : Nat) : Int), .int ((xs.length : Nat) : Int)] ++ vP (m.links.take i))))
      ⟨none, none, rfl, s1.upd np0, by rw [upd_same]; rfl⟩ (fun i σ H' _ ⟨_, _, _, s5, _⟩ => s5.keep.sqT sq) ?_ ?_⟩
    · rintro i y σ H3 hi ⟨z2, z3, rfl, s3, hp⟩
      have hil := (List.getElem?_eq_some_iff.mp hi).1
      obtain ⟨d, hd1, hd2⟩ := al.getV hi
      rw [List.getElem?_map] at hd1
      obtain ⟨pr, hpr, rfl⟩ := Option.map_eq_some_iff.mp hd1
      obtain ⟨c1, zs, rfl, sq3, al3⟩ := hd2.tup_of
      have ezs : zs = [.int (pr.1 : Int), .int (pr.2 : Int)] := DpAll.ints [(pr.1 : Int), (pr.2 : Int)] al3
      subst ezs
      refine ⟨c1, _, rfl, s3.keep.sqT sq3, rfl, _, _, rfl, _, _, rfl, rfl, ?_⟩
      refine ⟨_, rfl, .inl ⟨rfl, _, SqL.of hp⟩, _, rfl, _, rfl, (by show 2 ≤ sizeLine; decide), fun t nt => ?_⟩
      have s4 : Same H3 (upd H3 t (.lst [.int (pr.1 : Int), .int (pr.2 : Int)])) := Same.new nt
      refine ⟨p, t, _, _, rfl, rfl, s4 _ _ hp, upd_same, ?_, ?_⟩
      · rw [List.length_append, vP_len, List.length_take]
        refine Nat.le_trans (m := 29) ?_ (by decide)
        show 7 + 2 * min i m.links.length + 2 ≤ 29
        omega
      · refine ⟨_, _, rfl, (s3.trans s4).upd np0, ?_⟩
        rw [upd_same, take_more hpr, vP_snoc, List.append_assoc, List.append_assoc]
        rfl
    · rintro σ H3 ⟨z2, z3, rfl, s3, hp⟩
      rw [hxl, List.take_length] at hp
      refine ⟨_, rfl, fin _ p s3 np0 ?_⟩
      rw [hp, hul, List.map_append, iP_V]
      rfl
end
end Nw
end
section
set_option maxRecDepth 100000
set_option maxHeartbeats 2000000
namespace Nw
open PySem PySem.Spec PyProof.Rows L2 LamX NdefX
def tabN : List (Str × Nat × Nat × Nat × Bool) := [("begin", 1, 0, 0, false), ("link", 2, 2, 0, false), ("unlink", 1, 0, 0, false), ("stand", 2, 2, 0, false), ("step", 2, 0, 0, false), ("put", 0, 0, 0, false), ("take", 0, 0, 0, false), ("back", 0, 0, 0, false),
  ("looks", 1, 0, 0, false), ("exits", 1, 1, 0, false), ("walk", 1, 1, 1, false), ("apart", 2, 2, 0, false), ("classes", 0, 0, 0, false), ("distance", 2, 2, 0, false), ("near", 2, 2, 0, true), ("meets", 1, 0, 1, false), ("can", 1, 0, 0, true), ("found", 1, 0, 0, true),
  ("soonest", 1, 1, 0, true), ("mean", 1, 1, 0, true), ("known", 1, 1, 1, false), ("pebble", 2, 2, 0, false), ("same", 2, 2, 0, true), ("count", 0, 0, 0, false), ("state", 0, 0, 0, false)]
theorem callRows_tab : callRows = tabN.map fun r => (r.1, (r.2.1 : Int), (r.2.2.1 : Int), (r.2.2.2.1 : Int), r.2.2.2.2) := rfl
def tabR (p : Nat) : Str × Nat × Nat × Nat × Bool := tabN.getD p ("", 0, 0, 0, false)
def nums (p : Nat) : Nat := (tabR p).2.1
def plcs (p : Nat) : Nat := (tabR p).2.2.1
def rws (p : Nat) : Nat := (tabR p).2.2.2.1
def jnd (p : Nat) : Bool := (tabR p).2.2.2.2
theorem rows_at {p : Nat} (h : p < 25) : callRows[p]? = some ((tabR p).1, (nums p : Int), (plcs p : Int), (rws p : Int), jnd p) := by
  rw [callRows_tab, List.getElem?_map]
  have hl : p < tabN.length := h
  have e : tabN[p]? = some (tabR p) := by
    unfold tabR
    rw [List.getD_eq_getElem?_getD, List.getElem?_eq_getElem hl]
    rfl
  rw [e]
  rfl
theorem callB_is {K : PySem.W.Frag} {r : Str × Int × Int × Int × Bool} {v : Value} (h : callB K r v = true) : ∃ a, v = .ref a ∧ ∀ H, SqT K H a [.ref (He.ga K r.1), .int r.2.1, .int r.2.2.1, .int r.2.2.2.1, .bl r.2.2.2.2] := by
  unfold callB at h
  split at h
  · rename_i a
    refine ⟨a, rfl, fun H => ?_⟩
    split at h
    · rename_i c d its n sl hk
      rw [Bool.and_eq_true, decide_eq_true_iff] at h
      obtain ⟨hc, h⟩ := h
      split at h
      · rename_i f i ti j tj k tk b hits
        simp only [Bool.and_eq_true, decide_eq_true_iff] at h
        obtain ⟨h1, h2, h3, h4, h5⟩ := h
        refine .inr ⟨_, its, n, hk, by rw [hc], rfl, ?_, ?_⟩
        · have : its.toList.length = 5 := by rw [hits]; rfl
          rw [Array.length_toList] at this
          rw [this]
          decide
        · rw [hits, ← h1, ← h2, ← h3, ← h4, ← h5]
          exact .cons rfl (.cons ⟨_, rfl⟩ (.cons ⟨_, rfl⟩ (.cons ⟨_, rfl⟩ (.cons rfl .nil))))
      · cases h
    · cases h
  · cases h
theorem callsAll_is {K : PySem.W.Frag} : ∀ {rs : List (Str × Int × Int × Int × Bool)} {vs : List Value}, callsAll K rs vs = true → ∃ as : List Addr, vs = as.map Value.ref ∧ as.length = rs.length ∧ ∀ (i : Nat) (r : Str × Int × Int × Int × Bool), rs[i]? = some r → ∃ a, as[i]? = some a ∧ ∀ H, SqT K H a [.ref (He.ga K r.1), .int r.2.1, .int r.2.2.1, .int r.2.2.2.1, .bl r.2.2.2.2]
  | [], [], _ => ⟨[], rfl, rfl, fun i r h => by simp at h⟩
  | [], _ :: _, h => by cases h
  | _ :: _, [], h => by cases h
  | r :: rs, v :: vs, h => by
    have h : (callB K r v && callsAll K rs vs) = true := h
    rw [Bool.and_eq_true] at h
    obtain ⟨a, rfl, ha⟩ := callB_is h.1
    obtain ⟨as, rfl, hl, has⟩ := callsAll_is h.2
    refine ⟨a :: as, rfl, by simp [hl], fun i r' hi => ?_⟩
    cases i with
    | zero =>
      cases hi
      exact ⟨a, rfl, ha⟩
    | succ i => exact has i r' hi
/-- the table stands in the module -/
structure CallsAt (K : PySem.W.Frag) (xs : List V) : Prop where
  tup : ∀ H, SqT K H (He.ga K "CALLS") xs
  row : ∀ p, p < 25 → ∃ a, xs[p]? = some (.ref a) ∧ ∀ H, SqT K H a [.ref (He.ga K (tabR p).1), .int (nums p : Int), .int (plcs p : Int), .int (rws p : Int), .bl (jnd p)]
theorem calls_at {K : PySem.W.Frag} (h : callsB K = true) : ∃ xs, CallsAt K xs := by
  unfold callsB at h
  split at h
  · rename_i c d its n sl hk
    rw [Bool.and_eq_true, decide_eq_true_iff] at h
    obtain ⟨hc, h⟩ := h
    obtain ⟨as, e, hl, has⟩ := callsAll_is h
    refine ⟨as.map V.ref, fun H => ?_, fun p hp => ?_⟩
    · refine .inr ⟨_, its, n, hk, by rw [hc], rfl, ?_, ?_⟩
      · have : its.toList.length = 25 := by rw [e, List.length_map, hl]; rfl
        rw [Array.length_toList] at this
        rw [this]
        decide
      · rw [e]
        have key : ∀ as : List Addr, Vals (as.map V.ref) (as.map Value.ref) := by
          intro as
          induction as with
          | nil => exact .nil
          | cons a as ih => exact .cons rfl ih
        exact key as
    · obtain ⟨a, h1, h2⟩ := has p _ (rows_at hp)
      exact ⟨a, by rw [List.getElem?_map, h1]; rfl, h2⟩
  · cases h
theorem at2 {u v x : V} {l : List V} : atI (u :: v :: x :: l) 2 = some x := at_nat (i := 2) rfl
theorem at3 {u v x y : V} {l : List V} : atI (u :: v :: x :: y :: l) 3 = some y := at_nat (i := 3) rfl
theorem at4 {u v x y z : V} {l : List V} : atI (u :: v :: x :: y :: z :: l) 4 = some z := at_nat (i := 4) rfl
theorem cut_mid (xs : List V) (i j : Nat) : cutV xs (some (i : Int)) (some (j : Int)) = (xs.drop i).take (j - i) := by
  unfold cutV
  rw [HT.sIx_nat, HT.sIx_nat]
  rcases Nat.le_total i xs.length with c | c
  · rw [Nat.min_eq_left c]
    rcases Nat.le_total j xs.length with d | d
    · rw [Nat.min_eq_left d]
    · rw [Nat.min_eq_right d, List.take_of_length_le (by rw [List.length_drop]; exact Nat.le_refl _), List.take_of_length_le (by rw [List.length_drop]; omega)]
  · rw [Nat.min_eq_right c, List.drop_of_length_le (Nat.le_refl _), List.drop_of_length_le c, List.take_nil, List.take_nil]
theorem vN_drop (l : List Nat) (i : Nat) : (vN l).drop i = vN (l.drop i) := by rw [vN, vN, List.map_drop]
theorem vN_take (l : List Nat) (i : Nat) : (vN l).take i = vN (l.take i) := by rw [vN, vN, List.map_take]
/-- how many numbers the call has that stands there -/
def callLen (ns : List Nat) (at_ : Nat) : Nat := 1 + nums (ns.getD at_ 0) + if rws (ns.getD at_ 0) = 1 then 1 + ns.getD (at_ + 1 + nums (ns.getD at_ 0)) 0 else 0
def callArgs (ns : List Nat) (at_ : Nat) : List Nat := (ns.drop (at_ + 1)).take (nums (ns.getD at_ 0))
def callRow (ns : List Nat) (at_ : Nat) : List Nat := (ns.drop (at_ + 1 + nums (ns.getD at_ 0) + 1)).take (ns.getD (at_ + 1 + nums (ns.getD at_ 0)) 0)
def callRowO (ns : List Nat) (at_ : Nat) : Option (List Nat) := if rws (ns.getD at_ 0) = 1 then some (callRow ns at_) else none
theorem getD_of' {c : List Nat} {i v : Nat} (h : c[i]? = some v) : c.getD i 0 = v := getD_of h
section
variable {P : Program} {w : World} {K : PySem.W.Frag} {mg : Str → Option Value} {base : Heap} {f : Addr} {fd : FuncData}
/-- a call stands there -/
abbrev CallOk (ns : List Nat) (at_ : Nat) : Prop := ∃ p, ns[at_]? = some p ∧ p < 25 ∧ (rws p = 1 → at_ + 1 + nums p < ns.length)
def sp_length_of (K : PySem.W.Frag) : Sp := fun vs H Q _ => ∃ (ca : Addr) (ns : List Nat) (at_ : Nat), vs = [.ref ca, .int at_] ∧ SqL K H ca (vN ns) ∧ CallOk ns at_ ∧ Q (.int (callLen ns at_ : Nat)) H
theorem sc_length_of : FnScope ["calls", "at", "call", "length"] ["calls", "at"] (defScope s_length_of) := ⟨rfl, rfl, rfl, by decide +kernel, rfl, by decide +kernel, by decide +kernel⟩
theorem ok_length_of (T : Tx K mg) (CA : callsB K = true) (F : FnP K d_length_of f fd) : FnOk P w K mg base CX0 1 f fd ["calls", "at"] (sp_length_of K) := by
  obtain ⟨cs, C⟩ := calls_at CA
  refine F.ok sc_length_of (fun vs H Q E h => ?_) (fun cdv A outer s H vs Q E hr h => ⟨_, PSs.nox
    (pss_cons (ps_set (i := 2) sc_length_of.nd rfl (Or.inl rfl) (pe_ix ix_tup (pe_gref T.g_CALLS) (pe_ix ix_list (pv 0) (pv 1) (fun _ _ => rfl)) (fun _ _ => rfl)))
      (pss_cons (ps_set (i := 3) sc_length_of.nd rfl (Or.inl rfl) (pe_op op_add pe_int (pe_ix ix_tup (pv 2) pe_int (fun _ _ => rfl))))
      (pss_cons (ps_if (pt_cmpR op_eq (pe_ix ix_tup (pv 2) pe_int (fun _ _ => rfl)) pe_int (nomark _)) (pss_one (ps_set (i := 3) sc_length_of.nd rfl (Or.inl rfl) (pe_op op_add (pe_op op_add (pv 3) pe_int) (pe_ix ix_list (pv 0) (pe_op op_add (pv 1) (pv 3)) (fun _ _ => rfl))))) pss_nil)
      (pss_one (ps_ret (pv 3)))))), ?_⟩)
  · obtain ⟨ca, ns, at_, rfl, _⟩ := h
    rfl
  · obtain ⟨ca, ns, at_, rfl, hc, ⟨p, hp, h25, hrw⟩, q⟩ := h
    obtain ⟨a, ha, sa⟩ := C.row p h25
    refine ⟨_, rfl, _, rfl, ca, _, (at_ : Int), _, rfl, rfl, hc, at_nat (vN_get hp), _, cs, (p : Int), _, rfl, rfl, C.tup H, at_nat ha, ?_⟩
    refine ⟨_, rfl, a, _, (1 : Int), _, rfl, rfl, sa H, at1, _, _, rfl, rfl, ?_⟩
    refine ⟨_, rfl, a, _, (3 : Int), _, rfl, rfl, sa H, at3, rfl, _, rfl, ?_⟩
    rw [show decide (V.int ((rws p : Nat) : Int) = V.int 1) = decide (rws p = 1) from dec_nat _ 1]
    unfold callLen at q
    rw [getD_of' hp] at q
    by_cases c : rws p = 1
    · rw [if_pos c] at q
      obtain ⟨k, hk⟩ : ∃ k, ns[at_ + 1 + nums p]? = some k := ⟨_, List.getElem?_eq_getElem (hrw c)⟩
      rw [getD_of' hk] at q
      refine if_true_of (decide_eq_true c) ?_
      refine ⟨_, rfl, _, _, rfl, rfl, _, rfl, _, rfl, _, rfl, _, _, rfl, rfl, ca, _, (at_ + 1 + nums p : Nat), _, rfl, ?_, hc, at_nat (vN_get hk), _, _, rfl, rfl, _, rfl, ?_⟩
      · show V.int ((at_ : Int) + (1 + (nums p : Int))) = V.int ((at_ + 1 + nums p : Nat) : Int)
        exact congrArg V.int (by omega)
      · have e : ((1 + nums p + (1 + k) : Nat) : Int) = 1 + (nums p : Int) + 1 + (k : Int) := by omega
        rw [e] at q
        exact q
    · rw [if_neg c] at q
      refine if_false_of (decide_eq_false c) ⟨_, rfl, ?_⟩
      have e : ((1 + nums p + 0 : Nat) : Int) = 1 + (nums p : Int) := by omega
      rw [e] at q
      exact q
def sp_arguments_of (K : PySem.W.Frag) : Sp := fun vs H Q _ => ∃ (ca : Addr) (ns : List Nat) (at_ : Nat), vs = [.ref ca, .int at_] ∧ SqL K H ca (vN ns) ∧ CallOk ns at_ ∧ ∀ H' g, Same H H' → H g = none → GAt H' g (callArgs ns at_) (callRowO ns at_) → Q (.ref g) H'
theorem sc_arguments_of : FnScope ["calls", "at", "call", "row_at", "given"] ["calls", "at"] (defScope s_arguments_of) := ⟨rfl, rfl, rfl, by decide +kernel, rfl, by decide +kernel, by decide +kernel⟩
theorem nums_le {p : Nat} (h : p < 25) : nums p ≤ 2 := by
  have : ∀ p, p < 25 → nums p ≤ 2 := by decide
  exact this p h
theorem ok_arguments_of (T : Tx K mg) (CA : callsB K = true) (F : FnP K d_arguments_of f fd) : FnOk P w K mg base CX0 1 f fd ["calls", "at"] (sp_arguments_of K) := by
  obtain ⟨cs, C⟩ := calls_at CA
  refine F.ok sc_arguments_of (fun vs H Q E h => ?_) (fun cdv A outer s H vs Q E hr h => ⟨_, PSs.nox
    (pss_cons (ps_set (i := 2) sc_arguments_of.nd rfl (Or.inl rfl) (pe_ix ix_tup (pe_gref T.g_CALLS) (pe_ix ix_list (pv 0) (pv 1) (fun _ _ => rfl)) (fun _ _ => rfl)))
      (pss_cons (ps_set (i := 3) sc_arguments_of.nd rfl (Or.inl rfl) (pe_op op_add (pe_op op_add (pv 1) pe_int) (pe_ix ix_tup (pv 2) pe_int (fun _ _ => rfl))))
      (pss_cons (ps_set (i := 4) sc_arguments_of.nd rfl (Or.inl rfl) (pe_slice sl_list (pv 0) (po_some (pe_op op_add (pv 1) pe_int)) (po_some (pv 3))))
      (pss_cons (ps_if (pt_cmpR op_eq (pe_ix ix_tup (pv 2) pe_int (fun _ _ => rfl)) pe_int (nomark _)) (pss_one (ps_expr (pe_bm PySem.F.plainAttrs_list PySem.F.slot_list_append PySem.F.type_list_append mt_append (pv 4) (pa_cons (pe_slice sl_list (pv 0) (po_some (pe_op op_add (pv 3) pe_int)) (po_some (pe_op op_add (pe_op op_add (pv 3) pe_int) (pe_ix ix_list (pv 0) (pv 3) (fun _ _ => rfl))))) pa_nil)))) pss_nil)
      (pss_one (ps_ret (pv 4))))))), ?_⟩)
  · obtain ⟨ca, ns, at_, rfl, _⟩ := h
    rfl
  · obtain ⟨ca, ns, at_, rfl, hc, ⟨p, hp, h25, hrw⟩, q⟩ := h
    obtain ⟨a, ha, sa⟩ := C.row p h25
    have hnum := nums_le h25
    unfold callArgs callRowO callRow at q
    rw [getD_of' hp] at q
    refine ⟨_, rfl, _, rfl, ca, _, (at_ : Int), _, rfl, rfl, hc, at_nat (vN_get hp), _, cs, (p : Int), _, rfl, rfl, C.tup H, at_nat ha, ?_⟩
    refine ⟨_, rfl, _, _, rfl, rfl, _, rfl, a, _, (1 : Int), _, rfl, rfl, sa H, at1, _, _, rfl, rfl, ?_⟩
    have e1 : (at_ : Int) + 1 = ((at_ + 1 : Nat) : Int) := by omega
    have e2 : (at_ : Int) + 1 + (nums p : Int) = ((at_ + 1 + nums p : Nat) : Int) := by omega
    show gName 3 (V.int ((at_ : Int) + 1 + (nums p : Int))) _ _ _
    rw [e2]
    refine ⟨_, rfl, _, rfl, _, _, rfl, rfl, _, rfl, _, rfl, _, rfl, ca, _, rfl, hc, fun g ng => ?_⟩
    rw [e1, cut_mid, vN_drop, vN_take, show at_ + 1 + nums p - (at_ + 1) = nums p by omega]
    have s1 : Same H (upd H g (.lst (vN ((ns.drop (at_ + 1)).take (nums p))))) := Same.new ng
    refine ⟨_, rfl, a, _, (3 : Int), _, rfl, rfl, sa _, at3, rfl, _, rfl, ?_⟩
    rw [show decide (V.int ((rws p : Nat) : Int) = V.int 1) = decide (rws p = 1) from dec_nat _ 1]
    by_cases c : rws p = 1
    · rw [if_pos c] at q
      obtain ⟨k, hk⟩ : ∃ k, ns[at_ + 1 + nums p]? = some k := ⟨_, List.getElem?_eq_getElem (hrw c)⟩
      rw [getD_of' hk] at q
      refine if_true_of (decide_eq_true c) ?_
      have hc1 := s1.keep.sqL hc
      refine ⟨_, rfl, .inl ⟨rfl, _, SqL.of upd_same⟩, _, rfl, _, rfl, _, _, rfl, rfl, _, rfl, _, rfl, _, _, rfl, rfl, _, rfl, _, rfl, ca, _, (at_ + 1 + nums p : Nat), _, rfl, rfl, hc1, at_nat (vN_get hk), _, _, rfl, rfl, _, rfl, ca, _, rfl, hc1, fun rl nrl => ?_⟩
      have e3 : ((at_ + 1 + nums p : Nat) : Int) + 1 = ((at_ + 1 + nums p + 1 : Nat) : Int) := by omega
      have e4 : ((at_ + 1 + nums p : Nat) : Int) + 1 + (k : Int) = ((at_ + 1 + nums p + 1 + k : Nat) : Int) := by omega
      rw [e4, e3, cut_mid, vN_drop, vN_take, show at_ + 1 + nums p + 1 + k - (at_ + 1 + nums p + 1) = k by omega]
      have hgr : g ≠ rl := fun z => by rw [← z, upd_same] at nrl; cases nrl
      have nrl0 : H rl = none := s1.free nrl
      refine ⟨g, _, _, rfl, rfl, Same.new nrl _ _ upd_same, ?_, ?_⟩
      · rw [vN_len, List.length_take]
        exact Nat.lt_of_le_of_lt (show _ ≤ 2 by omega) (by decide)
      · refine ⟨_, rfl, q _ g ((s1.trans (Same.new nrl)).upd ng) ng ⟨rl, upd_same, ?_⟩⟩
        rw [upd_ne (Ne.symm hgr), upd_same]
    · rw [if_neg c] at q
      exact if_false_of (decide_eq_false c) ⟨_, rfl, q _ g s1 ng upd_same⟩
end
end Nw
end
section
set_option maxRecDepth 100000
set_option maxHeartbeats 2000000
namespace Nw
open PySem PySem.Spec PyProof.Rows L2 LamX NdefX
def numC : Cmd → Nat
  | .begin_ _ => 0
  | .link _ _ => 1
  | .unlink _ => 2
  | .stand _ _ => 3
  | .step _ _ => 4
  | .put => 5
  | .take => 6
  | .back => 7
  | .looks _ => 8
  | .exits _ => 9
  | .walk _ _ => 10
  | .apart _ _ => 11
  | .classes => 12
  | .distance _ _ => 13
  | .shrink _ _ => 14
  | .meets _ _ => 15
  | .can _ => 16
  | .found _ => 17
  | .soonest _ => 18
  | .mean _ => 19
  | .known _ _ => 20
  | .pebble _ _ => 21
  | .same _ _ => 22
  | .count => 23
  | .state => 24
def begOf : Cmd → Option Nat
  | .begin_ n => some n
  | _ => none
theorem numC_lt (c : Cmd) : numC c < 25 := by cases c <;> exact of_decide_eq_true rfl
theorem num_args (c : Cmd) : (argsOf c).length = nums (numC c) := by cases c <;> rfl
theorem plcs_le (c : Cmd) : plcs (numC c) ≤ (argsOf c).length := by
  rw [num_args]
  have : ∀ p, p < 25 → plcs p ≤ nums p := by decide
  exact this _ (numC_lt c)
theorem beg_num {c : Cmd} (h : begOf c = none) : numC c ≠ 0 := by cases c <;> first | (cases h; done) | exact of_decide_eq_true (p := ¬ (numC _ = 0)) rfl
theorem beg_is {c : Cmd} {n : Nat} (h : begOf c = some n) : c = .begin_ n := by cases c <;> cases h; rfl
abbrev placesC (c : Cmd) : List Nat := (argsOf c).take (plcs (numC c))
abbrev rowC (c : Cmd) : List Nat := (rowOf c).getD []
theorem pre_ok {m : Mom} (c : Cmd) (h1 : ∀ x ∈ placesC c, x < m.n) (h2 : jnd (numC c) = true → Jo m) (h3 : (rowC c).length ≤ 50) : preC m c := by
  cases c <;> first
    | exact trivial
    | exact ⟨h1 _ List.mem_cons_self, h1 _ (List.mem_cons_of_mem _ List.mem_cons_self), h2 rfl⟩
    | exact ⟨h1 _ List.mem_cons_self, h1 _ (List.mem_cons_of_mem _ List.mem_cons_self)⟩
    | exact ⟨h1 _ List.mem_cons_self, h2 rfl⟩
    | exact ⟨h1 _ List.mem_cons_self, h3⟩
    | exact h1 _ List.mem_cons_self
    | exact h3
    | exact h2 rfl
def actW (s : WS) (c : Cmd) : WS × List Int := match begOf c with
  | some n => if 1 ≤ n ∧ n ≤ 7 then (⟨some (emptyM n), []⟩, [0]) else (s, [-22])
  | none => match s.now with
    | none => (s, [-61])
    | some m => if (placesC c).any (fun x => decide (m.n ≤ x)) = true then (s, [-2]) else if (jnd (numC c) && !togB m) = true then (s, [-35]) else (⟨some (playW m s.past c).1.1, (playW m s.past c).1.2⟩, (playW m s.past c).2)
theorem GAt.same {H H' : Hp} (s : Same H H') {g : Addr} {ns : List Nat} {o : Option (List Nat)} (h : GAt H g ns o) : GAt H' g ns o := by
  cases o with
  | none => exact s _ _ h
  | some l =>
    obtain ⟨rl, h1, h2⟩ := h
    exact ⟨rl, s _ _ h1, s _ _ h2⟩
theorem GAt.lst {H : Hp} {g : Addr} {ns : List Nat} {o : Option (List Nat)} (h : GAt H g ns o) : ∃ t, H g = some (.lst (vN ns ++ t)) := by
  cases o with
  | none => exact ⟨[], by rw [List.append_nil]; exact h⟩
  | some l =>
    obtain ⟨rl, h1, h2⟩ := h
    exact ⟨_, h1⟩
theorem tog_jo {m : Mom} (hm : MomOk m) (h : togB m = true) : Jo m := fun v hv e => by
  unfold togB at h
  have h : (allFar (waysM m) 0).any (·.isNone) = false := by
    cases c : (allFar (waysM m) 0).any (·.isNone) with
    | false => rfl
    | true => rw [c] at h; cases h
  rw [List.any_eq_false] at h
  rw [List.getD_eq_getElem?_getD] at e
  cases c : (allFar (waysM m) 0)[v]? with
  | none =>
    have := List.getElem?_eq_none_iff.mp c
    -- no such place
    have hl := allFar_len hm.ways (u := 0) (by rw [hm.len]; exact hm.pos)
    rw [hm.len] at hl
    omega
  | some o =>
    rw [c] at e
    have e : o = none := e
    subst e
    exact h none (List.mem_of_getElem? c) rfl
section
variable {P : Program} {w : World} {K : PySem.W.Frag} {mg : Str → Option Value} {base : Heap} {f : Addr} {fd : FuncData}
abbrev HeldB (P : Program) (w : World) (K : PySem.W.Frag) (mg : Str → Option Value) (k : Nat) (f : Addr) (sp : Sp) : Prop := ∀ base, TabsB K mg base → Held P w K mg base k f sp
/-- what answers the calls -/
structure HandOk (P : Program) (w : World) (K : PySem.W.Frag) (mg : Str → Option Value) : Prop where
  beg : HeldB P w K mg 8 (He.ga K "begin") (sp_begin K)
  oth : ∀ c, begOf c = none → ∃ is : Cmd → Prop, HeldB P w K mg 8 (He.ga K (tabR (numC c)).1) (sp_c K is) ∧ is c
def sp_answer_of (K : PySem.W.Frag) : Sp := fun vs H Q _ => ∃ (X : List Addr) (ow pp g : Addr) (s : WS) (c : Cmd), vs = [.ref ow, .int (numC c : Int), .ref g] ∧ TabsN (Tn K) H ∧ St K H X ow pp s ∧ GAt H g (argsOf c) (rowOf c) ∧ g ≠ pp ∧ (rowC c).length ≤ 50 ∧
  ∀ H' r pp', After K H H' ow pp pp' → St K H' X ow pp' (actW s c).1 → NewL H r → H' r = some (.lst ((actW s c).2.map V.int)) → Q (.ref r) H'
theorem sc_answer_of : FnScope ["wanderers", "number", "given", "call", "answer", "place"] ["wanderers", "number", "given"] (defScope s_answer_of) := ⟨rfl, rfl, rfl, by decide +kernel, rfl, by decide +kernel, by decide +kernel⟩
theorem ok_answer_of (T : Tx K mg) (CA : callsB K = true) (TB : TabsB K mg base) (F : FnP K d_answer_of f fd) (HK : HandOk P w K mg) (G_hangs_together : Has P w K mg 3 "hangs_together" ["ways"] (sp_hangs_together K)) : FnOk P w K mg base CX0 9 f fd ["wanderers", "number", "given"] (sp_answer_of K) := by
  obtain ⟨cs, C⟩ := calls_at CA
  have HELD : ∀ f sp, HeldB P w K mg 8 f sp → Held P w K mg base 8 f sp := fun f sp h => h base TB
  refine F.ok sc_answer_of (fun vs H Q E h => ?_) (fun cdv A outer s H vs Q E hr h => ⟨_, PSs.nox
    (pss_cons (ps_set (i := 3) sc_answer_of.nd rfl (Or.inl rfl) (pe_ix ix_tup (pe_gref T.g_CALLS) (pv 1) (fun _ _ => rfl)))
      (pss_cons (ps_if (pt_cmpR op_ne (pv 1) (pe_gint T.c_BEGIN) (nomark _)) (pss_cons (ps_if (pt_cmpR op_isN (pe_fld (pv 0) rfl) pe_non (nomark _)) (pss_one (ps_ret (pe_lst (pa_cons (pe_gint T.c_NOT_BEGUN) pa_nil)))) pss_nil)
      (pss_cons (ps_if (pt_val (pe_callB (cr_any rfl) (by rfl) T.f_any (by decide +kernel) (pa_cons (pe_lc (own := [("place", 5)]) (by rfl) sc_answer_of.nd (pi_list (pe_slice sl_list (pv 2) po_none (po_some (pe_ix ix_tup (pv 3) pe_int (fun _ _ => rfl))))) (blkOk_by (own := [("place", 5)]) (N := ["wanderers", "number", "given", "call", "answer", "place"]) (sc := defScope s_answer_of) (by decide +kernel)) (fun _ _ _ _ _ => (pg_name (i := 5) sc_answer_of.nd rfl (Or.inl rfl))) (fun _ _ _ _ _ => pts_nil) (fun _ _ _ _ _ => (pe_cmpR op_ge (pv 5) (pe_fldK K (pe_fldK K (pv 0) rfl) rfl) (nomark _)))) pa_nil))) (pss_one (ps_ret (pe_lst (pa_cons (pe_gint T.c_NOT_THERE) pa_nil)))) pss_nil)
      (pss_one (ps_if (PW.pt (pw_andI (pt_val (pe_ix ix_tup (pv 3) pe_int (fun _ _ => rfl))) (pw_and1 (pt_not (pt_val (pe_has G_hangs_together hr (pa_cons (pe_fld (pe_fld (pv 0) rfl) rfl) pa_nil))))))) (pss_one (ps_ret (pe_lst (pa_cons (pe_gint T.c_NOT_TOGETHER) pa_nil)))) pss_nil)))) pss_nil)
      (pss_cons (ps_set (i := 4) sc_answer_of.nd rfl (Or.inl rfl) (pe_ix ix_tup (pv 3) pe_int (fun _ _ => rfl)))
      (pss_one (ps_ret (pe_callR HELD hr (i := 4) rfl (Or.inl rfl) (pa_cons (pv 0) (pa_cons (pv 2) pa_nil)))))))), ?_⟩)
  · obtain ⟨X, ow, pp, g, s, c, rfl, _⟩ := h
    rfl
  · obtain ⟨X, ow, pp, g, s, c, rfl, hT, hS, hg, hgp, hrow, q⟩ := h
    obtain ⟨a, ha, sa⟩ := C.row (numC c) (numC_lt c)
    refine ⟨_, rfl, _, cs, (numC c : Int), _, rfl, rfl, C.tup H, at_nat ha, ?_⟩
    refine ⟨_, rfl, rfl, _, rfl, ?_⟩
    rw [show decide (V.int ((numC c : Nat) : Int) = V.int 0) = decide (numC c = 0) from dec_nat _ 0]
    cases hb : begOf c with
    | some n =>
      have hc := beg_is hb
      subst hc
      refine if_false_of rfl ?_
      have ea : actW s (.begin_ n) = if 1 ≤ n ∧ n ≤ 7 then (⟨some (emptyM n), []⟩, [0]) else (s, [-22]) := rfl
      refine ⟨_, rfl, a, _, (0 : Int), _, rfl, rfl, sa H, at0, ?_⟩
      refine ⟨_, _, rfl, HK.beg, _, rfl, _, rfl, X, ow, pp, g, s, n, rfl, hT, hS, hg, hgp, fun H' r pp' af st nr hr' => ?_⟩
      rw [ea] at q
      refine q H' r pp' af ?_ (newL_of nr) ?_
      · by_cases z : 1 ≤ n ∧ n ≤ 7
        · rw [if_pos z] at st ⊢
          exact st
        · rw [if_neg z] at st ⊢
          exact st
      · by_cases z : 1 ≤ n ∧ n ≤ 7
        · rw [if_pos z] at hr' ⊢
          exact hr'
        · rw [if_neg z] at hr' ⊢
          exact hr'
    | none =>
      have hnum := beg_num hb
      refine if_true_of (by rw [decide_eq_false hnum]; rfl) ?_
      obtain ⟨dx, nv, us, how, hpp, h3, h4⟩ := hS.ex
      refine ⟨_, rfl, ow, CW K, dx, _, _, rfl, how, T.cl_Wanderers, T.na_now, rfl, rfl, _, rfl, ?_⟩
      cases hn : s.now with
      | none =>
        rw [hn] at h3
        have h3 : nv = .non := h3
        subst h3
        have ea : actW s c = (s, [-61]) := by
          unfold actW
          rw [hb, hn]
        rw [ea] at q
        refine if_true_of rfl ⟨(by show 1 ≤ sizeLine; decide), fun r nr => ?_⟩
        exact q _ r pp (After.of_ext (same_ext (Same.new nr)) (hT.ext (Same.new nr))) (hS.up (same_ext (Same.new nr))) (newL_of nr) upd_same
      | some m =>
        obtain ⟨dx', x0, dx0, lv, wv, us', how', hpp', hul, ⟨hx, hl, hw, hm⟩, hl', hx1, hx2⟩ := hS.now_is hn
        rw [how] at how'
        cases how'
        have ea : actW s c = if (placesC c).any (fun x => decide (m.n ≤ x)) = true then (s, [-2]) else if (jnd (numC c) && !togB m) = true then (s, [-35]) else (⟨some (playW m s.past c).1.1, (playW m s.past c).1.2⟩, (playW m s.past c).2) := by
          unfold actW
          rw [hb, hn]
        refine if_false_of rfl ?_
        -- any([place >= wanderers.now.size for place in given[:call[2]]])
        obtain ⟨gt, hgl⟩ := hg.lst
        have hcut : cutV (vN (argsOf c) ++ gt) none (some ((plcs (numC c) : Nat) : Int)) = vN (placesC c) := by
          rw [cut_take, List.take_append_of_le_length (by rw [vN_len]; exact plcs_le c), vN_take]
        refine ⟨_, rfl, _, rfl, a, _, (2 : Int), _, rfl, rfl, sa H, at2, _, rfl, g, _, rfl, SqL.of hgl, fun p1 np1 => ?_⟩
        rw [hcut]
        have s1 : Same H (upd H p1 (.lst (vN (placesC c)))) := Same.new np1
        have hpl : (placesC c).length ≤ 2 := by
          have h1 := plcs_le c
          have h2 := nums_le (numC_lt c)
          rw [num_args] at h1
          rw [List.length_take]
          omega
        refine ⟨p1, rfl, ⟨_, SqL.of upd_same⟩, fun D nD => lc_list (K := K) (a := p1) (xs := vN (placesC c)) (fun i H' => Same H H' ∧ H' p1 = some (.lst (vN (placesC c))) ∧ H' D = some (.lst (((placesC c).take i).map fun x => V.bl (decide (m.n ≤ x))))) ⟨s1.trans (Same.new nD), Same.new nD _ _ upd_same, upd_same⟩ (fun i H' _ h => SqL.of h.2.1) ?_ ?_⟩
        · rintro i x H' hx' ⟨s2, hp1, hD⟩
          obtain ⟨y, hy, rfl⟩ := vN_of hx'
          have hDp : p1 ≠ D := fun z => by rw [← z, upd_same] at nD; cases nD
          have nD0 : H D = none := s1.free nD
          refine ⟨rfl, yes_of (iteT ⟨_, rfl, _, rfl, ow, CW K, dx, _, _, rfl, s2 _ _ how, T.cl_Wanderers, T.na_now, rfl, x0, CM K, dx0, _, _, rfl, s2 _ _ hx, T.cl_Moment, T.na_size, rfl, _, _, rfl, rfl, _, hD, ?_, s2.upd nD0, ?_, ?_⟩)⟩
          · rw [List.length_map, List.length_take]
            exact Nat.lt_of_le_of_lt (show _ ≤ 2 by omega) (by decide)
          · rw [upd_ne hDp]
            exact hp1
          · rw [upd_same, take_more hy, List.map_append]
            have e : decide ((m.n : Int) ≤ (y : Int)) = decide (m.n ≤ y) := decide_eq_decide.mpr (by omega)
            show some (HO.lst (_ ++ [V.bl (decide ((m.n : Int) ≤ (y : Int)))])) = _
            rw [e]
            rfl
        · rintro H2 ⟨s2, hp1, hD⟩
          rw [vN_len, List.take_length] at hD
          have eany : ((placesC c).map fun x => decide (m.n ≤ x)).any id = (placesC c).any fun x => decide (m.n ≤ x) := by
            rw [List.any_map]
            rfl
          refine ⟨D, (placesC c).map fun x => decide (m.n ≤ x), rfl, SqL.of (by rw [List.map_map]; exact hD), _, rfl, ?_⟩
          rw [eany]
          by_cases c1 : (placesC c).any (fun x => decide (m.n ≤ x)) = true
          · rw [ea, if_pos c1] at q
            refine if_true_of c1 ⟨(by show 1 ≤ sizeLine; decide), fun r nr => ?_⟩
            have s3 := s2.trans (Same.new (o := .lst [.int (-2)]) nr)
            exact q _ r pp (After.of_ext (same_ext s3) (hT.ext s3)) (hS.up (same_ext s3)) (newL_of (s2.free nr)) upd_same
          · rw [ea, if_neg c1] at q
            refine if_false_of (Bool.eq_false_iff.mpr c1) ?_
            have hfew : (waysM m).length ≤ 7 := by rw [hm.len]; exact hm.few
            refine and_isH (jnd (numC c)) (!togB m) (fun R r => ⟨_, rfl, a, _, (4 : Int), _, rfl, rfl, sa H2, at4, _, rfl, r⟩) (fun _ R r => ⟨_, rfl, ow, CW K, dx, _, _, rfl, s2 _ _ how, T.cl_Wanderers, T.na_now, rfl, x0, CM K, dx0, _, _, rfl, s2 _ _ hx, T.cl_Moment, T.na_ways, rfl, wv, waysM m, rfl, hw.same s2, hm.ways, by omega, by rw [hm.len]; exact hm.pos, fun H' s' => ⟨_, rfl, r H' s'⟩⟩) fun H3 s3 => ?_
            have s03 := s2.trans s3
            by_cases c2 : (jnd (numC c) && !togB m) = true
            · rw [if_pos c2] at q
              refine if_true_of c2 ⟨(by show 1 ≤ sizeLine; decide), fun r nr => ?_⟩
              have s4 := s03.trans (Same.new (o := .lst [.int (-35)]) nr)
              exact q _ r pp (After.of_ext (same_ext s4) (hT.ext s4)) (hS.up (same_ext s4)) (newL_of (s03.free nr)) upd_same
            · rw [if_neg c2] at q
              refine if_false_of (Bool.eq_false_iff.mpr c2) ?_
              refine ⟨_, rfl, a, _, (0 : Int), _, rfl, rfl, sa H3, at0, ?_⟩
              obtain ⟨is, hHeld, his⟩ := HK.oth c hb
              have hpre : preC m c := pre_ok c (fun x hx => by
                have c1 : (placesC c).any (fun x => decide (m.n ≤ x)) = false := by simpa using c1
                have := List.any_eq_false.mp c1 x hx
                simp at this
                exact this) (fun hj => tog_jo hm (by
                  cases z : togB m with
                  | true => rfl
                  | false => exact absurd (by rw [hj, z]; rfl) c2)) hrow
              refine ⟨_, _, rfl, hHeld, _, rfl, _, rfl, X, ow, pp, g, s, m, c, his, rfl, hT.ext s03, hS.up (same_ext s03), hn, hg.same s03, hgp, hpre, fun H' r pp' af st nr hr' => ?_⟩
              refine q H' r pp' ⟨fun b o e h1 h2 h3 => af.ext b o (s03 _ _ e) h1 h2 h3, af.tabs, ?_⟩ st (fun xs e => nr xs (s03 _ _ e)) hr'
              rcases af.past with z | z
              · exact .inl z
              · exact .inr (s03.free z)
end
end Nw
end
section
set_option maxRecDepth 100000
set_option maxHeartbeats 2000000
namespace Nw
open PySem PySem.Spec PyProof.Rows L2 LamX NdefX
inductive Parsed (ns : List Nat) : Nat → List Cmd → Prop
  | nil : Parsed ns ns.length []
  | cons {at_ : Nat} {c : Cmd} {cs : List Cmd} : CallOk ns at_ → numC c = ns.getD at_ 0 → argsOf c = callArgs ns at_ → rowOf c = callRowO ns at_ → (rowC c).length ≤ 50 → Parsed ns (at_ + callLen ns at_) cs → Parsed ns at_ (c :: cs)
theorem Parsed.le {ns : List Nat} {at_ : Nat} {cs : List Cmd} (h : Parsed ns at_ cs) : at_ ≤ ns.length := by
  cases h with
  | nil => exact Nat.le_refl _
  | cons h1 _ _ _ _ _ =>
    obtain ⟨p, hp, _⟩ := h1
    exact Nat.le_of_lt (List.getElem?_eq_some_iff.mp hp).1
def runW : WS → List Cmd → List (List Int)
  | _, [] => []
  | s, c :: cs => (actW s c).2 :: runW (actW s c).1 cs
def toldL (l : List (List Int)) : List Int := l.flatMap fun a => (a.length : Int) :: a
theorem St.told {K : PySem.W.Frag} {H : Hp} {X : List Addr} {ow pp p : Addr} {s : WS} {xs : List V} (h : St K H X ow pp s) (hp : p ∈ X) (h1 : p ≠ ow) (h2 : p ≠ pp) : St K (upd H p (.lst xs)) X ow pp s := by
  obtain ⟨dx, nv, us, e1, e2, e3, e4⟩ := h.ex
  have eh : hide (upd H p (.lst xs)) (ow :: pp :: X) = hide H (ow :: pp :: X) := hide_eq fun b hb => upd_ne fun z => hb (by rw [z]; exact List.mem_cons_of_mem _ (List.mem_cons_of_mem _ hp))
  refine ⟨⟨dx, nv, us, by rw [upd_ne (Ne.symm h1)]; exact e1, by rw [upd_ne (Ne.symm h2)]; exact e2, by rw [eh]; exact e3, by rw [eh]; exact e4⟩, h.nowOk, h.pastOk, h.few, fun b hb => ?_⟩
  by_cases z : b = p
  · exact ⟨_, by rw [z]; exact upd_same, fun ps z => by cases z⟩
  · rw [upd_ne z]
    exact h.out b hb
theorem tabs_lst {K : PySem.W.Frag} {H : Hp} {p : Addr} {xs ys : List V} (t : TabsN (Tn K) H) (hp : H p = some (.lst ys)) : TabsN (Tn K) (upd H p (.lst xs)) := by
  intro q hq
  obtain ⟨ps, h1, h2, h3⟩ := t q hq
  have ne : ∀ b o, H b = some o → (∀ us, o ≠ .lst us) → upd H p (.lst xs) b = some o := fun b o e n => by
    rw [upd_ne fun z => by
      rw [z, hp] at e
      cases e
      exact n _ rfl]
    exact e
  refine ⟨ps, ne _ _ h1 (fun _ z => by cases z), h2, fun pos cv hc => ?_⟩
  obtain ⟨c, e1, e2⟩ := h3 pos cv hc
  exact ⟨c, e1, ne _ _ e2 (fun _ z => by unfold CodeO at z; cases z)⟩
/-- nothing stood there but a table -/
abbrev NT (H : Hp) (b : Addr) : Prop := ∀ o, H b = some o → ∃ ps, o = .tbl ps
theorem NT.of {H : Hp} {b : Addr} (h : H b = none) : NT H b := fun o e => by rw [h] at e; cases e
theorem NT.ext {H H' : Hp} {b : Addr} (x : ExtN H H') (h : H' b = none) : NT H b := fun o e => by
  apply Classical.byContradiction
  intro z
  rw [x b o e fun ps w => z ⟨ps, w⟩] at h
  cases h
section
variable {P : Program} {w : World} {K : PySem.W.Frag} {mg : Str → Option Value} {base : Heap} {f : Addr} {fd : FuncData}
def sp_answers (K : PySem.W.Frag) : Sp := fun vs H Q _ => ∃ (ca : Addr) (ns : List Nat) (cs : List Cmd), vs = [.ref ca] ∧ TabsN (Tn K) H ∧ SqL K H ca (vN ns) ∧ Parsed ns 0 cs ∧ (toldL (runW ⟨none, []⟩ cs)).length ≤ sizeLine ∧
  ∀ H' r, H' r = some (.lst ((toldL (runW ⟨none, []⟩ cs)).map V.int)) → Q (.ref r) H'
theorem sc_answers : FnScope ["calls", "wanderers", "told", "at", "answer"] ["calls"] (defScope s_answers) := ⟨rfl, rfl, rfl, by decide +kernel, rfl, by decide +kernel, by decide +kernel⟩
theorem ok_answers (T : Tx K mg) (CA : callsB K = true) (TB : TabsB K mg base) (F : FnP K d_answers f fd) (G_Wanderers : HasK P w K mg 1 "Wanderers" (CW K) ["self"] (sp_Wanderers_init K)) (G_answer_of : HasB P w K mg (TabsB K mg) 9 "answer_of" ["wanderers", "number", "given"] (sp_answer_of K))
    (G_arguments_of : Has P w K mg 1 "arguments_of" ["calls", "at"] (sp_arguments_of K)) (G_length_of : Has P w K mg 1 "length_of" ["calls", "at"] (sp_length_of K)) : FnOk P w K mg base CX0 10 f fd ["calls"] (sp_answers K) := by
  refine F.ok sc_answers (fun vs H Q E h => ?_) (fun cdv A outer s H vs Q E hr h => ⟨_, PSs.nox
    (pss_cons (ps_set (i := 1) sc_answers.nd rfl (Or.inl rfl) (pe_hasK0 G_Wanderers hr))
      (pss_cons (ps_set (i := 2) sc_answers.nd rfl (Or.inl rfl) (pe_lst pa_nil))
      (pss_cons (ps_set (i := 3) sc_answers.nd rfl (Or.inl rfl) pe_int)
      (pss_cons (ps_while PassesOwn.never (pt_cmpR op_lt (pv 3) (pe_callB call_len_seq (by rfl) T.f_len PySem.boot_len (pa_cons (pv 0) pa_nil)) (nomark _)) (pss_cons (ps_set (i := 4) sc_answers.nd rfl (Or.inl rfl) (pe_hasB G_answer_of TB hr (by decide) pass0 (by rfl) (pa_cons (pv 1) (pa_cons (pe_ix ix_list (pv 0) (pv 3) (fun _ _ => rfl)) (pa_cons (pe_has G_arguments_of hr (pa_cons (pv 0) (pa_cons (pv 3) pa_nil))) pa_nil)))))
      (pss_cons (ps_expr (pe_bm PySem.F.plainAttrs_list PySem.F.slot_list_append PySem.F.type_list_append mt_append (pv 2) (pa_cons (pe_callB call_len_seq (by rfl) T.f_len PySem.boot_len (pa_cons (pv 4) pa_nil)) pa_nil)))
      (pss_cons (ps_expr (pe_bm PySem.F.plainAttrs_list PySem.F.slot_list_extend PySem.F.type_list_extend mt_extend (pv 2) (pa_cons (pv 4) pa_nil)))
      (pss_one (ps_set (i := 3) sc_answers.nd rfl (Or.inl rfl) (pe_op op_add (pv 3) (pe_has G_length_of hr (pa_cons (pv 0) (pa_cons (pv 3) pa_nil))))))))))
      (pss_one (ps_ret (pv 2))))))), ?_⟩)
  · obtain ⟨ca, ns, cs, rfl, _⟩ := h
    rfl
  · obtain ⟨ca, ns, cs, rfl, hT, hc, hP, hlen, q⟩ := h
    -- wanderers = Wanderers()
    refine fun ow dx now_ ndx hne => ⟨ow, dx, rfl, upd_same, fun H1 pp k1 npp hp1 ho1 => ⟨rfl, ?_⟩⟩
    have s1 : Same H H1 := fun b o e => by
      have b1 : b ≠ ow := fun z => by rw [z, now_] at e; cases e
      have b2 : b ≠ dx := fun z => by rw [z, ndx] at e; cases e
      have b3 : upd (upd H dx (.own ow)) ow (.ins (CW K) dx []) b = some o := by rw [upd_ne b1, upd_ne b2]; exact e
      have b4 : b ≠ pp := fun z => by rw [z, npp] at b3; cases b3
      rw [k1 b b1 b4]
      exact b3
    have hpo : pp ≠ ow := fun z => by rw [z, upd_same] at npp; cases npp
    have npp0 : H pp = none := by
      cases e : H pp with
      | none => rfl
      | some o =>
        have b2 : pp ≠ dx := fun z => by rw [z, ndx] at e; cases e
        rw [upd_ne hpo, upd_ne b2, e] at npp
        cases npp
    -- told = []
    refine ⟨(by show 0 ≤ sizeLine; decide), fun pt npt => ?_⟩
    have hto : pt ≠ ow := fun z => by rw [z, ho1] at npt; cases npt
    have htp : pt ≠ pp := fun z => by rw [z, hp1] at npt; cases npt
    have npt0 : H pt = none := s1.free npt
    have S0 : St K (upd H1 pt (.lst [])) [pt] ow pp ⟨none, []⟩ := ⟨⟨dx, .non, [], by rw [upd_ne (Ne.symm hto)]; exact ho1, by rw [upd_ne (Ne.symm htp)]; exact hp1, rfl, .nil⟩, (fun m e => by cases e), (fun m hm => nomatch hm), (by show 0 ≤ 10; decide), fun b hb => by
      simp only [List.mem_singleton] at hb
      exact ⟨_, by rw [hb]; exact upd_same, fun ps z => by cases z⟩⟩
    generalize hall : toldL (runW ⟨none, []⟩ cs) = all at q hlen
    refine while_by (fun σ H' => ∃ (at_ : Nat) (pp : Addr) (s : WS) (rest : List Cmd) (T : List Int) (z : Option V), σ = [some (.ref ca), some (.ref ow), some (.ref pt), some (.int (at_ : Int)), z] ∧ Parsed ns at_ rest ∧ H' pt = some (.lst (T.map V.int)) ∧ T ++ toldL (runW s rest) = all ∧ St K H' [pt] ow pp s ∧ TabsN (Tn K) H' ∧ pt ≠ pp ∧ ExtN H H' ∧ NT H pp)
      (fun σ _ => ns.length + 1 - slotI σ 3) ⟨0, pp, ⟨none, []⟩, cs, [], none, rfl, hP, by rw [upd_same]; rfl, hall, S0, (hT.ext s1).ext (Same.new npt), htp, same_ext (s1.trans (Same.new npt)), NT.of npp0⟩ ?_ ?_
    · rintro σ H2 ⟨at_, pp, s, rest, T, z, rfl, hPr, hpt, hT2, hS, hTa, htp, hext, hNT⟩
      have hc2 := (extN_keep hext).sqL hc
      refine ⟨_, rfl, _, rfl, ca, _, rfl, .inl hc2, _, _, rfl, rfl, _, rfl, ?_⟩
      rw [vN_len]
      cases hPr with
      | nil =>
        refine if_false_of (decide_eq_false (by omega)) ⟨_, rfl, q H2 pt ?_⟩
        rw [hpt, ← hT2]
        show _ = some (HO.lst ((T ++ []).map V.int))
        rw [List.append_nil]
      | cons hcall hnum hargs hrow hrl hnext =>
        rename_i c rest
        obtain ⟨p, hp, h25, hrw⟩ := hcall
        have hatl := (List.getElem?_eq_some_iff.mp hp).1
        refine if_true_of (decide_eq_true (by omega)) ?_
        have hpn : numC c = p := by rw [hnum, getD_of' hp]
        refine ⟨_, rfl, _, rfl, _, rfl, ca, _, (at_ : Int), _, rfl, rfl, hc2, at_nat (vN_get hp), _, rfl, _, rfl, ca, ns, at_, rfl, hc2, ⟨p, hp, h25, hrw⟩, fun H3 g s3 ng hG => ?_⟩
        have hpt3 := s3 _ _ hpt
        have hS3 := hS.up (same_ext s3)
        obtain ⟨dx2, nv2, us2, how2, hpp2, _, _⟩ := hS.ex
        have hgp : g ≠ pp := fun z => by rw [z, hpp2] at ng; cases ng
        rw [← hargs, ← hrow] at hG
        refine ⟨[pt], ow, pp, g, s, c, by rw [hpn]; rfl, hTa.ext s3, hS3, hG, hgp, hrl, fun H4 r pp' af st nr hr4 => ?_⟩
        have hto2 : pt ≠ ow := fun z => by rw [z, how2] at hpt; cases hpt
        have hpt4 : H4 pt = some (.lst (T.map V.int)) := af.ext pt _ hpt3 hto2 htp (fun ps z => by cases z)
        have hrt : r ≠ pt := fun z => nr _ (by rw [z]; exact hpt3)
        have htp' : pt ≠ pp' := fun z => by
          rcases af.past with e | e
          · exact htp (by rw [z, e])
          · rw [← z, hpt3] at e
            cases e
        have hlenT : (T ++ toldL (runW s (c :: rest))).length ≤ sizeLine := by rw [hT2]; exact hlen
        have eT : toldL (runW s (c :: rest)) = ((actW s c).2.length : Int) :: ((actW s c).2 ++ toldL (runW (actW s c).1 rest)) := rfl
        rw [eT, List.length_append, List.length_cons, List.length_append] at hlenT
        refine ⟨_, rfl, .inl ⟨rfl, _, SqL.of hpt4⟩, _, rfl, r, _, rfl, .inl (SqL.of hr4), pt, _, _, rfl, rfl, hpt4, ?_, ?_⟩
        · rw [List.length_map]
          omega
        rw [List.length_map]
        have st5 := st.told (xs := T.map V.int ++ [V.int (((actW s c).2.length : Nat) : Int)]) List.mem_cons_self hto2 htp'
        have ta5 := tabs_lst (xs := T.map V.int ++ [V.int (((actW s c).2.length : Nat) : Int)]) af.tabs hpt4
        refine ⟨_, rfl, .inl ⟨rfl, _, SqL.of upd_same⟩, _, rfl, pt, r, _, _, rfl, rfl, upd_same, by rw [upd_ne hrt]; exact hr4, ?_, ?_⟩
        · rw [List.length_append, List.length_map, List.length_map, List.length_singleton]
          omega
        rw [upd_upd]
        have st6 := st.told (xs := T.map V.int ++ [V.int (((actW s c).2.length : Nat) : Int)] ++ (actW s c).2.map V.int) List.mem_cons_self hto2 htp'
        have ta6 := tabs_lst (xs := T.map V.int ++ [V.int (((actW s c).2.length : Nat) : Int)] ++ (actW s c).2.map V.int) af.tabs hpt4
        have hext6 : ExtN H (upd H4 pt (.lst (T.map V.int ++ [V.int (((actW s c).2.length : Nat) : Int)] ++ (actW s c).2.map V.int))) := fun b o e n => by
          have b1 : b ≠ pt := fun z => by rw [z, npt0] at e; cases e
          have b2 : b ≠ ow := fun z => by rw [z, now_] at e; cases e
          have b3 : b ≠ pp := fun z => by
            rw [z] at e
            obtain ⟨ps, w⟩ := hNT o e
            exact n ps w
          rw [upd_ne b1]
          exact af.ext b o (s3 _ _ (hext b o e n)) b2 b3 n
        have hc6 := (extN_keep hext6).sqL hc
        refine ⟨_, rfl, _, rfl, _, rfl, ca, ns, at_, rfl, hc6, ⟨p, hp, h25, hrw⟩, _, _, rfl, rfl, ?_⟩
        have hNT' : NT H pp' := by
          rcases af.past with e | e
          · rw [e]; exact hNT
          · exact NT.ext hext (s3.free e)
        refine ⟨⟨at_ + callLen ns at_, pp', (actW s c).1, rest, T ++ ((actW s c).2.length : Int) :: (actW s c).2, some (.ref r), ?_, hnext, ?_, ?_, st6, ta6, htp', hext6, hNT'⟩, ?_⟩
        · have e : ((at_ + callLen ns at_ : Nat) : Int) = (at_ : Int) + ((callLen ns at_ : Nat) : Int) := by omega
          rw [e]
          rfl
        · rw [upd_same]
          simp
        · rw [← hT2, eT]
          simp
        · have h1 : 1 ≤ callLen ns at_ := by
            unfold callLen
            omega
          have e3 : slotI [some (V.ref ca), some (.ref ow), some (.ref pt), some (.int ((at_ : Int) + ((callLen ns at_ : Nat) : Int))), some (.ref r)] 3 = at_ + callLen ns at_ := by
            show ((at_ : Int) + ((callLen ns at_ : Nat) : Int)).toNat = _
            omega
          have e4 : slotI [some (V.ref ca), some (.ref ow), some (.ref pt), some (.int (at_ : Int)), z] 3 = at_ := by
            show ((at_ : Int)).toNat = _
            omega
          show ns.length + 1 - slotI [some (V.ref ca), some (.ref ow), some (.ref pt), some (.int ((at_ : Int) + ((callLen ns at_ : Nat) : Int))), some (.ref r)] 3 < ns.length + 1 - slotI [some (V.ref ca), some (.ref ow), some (.ref pt), some (.int (at_ : Int)), z] 3
          rw [e3, e4]
          omega
    · rintro σ H2 Q1 Q2 hQ ⟨x1, h1, x2, h2, p1, ys, h3, h4, i, j, h5, h6, b, h7, h8⟩
      exact ⟨x1, h1, x2, h2, p1, ys, h3, h4, i, j, h5, h6, b, h7, hQ _ _ h8⟩
end
end Nw
end
section
set_option maxRecDepth 100000
set_option maxHeartbeats 2000000
namespace Nw
open Ks536 (Net)
abbrev tM (m : Mom) : Net := ⟨m.n, m.links⟩
theorem MomOk.ed {m : Mom} (h : MomOk m) : Ends m.n m.links := h.ends
theorem goF {m : Mom} (h : MomOk m) : Ks536.go (tM m) = ledTo (waysM m) := by
  funext u x
  exact go_is h.ed u x
theorem go_in {m : Mom} (h : MomOk m) : ∀ u x, u < m.n → Ks536.go (tM m) u x < m.n := fun u x hu => by
  rw [goF h]
  have := ledTo_lt h.ways (u := u) (x := x) (by rw [h.len]; exact hu)
  rw [h.len] at this
  exact this
theorem runGF {m : Mom} (h : MomOk m) (u : Nat) (w : List Nat) : runG (tM m) u w = run (ledTo (waysM m)) u w := by
  unfold runG
  rw [goF h]
theorem run_lt {m : Mom} (h : MomOk m) : ∀ (w : List Nat) (u : Nat), u < m.n → run (ledTo (waysM m)) u w < m.n
  | [], u, hu => hu
  | x :: w, u, hu => run_lt h w _ (by
    have := ledTo_lt h.ways (u := u) (x := x) (by rw [h.len]; exact hu)
    rw [h.len] at this
    exact this)
theorem fw_QF (go : PySem.NestedKey → Nat → PySem.NestedKey) (m : Nat) (s0 : PySem.NestedKey) (isE : PySem.NestedKey → Bool) (N : Nat) : fwRes go m s0 isE N = QF go m s0 isE N := rfl
theorem run_goK (W : Ways) : ∀ (w : List Nat) (u v : Nat), run (goK W) (pk u v) w = pk (run (ledTo W) u w) (run (ledTo W) v w)
  | [], _, _ => rfl
  | x :: w, u, v => by
    show run (goK W) (goK W (pk u v) x) w = _
    rw [goK_pk, run_goK W w]
    rfl
theorem nearK_first {m : Mom} (h : MomOk m) {u v : Nat} (hu : u < m.n) (hv : v < m.n) (k : Nat) : IsFirst (mostW (waysM m) + 1) (fun w => (allFar (waysM m) (run (ledTo (waysM m)) u w)).getD (run (ledTo (waysM m)) v w) none = some k) (nearK (waysM m) u v k) := by
  have hc := few_pairs h.ways (m := mostW (waysM m) + 1) (u := u) (v := v) (by rw [h.len]; exact hu) (by rw [h.len]; exact hv) ((waysM m).length * (waysM m).length)
  refine (QF_first (goK (waysM m)) (mostW (waysM m) + 1) (pk u v) (isE := isNear (waysM m) k) hc).congr fun w _ => ?_
  rw [run_goK, isNear_pk, decide_eq_true_iff]
theorem far_is {m : Mom} (h : MomOk m) (j : Jo m) {a b : Nat} (ha : a < m.n) (hb : b < m.n) : (allFar (waysM m) a).getD b none = some (Ks537.far (tM m) (a, b)) := by
  obtain ⟨d, hd⟩ := jo_far h j ha hb
  unfold Ks537.far
  show _ = some ((Ks536.distance (tM m) a b).getD 0)
  rw [distance_is h.ed h.ways ha hb]
  have hd' : (farW (waysOf m.n m.links) (List.range (waysOf m.n m.links).length) a).getD b none = some d := hd
  rw [hd']
  rfl
theorem near_spec {m : Mom} (h : MomOk m) (j : Jo m) {u v : Nat} (hu : u < m.n) (hv : v < m.n) : nearW (waysM m) u v = Ks537.shrink (tM m) u v := by
  obtain ⟨s1, s2⟩ := shrink_is (t := tM m) rfl (go_in h) hu hv
  have hlet : Ks537.letters (tM m) = mostW (waysM m) + 1 := letters_is h.ed
  rw [hlet] at s1 s2
  have farE : ∀ w, (allFar (waysM m) (run (ledTo (waysM m)) u w)).getD (run (ledTo (waysM m)) v w) none = some (Ks537.far (tM m) (runG (tM m) u w, runG (tM m) v w)) := fun w => by
    rw [runGF h, runGF h]
    exact far_is h j (run_lt h w u hu) (run_lt h w v hv)
  generalize Ks537.shrink (tM m) u v = r at s1 s2
  obtain ⟨k, l⟩ := r
  refine nearW_is (far_is h j hu hv) (fun i hi => ?_) ?_
  · refine (nearK_first h hu hv i).uniq (b := none) fun w hw z => ?_
    have z : (allFar (waysM m) (run (ledTo (waysM m)) u w)).getD (run (ledTo (waysM m)) v w) none = some i := z
    rw [farE] at z
    have h1 : k ≤ _ := s2 w hw
    have h2 := Option.some.inj z
    omega
  · refine (nearK_first h hu hv _).uniq (s1.congr fun w _ => ?_)
    rw [farE]
    exact ⟨fun z => congrArg some z, fun z => Option.some.inj z⟩
theorem run_zeros (W : Ways) : ∀ (d u : Nat), run (ledTo W) u (List.replicate d 0) = u
  | 0, _ => rfl
  | d + 1, u => by
    rw [List.replicate_succ]
    exact run_zeros W d u
theorem run_app' (W : Ways) (u : Nat) (v w : List Nat) : run (ledTo W) u (v ++ w) = run (ledTo W) (run (ledTo W) u v) w := run_app _ _ _ _
theorem take_pad (W : Ways) (u d : Nat) (w : List Nat) (k : Nat) : run (ledTo W) u ((List.replicate d 0 ++ w).take k) = run (ledTo W) u (w.take (k - d)) := by
  rw [List.take_append, run_app', List.take_replicate, run_zeros, List.length_replicate]
theorem run_goM (W : Ways) (d u v : Nat) (w : List Nat) : run (goM W) (mk3 u v (List.replicate d 0)) w = mk3 (run (ledTo W) u w) (run (ledTo W) v (w.take (w.length - d))) ((List.replicate d 0 ++ w).drop w.length) := by
  refine snoc_ind (P := fun w => run (goM W) (mk3 u v (List.replicate d 0)) w = mk3 (run (ledTo W) u w) (run (ledTo W) v (w.take (w.length - d))) ((List.replicate d 0 ++ w).drop w.length)) ?_ (fun w x ih => ?_) w
  · show mk3 u v (List.replicate d 0) = _
    rw [List.length_nil, Nat.zero_sub, List.take_nil, List.drop_zero, List.append_nil]
    rfl
  · rw [run_snoc, ih, goM_mk]
    show mk3 (ledTo W (run (ledTo W) u w) x) (ledTo W (run (ledTo W) v (w.take (w.length - d))) (((List.replicate d 0 ++ w).drop w.length ++ [x]).headD 0)) ((List.replicate d 0 ++ w).drop w.length ++ [x]).tail = _
    have e1 : (List.replicate d 0 ++ w).drop w.length ++ [x] = (List.replicate d 0 ++ (w ++ [x])).drop w.length := by
      rw [← List.append_assoc, List.drop_append_of_le_length (l₁ := List.replicate d 0 ++ w)]
      rw [List.length_append, List.length_replicate]
      omega
    have hl : w.length < (List.replicate d 0 ++ (w ++ [x])).length := by
      rw [List.length_append, List.length_append, List.length_replicate, List.length_singleton]
      omega
    have hx : (List.replicate d 0 ++ (w ++ [x]))[w.length]? = some (List.replicate d 0 ++ (w ++ [x]))[w.length] := List.getElem?_eq_getElem hl
    have e2 : ((List.replicate d 0 ++ (w ++ [x])).drop w.length).headD 0 = (List.replicate d 0 ++ (w ++ [x]))[w.length] := by
      rw [List.headD_eq_head?_getD, List.head?_drop, hx]
      rfl
    have e3 : run (ledTo W) v ((w ++ [x]).take ((w ++ [x]).length - d)) = ledTo W (run (ledTo W) v (w.take (w.length - d))) (List.replicate d 0 ++ (w ++ [x]))[w.length] := by
      rw [← take_pad W v d w w.length, ← take_pad W v d (w ++ [x]) (w ++ [x]).length]
      have e4 : (w ++ [x]).length = w.length + 1 := by simp
      rw [e4, take_more hx, run_snoc]
      congr 2
      rw [← List.append_assoc, List.take_append_of_le_length (l₁ := List.replicate d 0 ++ w)]
      rw [List.length_append, List.length_replicate]
      omega
    rw [e1, e2, ← e3, List.tail_drop]
    have e5 : run (ledTo W) u (w ++ [x]) = ledTo W (run (ledTo W) u w) x := run_snoc _ _ _ _
    have e6 : (w ++ [x]).length = w.length + 1 := by simp
    rw [e5, e6]
theorem meet_spec {m : Mom} (h : MomOk m) {u v d : Nat} (hu : u < m.n) (hv : v < m.n) (hd : d ≤ 2) : meetW (waysM m) u v d = Ks537.found (tM m) u v d := by
  have s1 := found_is (t := tM m) rfl (go_in h) h.few hu hv hd
  have hlet : Ks537.letters (tM m) = mostW (waysM m) + 1 := letters_is h.ed
  rw [hlet] at s1
  have h0 : ∀ x ∈ List.replicate d 0, x < mostW (waysM m) + 1 := fun x hx => by
    rw [(List.mem_replicate.mp hx).2]
    omega
  have hc := few_mk3 h.ways (m := mostW (waysM m) + 1) (d := d) (u := u) (v := v) (l := List.replicate d 0) (by rw [h.len]; exact hu) (by rw [h.len]; exact hv) List.length_replicate h0 (numM (waysM m).length (mostW (waysM m) + 1) d)
  refine IsFirst.uniq ((QF_first (goM (waysM m)) (mostW (waysM m) + 1) (mk3 u v (List.replicate d 0)) (isE := isMet) hc).congr fun w _ => ?_) s1
  rw [run_goM, isMet_mk, decide_eq_true_iff, runGF h, runGF h]
end Nw
end
section
set_option maxRecDepth 100000
set_option maxHeartbeats 2000000
namespace Nw
open Ks536 (Net)
open PySem (NestedKey)
abbrev oneOf (s : Ks539.Stand) : One := (s.u, s.p)
def phi : Option Two → NestedKey
  | none => .none
  | some p => pairK (oneOf p.1) (oneOf p.2)
theorem gone_is {m : Mom} (h : MomOk m) (s : Ks539.Stand) (x : Nat) : goneW (waysM m) (oneOf s) x = oneOf (Ks539.step (tM m) s x) := by
  obtain ⟨u, p⟩ := s
  unfold goneW Ks539.step
  match x with
  | 0 =>
    show (if 0 = 1 ∧ p = none then (u, some u) else if 0 = 2 ∧ p = some u then (u, none) else (ledTo (waysM m) u (0 - 2), p)) = (u, p)
    rw [if_neg (fun z => by omega), if_neg (fun z => by omega)]
    rfl
  | 1 =>
    cases p with
    | none =>
      show (if 1 = 1 ∧ (none : Option Nat) = none then (u, some u) else _) = (u, some u)
      rw [if_pos ⟨rfl, rfl⟩]
    | some q =>
      show (if 1 = 1 ∧ some q = none then (u, some u) else if 1 = 2 ∧ some q = some u then (u, none) else (ledTo (waysM m) u (1 - 2), some q)) = (u, some q)
      rw [if_neg (fun z => by cases z.2), if_neg (fun z => by omega)]
      rfl
  | 2 =>
    show (if 2 = 1 ∧ p = none then (u, some u) else if 2 = 2 ∧ p = some u then (u, none) else (ledTo (waysM m) u (2 - 2), p)) = oneOf (if p = some u then { u := u, p := none } else { u := u, p := p })
    rw [if_neg (fun z => by omega)]
    by_cases c : p = some u
    · rw [if_pos ⟨rfl, c⟩, if_pos c]
    · rw [if_neg (fun z => c z.2), if_neg c]
      rfl
  | e + 3 =>
    show (if e + 3 = 1 ∧ p = none then (u, some u) else if e + 3 = 2 ∧ p = some u then (u, none) else (ledTo (waysM m) u (e + 3 - 2), p)) = (Ks536.go (tM m) u (e + 1), p)
    rw [if_neg (fun z => by omega), if_neg (fun z => by omega), goF h]
    rfl
theorem in_is {m : Mom} (h : MomOk m) (s : Ks539.Stand) (x : Nat) : Ks539.in_ (tM m) s x = cameIn (waysM m) s.u (x - 2) := by
  unfold Ks539.in_
  match x with
  | 0 => rfl
  | 1 => rfl
  | 2 => rfl
  | e + 3 =>
    show Ks536.came (tM m) s.u (e + 1) = cameIn (waysM m) s.u (e + 1)
    exact came_is h.ed _ _
theorem differ_is {m : Mom} (h : MomOk m) (a b : Ks539.Stand) : Ks539.differ (tM m) (tM m) (a, b) = true ↔ sightW (waysM m) (oneOf a) ≠ sightW (waysM m) (oneOf b) := by
  unfold Ks539.differ Ks539.look sightW
  rw [bne_iff_ne, degree_is h.ed, degree_is h.ed]
  refine not_congr ⟨fun z => ?_, fun z => ?_⟩
  · injection z with z1 z2
    injection z2 with z2 _
    exact Prod.ext z1 z2
  · injection z with z1 z2
    show [_, _] = [_, _]
    rw [show (rowAt (waysOf m.n m.links) a.u).length = (rowAt (waysOf m.n m.links) b.u).length from z1]
    exact congrArg (fun t => [_, t]) z2
theorem phi_go {m : Mom} (h : MomOk m) (s : Option Two) (x : Nat) : goP (waysM m) (phi s) x = phi (goO (tM m) s x) := by
  cases s with
  | none => rfl
  | some p =>
    show goP (waysM m) (pairK (oneOf p.1) (oneOf p.2)) x = _
    rw [goP_pair, goO_some]
    show (if cameIn (waysM m) p.1.u (x - 2) = cameIn (waysM m) p.2.u (x - 2) then (if sightW (waysM m) (goneW (waysM m) (oneOf p.1) x) = sightW (waysM m) (goneW (waysM m) (oneOf p.2) x) then pairK (goneW (waysM m) (oneOf p.1) x) (goneW (waysM m) (oneOf p.2) x) else .none) else .none) = _
    rw [gone_is h, gone_is h, in_is h, in_is h]
    have hd := differ_is h (Ks539.step (tM m) p.1 x) (Ks539.step (tM m) p.2 x)
    by_cases c1 : cameIn (waysM m) p.1.u (x - 2) = cameIn (waysM m) p.2.u (x - 2)
    · rw [if_pos c1]
      by_cases c2 : sightW (waysM m) (oneOf (Ks539.step (tM m) p.1 x)) = sightW (waysM m) (oneOf (Ks539.step (tM m) p.2 x))
      · rw [if_pos c2, if_neg]
        · rfl
        · rw [Bool.or_eq_true, bne_iff_ne, hd]
          rintro (z | z)
          · exact z c1
          · exact z c2
      · rw [if_neg c2, if_pos]
        · rfl
        · rw [Bool.or_eq_true, hd]
          exact .inr c2
    · rw [if_neg c1, if_pos]
      · rfl
      · rw [Bool.or_eq_true, bne_iff_ne]
        exact .inl c1
theorem phi_run {m : Mom} (h : MomOk m) : ∀ (w : List Nat) (s : Option Two), run (goP (waysM m)) (phi s) w = phi (run (goO (tM m)) s w)
  | [], _ => rfl
  | x :: w, s => by
    show run (goP (waysM m)) (goP (waysM m) (phi s) x) w = _
    rw [phi_go h, phi_run h w]
    rfl
theorem phi_end (s : Option Two) : isApart (phi s) = s.isNone := by cases s <;> rfl
theorem foldl_max_app (l : List Nat) : (l ++ l).foldl max 0 = l.foldl max 0 := by
  have key : ∀ (l : List Nat) (a : Nat), (∀ x ∈ l, x ≤ a) → l.foldl max a = a := by
    intro l
    induction l with
    | nil => exact fun _ _ => rfl
    | cons x l ih =>
      intro a h
      rw [List.foldl_cons, Nat.max_eq_left (h x List.mem_cons_self)]
      exact ih a fun y hy => h y (List.mem_cons_of_mem _ hy)
  have up : ∀ (l : List Nat) (a : Nat), a ≤ l.foldl max a ∧ ∀ x ∈ l, x ≤ l.foldl max a := by
    intro l
    induction l with
    | nil => exact fun a => ⟨Nat.le_refl _, (fun x hx => nomatch hx)⟩
    | cons y l ih =>
      intro a
      obtain ⟨k1, k2⟩ := ih (max a y)
      refine ⟨Nat.le_trans (Nat.le_max_left a y) k1, fun x hx => ?_⟩
      rcases List.mem_cons.mp hx with e | hx
      · subst e
        exact Nat.le_trans (Nat.le_max_right a x) k1
      · exact k2 x hx
  rw [List.foldl_append]
  exact key l _ (up l 0).2
theorem pb_letters {m : Mom} (h : MomOk m) : Ks539.letters (tM m) (tM m) = mostW (waysM m) + 2 + 1 := by
  unfold Ks539.letters mostW
  rw [ways_map h.ed]
  show ((List.range m.n).map (Ks536.degree (tM m)) ++ (List.range m.n).map (Ks536.degree (tM m))).foldl max 0 + 3 = _
  rw [foldl_max_app]
theorem pebble_spec {m : Mom} (h : MomOk m) (h5 : m.n ≤ 5) {u v : Nat} (hu : u < m.n) (hv : v < m.n) : pebW (waysM m) u v = Ks539.apart (tM m) (tM m) u v := by
  have s1 := pebble_is (t := tM m) (go_in h) h5 hu hv
  rw [pb_letters h] at s1
  have e0 : unlessK (waysM m) (u, none) (v, none) = phi (startO (tM m) u v) := by
    unfold startO
    have hd := differ_is h (Ks539.start u) (Ks539.start v)
    show (if sightW (waysM m) (oneOf (Ks539.start u)) = sightW (waysM m) (oneOf (Ks539.start v)) then pairK (u, none) (v, none) else .none) = _
    by_cases c : sightW (waysM m) (oneOf (Ks539.start u)) = sightW (waysM m) (oneOf (Ks539.start v))
    · rw [if_pos c, if_neg (fun z => hd.mp z c)]
      rfl
    · rw [if_neg c, if_pos (hd.mpr c)]
      rfl
  have hc := few_pb h.ways (m := mostW (waysM m) + 2 + 1) (UPb_unless (W := waysM m) (a := (u, none)) (b := (v, none)) ⟨by rw [h.len]; exact hu, fun q e => by cases e⟩ ⟨by rw [h.len]; exact hv, fun q e => by cases e⟩) (numP (waysM m).length)
  refine IsFirst.uniq ((QF_first (goP (waysM m)) (mostW (waysM m) + 2 + 1) (unlessK (waysM m) (u, none) (v, none)) (isE := isApart) hc).congr fun w _ => ?_) s1
  rw [e0, phi_run h, phi_end]
theorem best_fold {m : Mom} (h : MomOk m) {hm : Nat} (hh : hm < m.n) (F : List Nat → Nat) : ∀ (os : List (List Nat)) (b : Option (List Nat × List Nat)), (∀ o ∈ os, ∀ x ∈ o, x < m.n) →
    os.foldl (bestStep (waysM m) hm F) (b.map fun p => (F p.2, p.1)) = ((os.filterMap fun o => (Ks538.known (tM m) hm o).map fun r => (o, r)).foldl (fun b p => match b with
      | none => some p
      | some q => if F p.2 < F q.2 then some p else some q) b).map fun p => (F p.2, p.1)
  | [], b, _ => rfl
  | o :: os, b, ho => by
    have hk : Ks538.known (tM m) hm o = knownW (waysM m) hm o := known_is h.ed h.ways h.sym hh (ho o List.mem_cons_self)
    rw [List.foldl_cons, List.filterMap_cons, hk]
    cases e : knownW (waysM m) hm o with
    | none =>
      have e2 : bestStep (waysM m) hm F (b.map fun p => (F p.2, p.1)) o = b.map fun p => (F p.2, p.1) := by
        unfold bestStep
        rw [e]
      rw [e2]
      exact best_fold h hh F os b fun x hx => ho x (List.mem_cons_of_mem _ hx)
    | some r =>
      show _ = (((o, r) :: os.filterMap _).foldl _ b).map _
      rw [List.foldl_cons, ← best_fold h hh F os _ fun x hx => ho x (List.mem_cons_of_mem _ hx)]
      congr 1
      unfold bestStep
      rw [e]
      cases b with
      | none => rfl
      | some q =>
        show (if F r < F q.2 then some (F r, o) else some (F q.2, q.1)) = (if F r < F q.2 then some (o, r) else some q).map fun p => (F p.2, p.1)
        split <;> rfl
theorem best_spec {m : Mom} (h : MomOk m) {hm : Nat} (hh : hm < m.n) (F : List Nat → Nat) : bestW (waysM m) hm F = (Ks538.best F (Ks538.all (tM m) hm)).map fun p => (F p.2, p.1) := by
  unfold bestW Ks538.best Ks538.all
  rw [h.len]
  have hl : (allBut m.n hm).length = m.n - 1 := by
    have := allBut_len hh
    omega
  rw [others_is, hl, ← orders_is]
  refine best_fold h hh F _ none fun o ho x hx => ?_
  rw [orders_is] at ho
  exact (allBut_mem.mp ((orders_in _ _ o ho).2 x hx)).1
theorem walked_get (W : Ways) : ∀ (w : List Nat) (u k : Nat), k ≤ w.length → (walkedW W u w).getD k 0 = run (ledTo W) u (w.take k)
  | [], u, k, hk => by
    have : k = 0 := by simpa using hk
    subst this
    rfl
  | x :: w, u, 0, _ => rfl
  | x :: w, u, k + 1, hk => by
    show (walkedW W (ledTo W u x) w).getD k 0 = run (ledTo W) (ledTo W u x) (w.take k)
    exact walked_get W w _ k (by simpa using hk)
theorem walked_last (W : Ways) : ∀ (w : List Nat) (u : Nat), (walkedW W u w).getLast? = some (run (ledTo W) u w)
  | [], _ => rfl
  | x :: w, u => by
    show (u :: walkedW W (ledTo W u x) w).getLast? = _
    rw [List.getLast?_cons, walked_last W w]
    rfl
theorem at_is {m : Mom} (h : MomOk m) (u d : Nat) (w : List Nat) (k : Nat) : Ks537.at_ (tM m) u d w k = run (ledTo (waysM m)) u (w.take (k - d)) := by
  unfold Ks537.at_
  rw [walk_is h.ed, walked_last]
  rfl
theorem fst_get {m : Mom} {u d k : Nat} {l : List Nat} (hk : k ≤ l.length + d) : (fstW (waysM m) u d l).getD k 0 = run (ledTo (waysM m)) u (l.take k) := by
  unfold fstW
  rw [walked_get _ _ _ _ (by rw [List.length_append, List.length_replicate]; exact hk), List.take_append, run_app', List.take_replicate, run_zeros]
theorem snd_get {m : Mom} {u d k : Nat} {l : List Nat} (hk : k ≤ l.length + d) : (sndW (waysM m) u d l).getD k 0 = run (ledTo (waysM m)) u (l.take (k - d)) := by
  unfold sndW
  rw [walked_get _ _ _ _ (by rw [List.length_append, List.length_replicate]; omega), take_pad]
theorem find_congr {p q : Nat → Bool} : ∀ {l : List Nat}, (∀ x ∈ l, p x = q x) → l.find? p = l.find? q
  | [], _ => rfl
  | a :: l, h => by
    rw [List.find?_cons, List.find?_cons, h a List.mem_cons_self, find_congr fun x hx => h x (List.mem_cons_of_mem _ hx)]
theorem meets_spec {m : Mom} (h : MomOk m) (u v d : Nat) (l : List Nat) : meetK (waysM m) u v d l = Ks537.meets (tM m) u v d l := by
  unfold meetK Ks537.meets
  refine find_congr fun k hk => ?_
  have hk := List.mem_range.mp hk
  rw [at_is h, at_is h, snd_get (by omega), fst_get (by omega), Nat.sub_zero]
  rw [Bool.eq_iff_iff, decide_eq_true_iff, beq_iff_eq]
  exact ⟨fun z => z.symm, fun z => z.symm⟩
end Nw
end
section
set_option maxRecDepth 100000
set_option maxHeartbeats 2000000
namespace Nw
open Ks536 (Net)
def gameOf (m : Mom) : Ks540.Game := { t := tM m, a := m.a, b := m.b, p := m.p, steps := m.steps, met := m.met }
def wasOf (past : List Mom) : List Ks540.Game := past.reverse.map gameOf
abbrev stateOf (p : PS) : Ks540.State := { game := gameOf p.1, was := wasOf p.2 }
def ansL (a : Ks540.Ans) : List Int := a.ret :: a.out.map Int.ofNat
theorem was_push {past : List Mom} (m : Mom) (h : past.length ≤ 10) : wasOf (pastL past m) = (gameOf m :: wasOf past).take 10 := by
  unfold wasOf pastL
  by_cases c : (past ++ [m]).length > 10
  · rw [if_pos c]
    have hl : past.length = 10 := by
      rw [List.length_append, List.length_singleton] at c
      omega
    cases past with
    | nil => cases hl
    | cons x past =>
      show ((past ++ [m]).reverse.map gameOf) = _
      have hl2 : past.length = 9 := by simpa using hl
      rw [List.reverse_append, List.reverse_cons, List.map_append]
      simp only [List.reverse_cons, List.reverse_nil, List.nil_append, List.map_cons, List.map_nil, List.map_append]
      show gameOf m :: (past.reverse.map gameOf) = (gameOf m :: (past.reverse.map gameOf ++ [gameOf x])).take 10
      rw [List.take_succ_cons, List.take_append_of_le_length (by simp [hl2]), List.take_of_length_le (by simp [hl2])]
  · rw [if_neg c, List.reverse_append]
    rw [List.length_append, List.length_singleton] at c
    rw [List.take_of_length_le (by simp; omega)]
    rfl
theorem change_is {past : List Mom} {m m' : Mom} {g : Ks540.Game} (h : past.length ≤ 10) (e : g = gameOf m') : Ks540.change (stateOf (m, past)) g = stateOf (m', pastL past m) := by
  unfold Ks540.change
  subst e
  show ({ game := gameOf m', was := (gameOf m :: wasOf past).take 10 } : Ks540.State) = { game := gameOf m', was := wasOf (pastL past m) }
  rw [was_push m h]
theorem ints_is (l : List Nat) : l.map Int.ofNat = iN l := rfl
theorem beside_is (m : Mom) (u v : Nat) : Ks540.beside (tM m) u v = (m.links.contains (u, v) || m.links.contains (v, u)) := by
  unfold Ks540.beside
  show (m.links.any fun p => (p.1 == u && p.2 == v) || (p.1 == v && p.2 == u)) = _
  rw [Bool.eq_iff_iff, List.any_eq_true, Bool.or_eq_true, List.contains_iff_mem, List.contains_iff_mem]
  constructor
  · rintro ⟨p, hp, h⟩
    obtain ⟨a, b⟩ := p
    simp only [Bool.or_eq_true, Bool.and_eq_true, beq_iff_eq] at h
    rcases h with ⟨rfl, rfl⟩ | ⟨rfl, rfl⟩
    · exact .inl hp
    · exact .inr hp
  · rintro (h | h)
    · exact ⟨_, h, by simp⟩
    · exact ⟨_, h, by simp⟩
theorem ap_is {m : Mom} (h : MomOk m) {u v : Nat} (hu : u < m.n) (hv : v < m.n) : Ks536.apart (tM m) (tM m) u v = apW (waysM m) u v := by
  have hl : (waysM m).length = m.n := h.len
  have hN : m.n ≤ endK (waysM m) + 1 := by
    unfold endK
    rw [hl]
    have : m.n * 1 ≤ m.n * m.n := Nat.mul_le_mul_left _ h.pos
    omega
  exact apart_is h.ed h.ways hu hv hN
theorem tog_is {m : Mom} (h : MomOk m) : Ks536.joined (tM m) = togB m := by
  rw [Bool.eq_iff_iff]
  have := joined_is h.ed h.ways (show 0 < m.n from h.pos)
  rw [this]
  constructor
  · intro H
    show (!(allFar (waysM m) 0).any (·.isNone)) = true
    rw [Bool.not_eq_true', List.any_eq_false]
    intro o ho z
    obtain ⟨i, hi⟩ := List.mem_iff_getElem?.mp ho
    have hl := allFar_len h.ways (u := 0) (by rw [h.len]; exact h.pos)
    have hil := (List.getElem?_eq_some_iff.mp hi).1
    rw [hl, h.len] at hil
    refine H i hil ?_
    rw [List.getD_eq_getElem?_getD]
    have hi' : (farW (waysOf m.n m.links) (List.range (waysOf m.n m.links).length) 0)[i]? = some o := hi
    rw [hi']
    cases o with
    | none => rfl
    | some d => cases z
  · intro H v hv
    exact tog_jo h H v hv
theorem exits_out {m : Mom} (h : MomOk m) (u : Nat) : ((List.range (Ks536.degree (tM m) u)).flatMap fun e => match Ks536.out (tM m) u e with | some p => [p.1, p.2] | none => []) = (rowAt (waysM m) u).flatMap fun q => [q.1, q.2] := by
  rw [degree_is h.ed]
  have key : ∀ k, k ≤ (rowAt (waysM m) u).length → ((List.range k).flatMap fun e => match Ks536.out (tM m) u e with | some p => [p.1, p.2] | none => []) = ((rowAt (waysM m) u).take k).flatMap fun q => [q.1, q.2] := by
    intro k
    induction k with
    | zero => exact fun _ => rfl
    | succ k ih =>
      intro hk
      have hg : (rowAt (waysM m) u)[k]? = some (rowAt (waysM m) u)[k] := List.getElem?_eq_getElem (by omega)
      have ho : Ks536.out (tM m) u k = some (rowAt (waysM m) u)[k] := by
        rw [← hg]
        exact out_is h.ed u k
      rw [List.range_succ, List.flatMap_append, ih (by omega), take_more hg, List.flatMap_append]
      simp only [List.flatMap_cons, List.flatMap_nil, List.append_nil, ho]
  have := key _ (Nat.le_refl _)
  rw [List.take_length] at this
  exact this
end Nw
end
section
set_option maxRecDepth 100000
set_option maxHeartbeats 200000
namespace Nw
open Ks536 (Net)
/-- the specification does what the program's machine does -/
abbrev Does (m : Mom) (past : List Mom) (c : Cmd) : Prop := (Ks540.does1 (stateOf (m, past)) c).1 = stateOf (playW m past c).1 ∧ ansL (Ks540.does1 (stateOf (m, past)) c).2 = (playW m past c).2
section
variable {m : Mom} {past : List Mom} (hm : MomOk m) (hp : past.length ≤ 10)
theorem place_in {s : Ks540.State} {u : Nat} {f : Unit → Ks540.State × Ks540.Ans} (h : u < s.game.t.n) : Ks540.place s u f = f () := if_neg (by omega)
theorem whole_in {s : Ks540.State} {f : Unit → Ks540.State × Ks540.Ans} (h : Ks536.joined s.game.t = true) : Ks540.whole s f = f () := if_pos h
theorem jo_tog (hm : MomOk m) (j : Jo m) : Ks536.joined (tM m) = true := (joined_is hm.ed hm.ways hm.pos).mpr j
theorem ofNat_if (p : Prop) [Decidable p] : Int.ofNat (if p then 1 else 0) = if p then 1 else 0 := by
  by_cases h : p
  · rw [if_pos h, if_pos h]
    rfl
  · rw [if_neg h, if_neg h]
    rfl
/-- of a call that changes nothing -/
theorem does_of {c : Cmd} {a : Ks540.Ans} {l : List Int} (e1 : Ks540.does1 (stateOf (m, past)) c = (stateOf (m, past), a)) (e3 : ansL a = l) (e2 : playW m past c = ((m, past), l)) : Does m past c := by
  unfold Does
  rw [e1, e2]
  exact ⟨rfl, e3⟩
include hm hp
theorem does_link {u v : Nat} (hu : u < m.n) (hv : v < m.n) : Does m past (.link u v) := by
  have e : Ks540.does1 (stateOf (m, past)) (.link u v) = if u = v then (stateOf (m, past), Ks540.no (-22)) else if Ks540.beside (tM m) u v then (stateOf (m, past), Ks540.no (-17)) else if Ks536.LINKS ≤ m.links.length then (stateOf (m, past), Ks540.no (-28)) else (Ks540.change (stateOf (m, past)) (Ks540.anew { gameOf m with t := { tM m with links := m.links ++ [(u, v)] } }), Ks540.no m.links.length) := by
    show Ks540.place _ u (fun _ => Ks540.place _ v _) = _
    rw [place_in hu, place_in hv]
    rfl
  rw [beside_is] at e
  by_cases c1 : u = v
  · rw [if_pos c1] at e
    exact does_of e rfl (by simp only [playW, if_pos c1] <;> rfl)
  · rw [if_neg c1] at e
    by_cases c2 : (m.links.contains (u, v) || m.links.contains (v, u)) = true
    · rw [if_pos c2] at e
      exact does_of e rfl (by simp only [playW, if_neg c1, if_pos c2] <;> rfl)
    · rw [if_neg c2] at e
      have hs := hm.short
      by_cases c3 : m.links.length = 10
      · rw [if_pos (show Ks536.LINKS ≤ m.links.length by rw [c3]; exact Nat.le_refl _)] at e
        exact does_of e rfl (by simp only [playW, if_neg c1, if_neg c2, if_pos c3] <;> rfl)
      · rw [if_neg (show ¬ Ks536.LINKS ≤ m.links.length by show ¬ 10 ≤ _; omega)] at e
        have e2 : playW m past (.link u v) = ((linkM m (m.links ++ [(u, v)]) m.a m.b, pastL past m), [nI m.links.length]) := by simp only [playW, if_neg c1, if_neg c2, if_neg c3]
        unfold Does
        rw [e, e2]
        exact ⟨change_is hp rfl, rfl⟩
theorem does_unlink (i : Nat) : Does m past (.unlink i) := by
  have e : Ks540.does1 (stateOf (m, past)) (.unlink i) = if m.links.length ≤ i then (stateOf (m, past), Ks540.no (-2)) else (Ks540.change (stateOf (m, past)) (Ks540.anew { gameOf m with t := { tM m with links := m.links.eraseIdx i } }), Ks540.no (m.links.length - 1 : Nat)) := rfl
  by_cases c : m.links.length ≤ i
  · rw [if_pos c] at e
    exact does_of e rfl (by simp only [playW, if_pos c] <;> rfl)
  · rw [if_neg c] at e
    have e2 : playW m past (.unlink i) = ((linkM m (m.links.eraseIdx i) m.a m.b, pastL past m), [nI (m.links.eraseIdx i).length]) := by simp only [playW, if_neg c]
    unfold Does
    rw [e, e2]
    refine ⟨change_is hp rfl, ?_⟩
    rw [List.length_eraseIdx, if_pos (by omega)]
    rfl
theorem does_stand {u v : Nat} (hu : u < m.n) (hv : v < m.n) : Does m past (.stand u v) := by
  have e : Ks540.does1 (stateOf (m, past)) (.stand u v) = (Ks540.change (stateOf (m, past)) (Ks540.anew { gameOf m with a := u, b := v }), Ks540.no 0) := by
    show Ks540.place _ u (fun _ => Ks540.place _ v _) = _
    rw [place_in hu, place_in hv]
  unfold Does
  rw [e]
  exact ⟨change_is hp rfl, rfl⟩
theorem does_step (x y : Nat) : Does m past (.step x y) := by
  have e : Ks540.does1 (stateOf (m, past)) (.step x y) = (Ks540.change (stateOf (m, past)) { gameOf m with a := Ks536.go (tM m) m.a x, b := Ks536.go (tM m) m.b y, steps := m.steps + 1, met := m.met + (if Ks536.go (tM m) m.a x = Ks536.go (tM m) m.b y then 1 else 0) },
      { ret := if Ks536.go (tM m) m.a x = Ks536.go (tM m) m.b y then 1 else 0, out := [Ks536.came (tM m) m.a x, Ks536.degree (tM m) (Ks536.go (tM m) m.a x), Ks536.came (tM m) m.b y, Ks536.degree (tM m) (Ks536.go (tM m) m.b y)] }) := rfl
  rw [goF hm, came_is hm.ed, came_is hm.ed, degree_is hm.ed, degree_is hm.ed] at e
  unfold Does
  rw [e]
  refine ⟨change_is hp ?_, rfl⟩
  unfold gameOf
  show ({ t := tM m, a := ledTo (waysM m) m.a x, b := ledTo (waysM m) m.b y, p := m.p, steps := m.steps + 1, met := m.met + (if ledTo (waysM m) m.a x = ledTo (waysM m) m.b y then 1 else 0) } : Ks540.Game) = { t := tM m, a := ledTo (waysM m) m.a x, b := ledTo (waysM m) m.b y, p := m.p, steps := m.steps + 1, met := if ledTo (waysM m) m.a x = ledTo (waysM m) m.b y then m.met + 1 else m.met }
  congr 1
  split <;> rfl
theorem does_put : Does m past .put := by
  cases c : m.p with
  | some v =>
    have e : Ks540.does1 (stateOf (m, past)) .put = (stateOf (m, past), Ks540.no (-17)) := by
      show (match m.p with | some _ => _ | none => _) = _
      rw [c]
    exact does_of e rfl (by simp only [playW, c] <;> rfl)
  | none =>
    have e : Ks540.does1 (stateOf (m, past)) .put = (Ks540.change (stateOf (m, past)) { gameOf m with p := some m.a }, Ks540.no 0) := by
      show (match m.p with | some _ => _ | none => _) = _
      rw [c]
      rfl
    have e2 : playW m past .put = ((pebM m (some m.a), pastL past m), [0]) := by simp only [playW, c]
    unfold Does
    rw [e, e2]
    exact ⟨change_is hp rfl, rfl⟩
theorem does_take : Does m past .take := by
  cases c : m.p with
  | none =>
    have e : Ks540.does1 (stateOf (m, past)) .take = (stateOf (m, past), Ks540.no (-17)) := by
      show (match m.p with | none => _ | some v => _) = _
      rw [c]
    exact does_of e rfl (by simp only [playW, c] <;> rfl)
  | some v =>
    have e : Ks540.does1 (stateOf (m, past)) .take = if v = m.a then (Ks540.change (stateOf (m, past)) { gameOf m with p := none }, Ks540.no 0) else (stateOf (m, past), Ks540.no (-33)) := by
      show (match m.p with | none => _ | some v => _) = _
      rw [c]
      rfl
    by_cases c2 : v = m.a
    · rw [if_pos c2] at e
      have e2 : playW m past .take = ((pebM m none, pastL past m), [0]) := by simp only [playW, c, if_pos c2]
      unfold Does
      rw [e, e2]
      exact ⟨change_is hp rfl, rfl⟩
    · rw [if_neg c2] at e
      exact does_of e rfl (by simp only [playW, c, if_neg c2] <;> rfl)
omit hm hp in
theorem does_back : Does m past .back := by
  cases c : past.getLast? with
  | none =>
    have c' := List.getLast?_eq_none_iff.mp c
    subst c'
    exact ⟨rfl, rfl⟩
  | some g =>
    obtain ⟨pre, hpre⟩ := List.getLast?_eq_some_iff.mp c
    subst hpre
    have e2 : playW m (pre ++ [g]) .back = ((g, (pre ++ [g]).dropLast), [nI (pre ++ [g]).dropLast.length]) := by simp only [playW, c]
    have ew : wasOf (pre ++ [g]) = gameOf g :: wasOf pre := by
      unfold wasOf
      rw [List.reverse_append]
      rfl
    have e : Ks540.does1 (stateOf (m, pre ++ [g])) .back = ({ game := gameOf g, was := wasOf pre }, Ks540.no ((wasOf pre).length : Nat)) := by
      show (match wasOf (pre ++ [g]) with | [] => _ | h :: l => _) = _
      rw [ew]
    unfold Does
    rw [e, e2, List.dropLast_concat]
    refine ⟨rfl, ?_⟩
    unfold wasOf
    rw [List.length_map, List.length_reverse]
    rfl
theorem does_looks (i : Nat) : Does m past (.looks i) := by
  have e : Ks540.does1 (stateOf (m, past)) (.looks i) = if 2 ≤ i then (stateOf (m, past), Ks540.no (-2)) else (stateOf (m, past), { ret := Ks536.degree (tM m) (if i = 0 then m.a else m.b), out := [if m.p = some (if i = 0 then m.a else m.b) then 1 else 0, if m.a = m.b then 1 else 0] }) := rfl
  by_cases c : 2 ≤ i
  · rw [if_pos c] at e
    exact does_of e rfl (by simp only [playW, if_pos c] <;> rfl)
  · rw [if_neg c] at e
    refine does_of e ?_ (by simp only [playW, if_neg c] <;> rfl)
    rw [degree_is hm.ed]
    unfold ansL
    show nI _ :: [_, _] = [_, _, _]
    congr 1
    congr 1
    · exact ofNat_if _
    · congr 1
      exact ofNat_if _
theorem does_exits {u : Nat} (hu : u < m.n) : Does m past (.exits u) := by
  have e : Ks540.does1 (stateOf (m, past)) (.exits u) = (stateOf (m, past), { ret := Ks536.degree (tM m) u, out := (List.range (Ks536.degree (tM m) u)).flatMap fun e => match Ks536.out (tM m) u e with | some p => [p.1, p.2] | none => [] }) := by
    show Ks540.place (stateOf (m, past)) u (fun _ => _) = _
    rw [place_in hu]
    rfl
  refine does_of e ?_ rfl
  refine (congrArg (fun l => (Ks536.degree (tM m) u : Int) :: List.map Int.ofNat l) (exits_out hm u)).trans ?_
  show (Ks536.degree (tM m) u : Int) :: List.map Int.ofNat _ = _
  rw [degree_is hm.ed, List.map_flatMap]
  rfl
theorem does_walk {u : Nat} {w : List Nat} (hu : u < m.n) : Does m past (.walk u w) := by
  have e : Ks540.does1 (stateOf (m, past)) (.walk u w) = if Ks536.LONG < w.length then (stateOf (m, past), Ks540.no (-22)) else (stateOf (m, past), Ks540.rows (Ks536.walk (tM m) u w)) := by
    show Ks540.place (stateOf (m, past)) u (fun _ => _) = _
    rw [place_in hu]
    rfl
  by_cases c : 30 < w.length
  · rw [if_pos (show Ks536.LONG < w.length from c)] at e
    exact does_of e rfl (by simp only [playW, if_pos c] <;> rfl)
  · rw [if_neg (show ¬ Ks536.LONG < w.length from c), walk_is hm.ed] at e
    exact does_of e rfl (by simp only [playW, if_neg c] <;> rfl)
theorem does_apart {u v : Nat} (hu : u < m.n) (hv : v < m.n) : Does m past (.apart u v) := by
  have e : Ks540.does1 (stateOf (m, past)) (.apart u v) = match Ks536.apart (tM m) (tM m) u v with | none => (stateOf (m, past), Ks540.no (-6)) | some k => (stateOf (m, past), Ks540.no k) := by
    show Ks540.place _ u (fun _ => Ks540.place _ v _) = _
    rw [place_in hu, place_in hv]
    rfl
  rw [ap_is hm hu hv] at e
  cases c : apW (waysM m) u v with
  | none =>
    rw [c] at e
    exact does_of e rfl (by simp only [playW, c] <;> rfl)
  | some k =>
    rw [c] at e
    exact does_of e rfl (by simp only [playW, c] <;> rfl)
theorem does_classes : Does m past .classes := by
  have e : Ks540.does1 (stateOf (m, past)) .classes = (stateOf (m, past), Ks540.rows (Ks536.classes (tM m))) := rfl
  have hN : m.n - 1 ≤ endK (waysM m) := by
    unfold endK
    rw [hm.len]
    have : m.n * 1 ≤ m.n * m.n := Nat.mul_le_mul_left _ hm.pos
    omega
  have ec : Ks536.classes (tM m) = cls (waysM m) (endK (waysM m)) := classes_is hm.ed hm.ways hm.pos hN
  rw [ec] at e
  refine does_of e ?_ rfl
  unfold ansL Ks540.rows
  show ((cls (waysM m) (endK (waysM m))).length : Int) :: _ = _
  rw [cls_len, hm.len]
  rfl
theorem does_distance {u v : Nat} (hu : u < m.n) (hv : v < m.n) : Does m past (.distance u v) := by
  have e : Ks540.does1 (stateOf (m, past)) (.distance u v) = match Ks536.distance (tM m) u v with | none => (stateOf (m, past), Ks540.no (-33)) | some k => (stateOf (m, past), Ks540.no k) := by
    show Ks540.place _ u (fun _ => Ks540.place _ v _) = _
    rw [place_in hu, place_in hv]
    rfl
  have ed : Ks536.distance (tM m) u v = (allFar (waysM m) u).getD v none := distance_is hm.ed hm.ways hu hv
  rw [ed] at e
  cases c : (allFar (waysM m) u).getD v none with
  | none =>
    rw [c] at e
    exact does_of e rfl (by simp only [playW, c] <;> rfl)
  | some k =>
    rw [c] at e
    exact does_of e rfl (by simp only [playW, c] <;> rfl)
theorem alike_is {u v : Nat} (hu : u < m.n) (hv : v < m.n) : Ks536.alike (tM m) u v = !(apW (waysM m) u v).isSome := by
  unfold Ks536.alike
  rw [ap_is hm hu hv]
  cases apW (waysM m) u v <;> rfl
theorem does_shrink {u v : Nat} (hu : u < m.n) (hv : v < m.n) (j : Jo m) : Does m past (.shrink u v) := by
  have e : Ks540.does1 (stateOf (m, past)) (.shrink u v) = if Ks536.alike (tM m) u v = false then (stateOf (m, past), Ks540.no (-33)) else (stateOf (m, past), { ret := (Ks537.shrink (tM m) u v).1, out := (Ks537.shrink (tM m) u v).2.length :: (Ks537.shrink (tM m) u v).2 }) := by
    show Ks540.place _ u (fun _ => Ks540.place _ v (fun _ => Ks540.whole _ _)) = _
    rw [place_in hu, place_in hv, whole_in (jo_tog hm j)]
    rfl
  rw [alike_is hm hp hu hv, ← near_spec hm j hu hv] at e
  by_cases c : (apW (waysM m) u v).isSome = true
  · rw [c, if_pos (show (!true) = false from rfl)] at e
    exact does_of e rfl (by simp only [playW, if_pos c] <;> rfl)
  · rw [if_neg (fun z => c (by simpa using z))] at e
    exact does_of e rfl (by simp only [playW, if_neg c] <;> rfl)
theorem does_meets (d : Nat) (w : List Nat) : Does m past (.meets d w) := by
  have e : Ks540.does1 (stateOf (m, past)) (.meets d w) = if Ks536.LONG < w.length ∨ 20 < d then (stateOf (m, past), Ks540.no (-22)) else match Ks537.meets (tM m) m.a m.b d w with | none => (stateOf (m, past), Ks540.no (-33)) | some k => (stateOf (m, past), { ret := k, out := [Ks537.at_ (tM m) m.a 0 w k] }) := rfl
  by_cases c : 30 < w.length ∨ 20 < d
  · rw [if_pos (show Ks536.LONG < w.length ∨ 20 < d from c)] at e
    exact does_of e rfl (by simp only [playW, if_pos c] <;> rfl)
  · rw [if_neg (show ¬ (Ks536.LONG < w.length ∨ 20 < d) from c), ← meets_spec hm] at e
    cases c2 : meetK (waysM m) m.a m.b d w with
    | none =>
      rw [c2] at e
      exact does_of e rfl (by simp only [playW, if_neg c, c2] <;> rfl)
    | some k =>
      rw [c2] at e
      have hk : k ≤ w.length + d := by
        unfold meetK at c2
        rw [List.find?_range_eq_some] at c2
        have := List.mem_range.mp c2.2.1
        omega
      have e : Ks540.does1 (stateOf (m, past)) (.meets d w) = (stateOf (m, past), { ret := k, out := [Ks537.at_ (tM m) m.a 0 w k] }) := e
      rw [at_is hm, Nat.sub_zero, ← fst_get (m := m) hk] at e
      exact does_of e rfl (by simp only [playW, if_neg c, c2] <;> rfl)
theorem does_can (d : Nat) (j : Jo m) : Does m past (.can d) := by
  have e : Ks540.does1 (stateOf (m, past)) (.can d) = (stateOf (m, past), Ks540.no (if Ks536.alike (tM m) m.a m.b = false ∨ (Ks537.shrink (tM m) m.a m.b).1 ≤ d then 1 else 0)) := by
    show Ks540.whole (stateOf (m, past)) (fun _ => _) = _
    rw [whole_in (jo_tog hm j)]
    rfl
  rw [alike_is hm hp hm.a hm.b, ← near_spec hm j hm.a hm.b] at e
  by_cases c : (apW (waysM m) m.a m.b).isSome = true
  · rw [c, if_pos (.inl (show (!true) = false from rfl))] at e
    exact does_of e rfl (by simp only [playW, if_pos c] <;> rfl)
  · have c' : (apW (waysM m) m.a m.b).isSome = false := by simpa using c
    rw [c'] at e
    by_cases c2 : (nearW (waysM m) m.a m.b).1 ≤ d
    · rw [if_pos (.inr c2)] at e
      exact does_of e rfl (by simp only [playW, if_neg c, if_pos c2] <;> rfl)
    · rw [if_neg (fun z => by rcases z with z | z; cases z; exact c2 z)] at e
      exact does_of e rfl (by simp only [playW, if_neg c, if_neg c2] <;> rfl)
theorem does_found (d : Nat) (j : Jo m) : Does m past (.found d) := by
  have e : Ks540.does1 (stateOf (m, past)) (.found d) = if Ks537.LATER < d ∨ Ks537.FEW < Ks537.letters (tM m) then (stateOf (m, past), Ks540.no (-75)) else match Ks537.found (tM m) m.a m.b d with | none => (stateOf (m, past), Ks540.no (-33)) | some w => (stateOf (m, past), Ks540.rows w) := by
    show Ks540.whole (stateOf (m, past)) (fun _ => _) = _
    rw [whole_in (jo_tog hm j)]
    rfl
  have hlet : Ks537.letters (tM m) = mostW (waysM m) + 1 := letters_is hm.ed
  rw [hlet] at e
  by_cases c : 2 < d ∨ 4 < mostW (waysM m)
  · rw [if_pos (show Ks537.LATER < d ∨ Ks537.FEW < mostW (waysM m) + 1 by
      rcases c with c | c
      · exact .inl c
      · right
        show 5 < _
        omega)] at e
    exact does_of e rfl (by simp only [playW, if_pos c] <;> rfl)
  · rw [if_neg (show ¬ (Ks537.LATER < d ∨ Ks537.FEW < mostW (waysM m) + 1) by
      rintro (z | z)
      · exact c (.inl z)
      · have z : 5 < mostW (waysM m) + 1 := z
        exact c (.inr (by omega))), ← meet_spec hm hm.a hm.b (by omega)] at e
    cases c2 : meetW (waysM m) m.a m.b d with
    | none =>
      rw [c2] at e
      exact does_of e rfl (by simp only [playW, if_neg c, c2] <;> rfl)
    | some l =>
      rw [c2] at e
      exact does_of e rfl (by simp only [playW, if_neg c, c2] <;> rfl)
theorem does_soonest {h : Nat} (hh : h < m.n) (j : Jo m) : Does m past (.soonest h) := by
  have e : Ks540.does1 (stateOf (m, past)) (.soonest h) = if Ks538.FEW < m.n then (stateOf (m, past), Ks540.no (-75)) else match Ks538.best Ks538.worst (Ks538.all (tM m) h) with | none => (stateOf (m, past), Ks540.no (-33)) | some p => (stateOf (m, past), { ret := Ks538.worst p.2, out := p.1 }) := by
    show Ks540.place _ h (fun _ => Ks540.whole _ _) = _
    rw [place_in hh, whole_in (jo_tog hm j)]
    rfl
  by_cases c : 6 < m.n
  · rw [if_pos (show Ks538.FEW < m.n from c)] at e
    exact does_of e rfl (by simp only [playW, if_pos c] <;> rfl)
  · rw [if_neg (show ¬ Ks538.FEW < m.n from c)] at e
    obtain ⟨p, hp2⟩ := best_ex hm j hh worstL
    have hs := best_spec hm hh worstL
    rw [hp2] at hs
    cases c2 : Ks538.best Ks538.worst (Ks538.all (tM m) h) with
    | none =>
      have : Ks538.best worstL (Ks538.all (tM m) h) = none := c2
      rw [this] at hs
      cases hs
    | some q =>
      have c3 : Ks538.best worstL (Ks538.all (tM m) h) = some q := c2
      rw [c3] at hs
      have hs := Option.some.inj hs
      subst hs
      rw [c2] at e
      exact does_of e rfl (by simp only [playW, if_neg c, hp2] <;> rfl)
theorem does_mean {h : Nat} (hh : h < m.n) (j : Jo m) : Does m past (.mean h) := by
  have e : Ks540.does1 (stateOf (m, past)) (.mean h) = if Ks538.FEW < m.n then (stateOf (m, past), Ks540.no (-75)) else match Ks538.best (fun r => r.sum) (Ks538.all (tM m) h) with | none => (stateOf (m, past), Ks540.no (-33)) | some p => (stateOf (m, past), { ret := p.2.sum, out := p.1 }) := by
    show Ks540.place _ h (fun _ => Ks540.whole _ _) = _
    rw [place_in hh, whole_in (jo_tog hm j)]
    rfl
  by_cases c : 6 < m.n
  · rw [if_pos (show Ks538.FEW < m.n from c)] at e
    exact does_of e rfl (by simp only [playW, if_pos c] <;> rfl)
  · rw [if_neg (show ¬ Ks538.FEW < m.n from c)] at e
    obtain ⟨p, hp2⟩ := best_ex hm j hh List.sum
    have hs := best_spec hm hh List.sum
    rw [hp2] at hs
    cases c2 : Ks538.best (fun r => r.sum) (Ks538.all (tM m) h) with
    | none =>
      have : Ks538.best List.sum (Ks538.all (tM m) h) = none := c2
      rw [this] at hs
      cases hs
    | some q =>
      have c3 : Ks538.best List.sum (Ks538.all (tM m) h) = some q := c2
      rw [c3] at hs
      have hs := Option.some.inj hs
      subst hs
      rw [c2] at e
      exact does_of e rfl (by simp only [playW, if_neg c, hp2] <;> rfl)
theorem does_known {h : Nat} {o : List Nat} (hh : h < m.n) : Does m past (.known h o) := by
  have e : Ks540.does1 (stateOf (m, past)) (.known h o) = if Ks538.isOrder (tM m) h o = false then (stateOf (m, past), Ks540.no (-22)) else match Ks538.known (tM m) h o with | none => (stateOf (m, past), Ks540.no (-33)) | some r => (stateOf (m, past), Ks540.rows r) := by
    show Ks540.place (stateOf (m, past)) h (fun _ => _) = _
    rw [place_in hh]
    rfl
  have ho := isOrder_is (n := m.n) (l := m.links) hh o
  by_cases c : o.mergeSort (· ≤ ·) = allBut m.n h
  · have c' : ¬ (o.mergeSort (· ≤ ·) ≠ allBut m.n h) := fun z => z c
    rw [if_neg (fun z => by rw [ho.mpr c] at z; cases z)] at e
    have hin : ∀ x ∈ o, x < m.n := fun x hx => by
      have := (List.mergeSort_perm o (fun a b : Nat => decide (a ≤ b))).mem_iff.mpr hx
      have c2 : o.mergeSort (fun a b : Nat => decide (a ≤ b)) = allBut m.n h := c
      rw [c2] at this
      exact (allBut_mem.mp this).1
    have hk : Ks538.known (tM m) h o = knownW (waysM m) h o := known_is hm.ed hm.ways hm.sym hh hin
    rw [hk] at e
    cases c2 : knownW (waysM m) h o with
    | none =>
      rw [c2] at e
      exact does_of e rfl (by simp only [playW, if_neg c', c2] <;> rfl)
    | some r =>
      rw [c2] at e
      exact does_of e rfl (by simp only [playW, if_neg c', c2] <;> rfl)
  · rw [if_pos (by
      cases z : Ks538.isOrder (tM m) h o with
      | false => rfl
      | true => exact absurd (ho.mp z) c)] at e
    exact does_of e rfl (by simp only [playW, if_pos c] <;> rfl)
theorem does_pebble {u v : Nat} (hu : u < m.n) (hv : v < m.n) : Does m past (.pebble u v) := by
  have e : Ks540.does1 (stateOf (m, past)) (.pebble u v) = if Ks539.FEW < m.n then (stateOf (m, past), Ks540.no (-75)) else match Ks539.apart (tM m) (tM m) u v with | none => (stateOf (m, past), Ks540.no (-6)) | some w => (stateOf (m, past), Ks540.rows w) := by
    show Ks540.place _ u (fun _ => Ks540.place _ v _) = _
    rw [place_in hu, place_in hv]
    rfl
  by_cases c : 5 < m.n
  · rw [if_pos (show Ks539.FEW < m.n from c)] at e
    exact does_of e rfl (by simp only [playW, if_pos c] <;> rfl)
  · rw [if_neg (show ¬ Ks539.FEW < m.n from c), ← pebble_spec hm (by omega) hu hv] at e
    cases c2 : pebW (waysM m) u v with
    | none =>
      rw [c2] at e
      exact does_of e rfl (by simp only [playW, if_neg c, c2] <;> rfl)
    | some l =>
      rw [c2] at e
      exact does_of e rfl (by simp only [playW, if_neg c, c2] <;> rfl)
theorem does_same {u v : Nat} (hu : u < m.n) (hv : v < m.n) (j : Jo m) : Does m past (.same u v) := by
  have e : Ks540.does1 (stateOf (m, past)) (.same u v) = match Ks539.same (tM m) (tM m) u v with | none => (stateOf (m, past), Ks540.no (-33)) | some r => (stateOf (m, past), Ks540.rows r) := by
    show Ks540.place _ u (fun _ => Ks540.place _ v (fun _ => Ks540.whole _ _)) = _
    rw [place_in hu, place_in hv, whole_in (jo_tog hm j)]
    rfl
  have es : Ks539.same (tM m) (tM m) u v = namingW (waysM m) u v := same_is hm.ed hm.ways hu hv fun a b ha hb => by
    have := jo_rch hm j a b ha hb
    rw [hm.len] at this
    exact this
  rw [es] at e
  cases c : namingW (waysM m) u v with
  | none =>
    rw [c] at e
    exact does_of e rfl (by simp only [playW, c] <;> rfl)
  | some l =>
    rw [c] at e
    exact does_of e rfl (by simp only [playW, c] <;> rfl)
theorem does_state : Does m past .state := by
  have e : Ks540.does1 (stateOf (m, past)) .state = (stateOf (m, past), { ret := m.n, out := [m.a, m.b, match m.p with | none => 0 | some v => v + 1, if Ks536.joined (tM m) then 1 else 0, (wasOf past).length, m.links.length] ++ m.links.flatMap fun p => [p.1, p.2] }) := rfl
  rw [tog_is hm] at e
  refine does_of e ?_ rfl
  have hw : (wasOf past).length = past.length := by
    unfold wasOf
    rw [List.length_map, List.length_reverse]
  rw [hw]
  unfold ansL
  rw [List.map_append, List.map_flatMap]
  show nI m.n :: nI m.a :: nI m.b :: Int.ofNat _ :: Int.ofNat _ :: nI past.length :: nI m.links.length :: _ = nI m.n :: nI m.a :: nI m.b :: _ :: _ :: nI past.length :: nI m.links.length :: _
  congr 4
  · cases m.p <;> rfl
  · congr 1
    show Int.ofNat (if togB m = true then 1 else 0) = if togB m = true then 1 else 0
    split <;> rfl
theorem does_is (c : Cmd) (hb : begOf c = none) (pre : preC m c) : Does m past c := by
  cases c with
  | begin_ n => cases hb
  | link u v => exact does_link hm hp pre.1 pre.2
  | unlink i => exact does_unlink hm hp i
  | stand u v => exact does_stand hm hp pre.1 pre.2
  | step x y => exact does_step hm hp x y
  | put => exact does_put hm hp
  | take => exact does_take hm hp
  | back => exact does_back
  | looks i => exact does_looks hm hp i
  | exits u => exact does_exits hm hp pre
  | walk u w => exact does_walk hm hp pre.1
  | apart u v => exact does_apart hm hp pre.1 pre.2
  | classes => exact does_classes hm hp
  | distance u v => exact does_distance hm hp pre.1 pre.2
  | shrink u v => exact does_shrink hm hp pre.1 pre.2.1 pre.2.2
  | meets d w => exact does_meets hm hp d w
  | can d => exact does_can hm hp d pre
  | found d => exact does_found hm hp d pre
  | soonest h => exact does_soonest hm hp pre.1 pre.2
  | mean h => exact does_mean hm hp pre.1 pre.2
  | known h o => exact does_known hm hp pre.1
  | pebble u v => exact does_pebble hm hp pre.1 pre.2
  | same u v => exact does_same hm hp pre.1 pre.2.1 pre.2.2
  | count => exact ⟨rfl, rfl⟩
  | state => exact does_state hm hp
end
end Nw
end
section
set_option maxRecDepth 100000
set_option maxHeartbeats 400000
namespace Nw
open Ks536 (Net)
structure WSok (s : WS) : Prop where
  now : ∀ m, s.now = some m → MomOk m
  past : ∀ m ∈ s.past, MomOk m
  few : s.past.length ≤ 10
theorem pastL_ok {past : List Mom} {m : Mom} (h : ∀ q ∈ past, MomOk q) (hm : MomOk m) (hf : past.length ≤ 10) : (∀ q ∈ pastL past m, MomOk q) ∧ (pastL past m).length ≤ 10 := by
  have all : ∀ q ∈ past ++ [m], MomOk q := fun q hq => by
    rcases List.mem_append.mp hq with hq | hq
    · exact h q hq
    · simp only [List.mem_singleton] at hq
      rw [hq]
      exact hm
  unfold pastL
  split
  · refine ⟨fun q hq => all q (List.mem_of_mem_eraseIdx hq), ?_⟩
    rw [List.length_eraseIdx]
    simp only [List.length_append, List.length_cons, List.length_nil]
    split <;> omega
  · exact ⟨all, by omega⟩
theorem emptyM_ok {n : Nat} (h : 1 ≤ n ∧ n ≤ 7) : MomOk (emptyM n) := ⟨h.1, h.2, by show 0 ≤ 10; omega, (fun p hp => nomatch hp), by show 0 < n; omega, by show 0 < n; omega, fun q e => by cases e⟩
/-- what a call leaves is as it should be -/
theorem play_ok {m : Mom} {past : List Mom} (hm : MomOk m) (hp : ∀ q ∈ past, MomOk q) (hf : past.length ≤ 10) (c : Cmd) (hb : begOf c = none) (pre : preC m c) : WSok ⟨some (playW m past c).1.1, (playW m past c).1.2⟩ := by
  have keep : ∀ {p : PS}, p = (m, past) → WSok ⟨some p.1, p.2⟩ := fun {p} e => by
    subst e
    exact ⟨fun q e => by cases e; exact hm, hp, hf⟩
  have chg : ∀ {p : PS} {m' : Mom}, p = (m', pastL past m) → MomOk m' → WSok ⟨some p.1, p.2⟩ := fun {p m'} e h => by
    subst e
    exact ⟨fun q e => by cases e; exact h, (pastL_ok hp hm hf).1, (pastL_ok hp hm hf).2⟩
  cases c with
  | begin_ n => cases hb
  | link u v =>
    by_cases c1 : u = v
    · exact keep (by simp only [playW, if_pos c1])
    · by_cases c2 : (m.links.contains (u, v) || m.links.contains (v, u)) = true
      · exact keep (by simp only [playW, if_neg c1, if_pos c2])
      · by_cases c3 : m.links.length = 10
        · exact keep (by simp only [playW, if_neg c1, if_neg c2, if_pos c3])
        · refine chg (m' := linkM m (m.links ++ [(u, v)]) m.a m.b) (by simp only [playW, if_neg c1, if_neg c2, if_neg c3]) ?_
          refine linkM_ok hm (by have := hm.short; simp only [List.length_append, List.length_cons, List.length_nil]; omega) (fun p hp => ?_) hm.a hm.b
          rcases List.mem_append.mp hp with hp | hp
          · exact hm.ends p hp
          · simp only [List.mem_singleton] at hp
            subst hp
            exact ⟨pre.1, pre.2, c1⟩
  | unlink i =>
    by_cases c : m.links.length ≤ i
    · exact keep (by simp only [playW, if_pos c])
    · exact chg (m' := linkM m (m.links.eraseIdx i) m.a m.b) (by simp only [playW, if_neg c]) (linkM_ok hm (Nat.le_trans (List.length_eraseIdx_le _ _) hm.short) (fun p hp => hm.ends p (List.mem_of_mem_eraseIdx hp)) hm.a hm.b)
  | stand u v => exact chg (m' := linkM m m.links u v) rfl (linkM_ok hm hm.short hm.ends pre.1 pre.2)
  | step x y => exact chg (m' := stepM m x y) rfl (stepM_ok hm x y)
  | put =>
    cases c : m.p with
    | some v => exact keep (by simp only [playW, c])
    | none => exact chg (m' := pebM m (some m.a)) (by simp only [playW, c]) ⟨hm.pos, hm.few, hm.short, hm.ends, hm.a, hm.b, fun q e => by cases e; exact hm.a⟩
  | take =>
    cases c : m.p with
    | none => exact keep (by simp only [playW, c])
    | some v =>
      by_cases c2 : v = m.a
      · exact chg (m' := pebM m none) (by simp only [playW, c, if_pos c2]) ⟨hm.pos, hm.few, hm.short, hm.ends, hm.a, hm.b, fun q e => by cases e⟩
      · exact keep (by simp only [playW, c, if_neg c2])
  | back =>
    cases c : past.getLast? with
    | none => exact keep (by simp only [playW, c])
    | some g =>
      have e : (playW m past .back).1 = (g, past.dropLast) := by simp only [playW, c]
      rw [e]
      exact ⟨fun q e => by cases e; exact hp g (List.mem_of_getLast? c), fun q hq => hp q (List.dropLast_subset _ hq), by rw [List.length_dropLast]; omega⟩
  | looks i => exact keep (by simp only [playW]; split <;> rfl)
  | exits u => exact keep rfl
  | walk u w => exact keep (by simp only [playW]; split <;> rfl)
  | apart u v => exact keep (by simp only [playW]; split <;> rfl)
  | classes => exact keep rfl
  | distance u v => exact keep (by simp only [playW]; split <;> rfl)
  | shrink u v => exact keep (by simp only [playW]; split <;> rfl)
  | meets d w => exact keep (by simp only [playW]; split; rfl; split <;> rfl)
  | can d => exact keep (by simp only [playW]; split <;> rfl)
  | found d => exact keep (by simp only [playW]; split; rfl; split <;> rfl)
  | soonest h => exact keep (by simp only [playW]; split; rfl; split <;> rfl)
  | mean h => exact keep (by simp only [playW]; split; rfl; split <;> rfl)
  | known h o => exact keep (by simp only [playW]; split; rfl; split <;> rfl)
  | pebble u v => exact keep (by simp only [playW]; split; rfl; split <;> rfl)
  | same u v => exact keep (by simp only [playW]; split <;> rfl)
  | count => exact keep rfl
  | state => exact keep rfl
/-- what was looked at ahead of the call -/
theorem pre_is {m : Mom} (hm : MomOk m) (c : Cmd) (h1 : ¬ (placesC c).any (fun x => decide (m.n ≤ x)) = true) (h2 : ¬ (jnd (numC c) && !togB m) = true) (h3 : (rowC c).length ≤ 50) : preC m c := by
  refine pre_ok c (fun x hx => ?_) (fun hj => ?_) h3
  · have := List.any_eq_false.mp (Bool.eq_false_iff.mpr h1) x hx
    simp at this
    exact this
  · refine tog_jo hm ?_
    cases z : togB m with
    | true => rfl
    | false => exact absurd (by rw [hj, z]; rfl) h2
theorem act_ok {s : WS} (h : WSok s) (c : Cmd) (hr : (rowC c).length ≤ 50) : WSok (actW s c).1 := by
  unfold actW
  cases hb : begOf c with
  | some n =>
    show WSok (if 1 ≤ n ∧ n ≤ 7 then _ else _ : WS × List Int).1
    split
    · rename_i c
      exact ⟨fun q e => by cases e; exact emptyM_ok c, (fun m hm => nomatch hm), by show 0 ≤ 10; omega⟩
    · exact h
  | none =>
    cases hn : s.now with
    | none => exact h
    | some m =>
      have hm := h.now m hn
      show WSok (if _ then _ else _ : WS × List Int).1
      split
      · exact h
      · split
        · exact h
        · rename_i c1 c2
          exact play_ok hm h.past h.few c hb (pre_is hm c c1 c2 hr)
def absOf (s : WS) : Ks540.Abs := s.now.map fun m => stateOf (m, s.past)
theorem place_out {s : Ks540.State} {u : Nat} {f : Unit → Ks540.State × Ks540.Ans} (h : s.game.t.n ≤ u) : Ks540.place s u f = (s, Ks540.no (-2)) := if_pos h
theorem place_two {s : Ks540.State} {u v : Nat} {f : Unit → Ks540.State × Ks540.Ans} (h : s.game.t.n ≤ u ∨ s.game.t.n ≤ v) : (Ks540.place s u fun _ => Ks540.place s v f) = (s, Ks540.no (-2)) := by
  by_cases c : s.game.t.n ≤ u
  · exact place_out c
  · rw [place_in (by omega)]
    exact place_out (by omega)
theorem any_one {n u : Nat} (h : [u].any (fun x => decide (n ≤ x)) = true) : n ≤ u := by simpa using h
theorem any_two {n u v : Nat} (h : [u, v].any (fun x => decide (n ≤ x)) = true) : n ≤ u ∨ n ≤ v := by simpa using h
theorem does_far {m : Mom} {past : List Mom} (c : Cmd) (h : (placesC c).any (fun x => decide (m.n ≤ x)) = true) : Ks540.does1 (stateOf (m, past)) c = (stateOf (m, past), Ks540.no (-2)) := by
  cases c with
  | link u v => exact place_two (any_two h)
  | stand u v => exact place_two (any_two h)
  | exits u =>
    show Ks540.place (stateOf (m, past)) u (fun _ => _) = _
    exact place_out (s := stateOf (m, past)) (u := u) (any_one (u := u) (n := m.n) h)
  | walk u w =>
    show Ks540.place (stateOf (m, past)) u (fun _ => _) = _
    exact place_out (s := stateOf (m, past)) (u := u) (any_one (u := u) (n := m.n) h)
  | apart u v => exact place_two (any_two h)
  | distance u v => exact place_two (any_two h)
  | shrink u v => exact place_two (any_two h)
  | soonest u =>
    show Ks540.place (stateOf (m, past)) u (fun _ => _) = _
    exact place_out (s := stateOf (m, past)) (u := u) (any_one (u := u) (n := m.n) h)
  | mean u =>
    show Ks540.place (stateOf (m, past)) u (fun _ => _) = _
    exact place_out (s := stateOf (m, past)) (u := u) (any_one (u := u) (n := m.n) h)
  | known u o =>
    show Ks540.place (stateOf (m, past)) u (fun _ => _) = _
    exact place_out (s := stateOf (m, past)) (u := u) (any_one (u := u) (n := m.n) h)
  | pebble u v => exact place_two (any_two h)
  | same u v => exact place_two (any_two h)
  | _ => cases h
theorem whole_out {s : Ks540.State} {f : Unit → Ks540.State × Ks540.Ans} (h : Ks536.joined s.game.t = false) : Ks540.whole s f = (s, Ks540.no (-35)) := if_neg (by rw [h]; exact Bool.false_ne_true)
theorem all_one {n u : Nat} (h : ¬ [u].any (fun x => decide (n ≤ x)) = true) : u < n := by simpa using h
theorem all_two {n u v : Nat} (h : ¬ [u, v].any (fun x => decide (n ≤ x)) = true) : u < n ∧ v < n := by simpa using h
theorem does_apart_net {m : Mom} {past : List Mom} (hm : MomOk m) (c : Cmd) (h : ¬ (placesC c).any (fun x => decide (m.n ≤ x)) = true) (h2 : (jnd (numC c) && !togB m) = true) : Ks540.does1 (stateOf (m, past)) c = (stateOf (m, past), Ks540.no (-35)) := by
  rw [Bool.and_eq_true] at h2
  have hj : Ks536.joined (tM m) = false := by
    rw [tog_is hm]
    have := h2.2
    cases z : togB m with
    | false => rfl
    | true => rw [z] at this; cases this
  have two : ∀ {u v : Nat} {f : Unit → Ks540.State × Ks540.Ans}, u < m.n ∧ v < m.n → (Ks540.place (stateOf (m, past)) u fun _ => Ks540.place (stateOf (m, past)) v fun _ => Ks540.whole (stateOf (m, past)) f) = (stateOf (m, past), Ks540.no (-35)) := fun {u v f} q => by
    rw [place_in q.1, place_in q.2, whole_out hj]
  have one : ∀ {u : Nat} {f : Unit → Ks540.State × Ks540.Ans}, u < m.n → (Ks540.place (stateOf (m, past)) u fun _ => Ks540.whole (stateOf (m, past)) f) = (stateOf (m, past), Ks540.no (-35)) := fun {u f} q => by
    rw [place_in q, whole_out hj]
  cases c with
  | shrink u v => exact two (all_two h)
  | can d =>
    show Ks540.whole (stateOf (m, past)) (fun _ => _) = _
    exact whole_out (s := stateOf (m, past)) hj
  | found d =>
    show Ks540.whole (stateOf (m, past)) (fun _ => _) = _
    exact whole_out (s := stateOf (m, past)) hj
  | soonest u => exact one (all_one h)
  | mean u => exact one (all_one h)
  | same u v => exact two (all_two h)
  | _ => cases h2.1
theorem act_is {s : WS} (h : WSok s) (c : Cmd) (hr : (rowC c).length ≤ 50) : (Ks540.act (absOf s) c).1 = absOf (actW s c).1 ∧ ansL (Ks540.act (absOf s) c).2 = (actW s c).2 := by
  obtain ⟨now, past⟩ := s
  cases hb : begOf c with
  | some n =>
    have hc := beg_is hb
    subst hc
    have ea : actW ⟨now, past⟩ (.begin_ n) = if 1 ≤ n ∧ n ≤ 7 then (⟨some (emptyM n), []⟩, [0]) else (⟨now, past⟩, [-22]) := rfl
    rw [ea]
    cases now with
    | none =>
      have e : Ks540.act (absOf ⟨none, past⟩) (.begin_ n) = if n < 1 ∨ Ks536.NODES < n then (none, Ks540.no (-22)) else (some (Ks540.fresh n), Ks540.no 0) := rfl
      rw [e]
      by_cases z : 1 ≤ n ∧ n ≤ 7
      · rw [if_pos z, if_neg (show ¬ (n < 1 ∨ Ks536.NODES < n) by show ¬ (n < 1 ∨ 7 < n); omega)]
        exact ⟨rfl, rfl⟩
      · rw [if_neg z, if_pos (show n < 1 ∨ Ks536.NODES < n by show n < 1 ∨ 7 < n; omega)]
        exact ⟨rfl, rfl⟩
    | some m =>
      have e : Ks540.act (absOf ⟨some m, past⟩) (.begin_ n) = (fun x : Ks540.State × Ks540.Ans => (some x.1, x.2)) (if n < 1 ∨ Ks536.NODES < n then (stateOf (m, past), Ks540.no (-22)) else (Ks540.fresh n, Ks540.no 0)) := rfl
      rw [e]
      by_cases z : 1 ≤ n ∧ n ≤ 7
      · rw [if_pos z, if_neg (show ¬ (n < 1 ∨ Ks536.NODES < n) by show ¬ (n < 1 ∨ 7 < n); omega)]
        exact ⟨rfl, rfl⟩
      · rw [if_neg z, if_pos (show n < 1 ∨ Ks536.NODES < n by show n < 1 ∨ 7 < n; omega)]
        exact ⟨rfl, rfl⟩
  | none =>
    cases now with
    | none =>
      have ea : actW ⟨none, past⟩ c = (⟨none, past⟩, [-61]) := by
        unfold actW
        rw [hb]
      have e : Ks540.act (absOf ⟨none, past⟩) c = (none, Ks540.no (-61)) := by
        cases c <;> first | (cases hb; done) | rfl
      rw [ea, e]
      exact ⟨rfl, rfl⟩
    | some m =>
      have hm := h.now m rfl
      have ea : actW ⟨some m, past⟩ c = if (placesC c).any (fun x => decide (m.n ≤ x)) = true then (⟨some m, past⟩, [-2]) else if (jnd (numC c) && !togB m) = true then (⟨some m, past⟩, [-35]) else (⟨some (playW m past c).1.1, (playW m past c).1.2⟩, (playW m past c).2) := by
        unfold actW
        rw [hb]
      have e : Ks540.act (absOf ⟨some m, past⟩) c = (some (Ks540.does1 (stateOf (m, past)) c).1, (Ks540.does1 (stateOf (m, past)) c).2) := rfl
      rw [ea, e]
      by_cases c1 : (placesC c).any (fun x => decide (m.n ≤ x)) = true
      · rw [if_pos c1, does_far c c1]
        exact ⟨rfl, rfl⟩
      · rw [if_neg c1]
        by_cases c2 : (jnd (numC c) && !togB m) = true
        · rw [if_pos c2, does_apart_net hm c c1 c2]
          exact ⟨rfl, rfl⟩
        · rw [if_neg c2]
          obtain ⟨d1, d2⟩ := does_is hm h.few c hb (pre_is hm c c1 c2 hr)
          exact ⟨congrArg some d1, d2⟩
end Nw
end
section
set_option maxRecDepth 100000
set_option maxHeartbeats 400000
namespace Nw
def mkCmd : Nat → List Nat → List Nat → Cmd
  | 0, a, _ => .begin_ (a.getD 0 0)
  | 1, a, _ => .link (a.getD 0 0) (a.getD 1 0)
  | 2, a, _ => .unlink (a.getD 0 0)
  | 3, a, _ => .stand (a.getD 0 0) (a.getD 1 0)
  | 4, a, _ => .step (a.getD 0 0) (a.getD 1 0)
  | 5, _, _ => .put
  | 6, _, _ => .take
  | 7, _, _ => .back
  | 8, a, _ => .looks (a.getD 0 0)
  | 9, a, _ => .exits (a.getD 0 0)
  | 10, a, r => .walk (a.getD 0 0) r
  | 11, a, _ => .apart (a.getD 0 0) (a.getD 1 0)
  | 12, _, _ => .classes
  | 13, a, _ => .distance (a.getD 0 0) (a.getD 1 0)
  | 14, a, _ => .shrink (a.getD 0 0) (a.getD 1 0)
  | 15, a, r => .meets (a.getD 0 0) r
  | 16, a, _ => .can (a.getD 0 0)
  | 17, a, _ => .found (a.getD 0 0)
  | 18, a, _ => .soonest (a.getD 0 0)
  | 19, a, _ => .mean (a.getD 0 0)
  | 20, a, r => .known (a.getD 0 0) r
  | 21, a, _ => .pebble (a.getD 0 0) (a.getD 1 0)
  | 22, a, _ => .same (a.getD 0 0) (a.getD 1 0)
  | 23, _, _ => .count
  | _, _, _ => .state
/-- the rows of a call, as they're handed in -/
abbrev rowsI (q : Nat) (row : List Nat) : List (List Int) := if rws q = 1 then [iN row] else []
theorem nats_iN (l : List Nat) : Ks540Neutral.nats (iN l) = l := by
  unfold Ks540Neutral.nats iN
  rw [List.map_map]
  exact List.map_id'' (fun n => rfl) l
theorem len_two : ∀ {l : List Nat}, l.length = 2 → ∃ a b, l = [a, b]
  | [a, b], _ => ⟨a, b, rfl⟩
  | [], h => by cases h
  | [_], h => by cases h
  | _ :: _ :: _ :: _, h => by simp at h
structure MkOk (q : Nat) (args row : List Nat) : Prop where
  num : numC (mkCmd q args row) = q
  arg : argsOf (mkCmd q args row) = args
  rw_ : rowOf (mkCmd q args row) = if rws q = 1 then some row else none
  step : ∀ S, Ks540Neutral.step S (PyKs540.whole (((q : Int) :: iN args) :: rowsI q row)) = ((Ks540.act S (mkCmd q args row)).1, ansL (Ks540.act S (mkCmd q args row)).2)
theorem mk_ok {q : Nat} {args row : List Nat} (hq : q < 25) (hl : args.length = nums q) : MkOk q args row := by
  have h : q = 0 ∨ q = 1 ∨ q = 2 ∨ q = 3 ∨ q = 4 ∨ q = 5 ∨ q = 6 ∨ q = 7 ∨ q = 8 ∨ q = 9 ∨ q = 10 ∨ q = 11 ∨ q = 12 ∨ q = 13 ∨ q = 14 ∨ q = 15 ∨ q = 16 ∨ q = 17 ∨ q = 18 ∨ q = 19 ∨ q = 20 ∨ q = 21 ∨ q = 22 ∨ q = 23 ∨ q = 24 := by omega
  rcases h with rfl | rfl | rfl | rfl | rfl | rfl | rfl | rfl | rfl | rfl | rfl | rfl | rfl | rfl | rfl | rfl | rfl | rfl | rfl | rfl | rfl | rfl | rfl | rfl | rfl
  case inr.inr.inr.inr.inr.inr.inr.inr.inr.inr.inl =>
    obtain ⟨a, rfl⟩ := List.length_eq_one_iff.mp hl
    refine ⟨rfl, rfl, rfl, fun S => ?_⟩
    show Ks540Neutral.told (Ks540.act S (.walk a (Ks540Neutral.nats (iN row)))) = _
    rw [nats_iN]
    rfl
  case inr.inr.inr.inr.inr.inr.inr.inr.inr.inr.inr.inr.inr.inr.inr.inl =>
    obtain ⟨a, rfl⟩ := List.length_eq_one_iff.mp hl
    refine ⟨rfl, rfl, rfl, fun S => ?_⟩
    show Ks540Neutral.told (Ks540.act S (.meets a (Ks540Neutral.nats (iN row)))) = _
    rw [nats_iN]
    rfl
  case inr.inr.inr.inr.inr.inr.inr.inr.inr.inr.inr.inr.inr.inr.inr.inr.inr.inr.inr.inr.inl =>
    obtain ⟨a, rfl⟩ := List.length_eq_one_iff.mp hl
    refine ⟨rfl, rfl, rfl, fun S => ?_⟩
    show Ks540Neutral.told (Ks540.act S (.known a (Ks540Neutral.nats (iN row)))) = _
    rw [nats_iN]
    rfl
  all_goals first
    | (obtain ⟨a, rfl⟩ := List.length_eq_one_iff.mp hl
       exact ⟨rfl, rfl, rfl, fun S => rfl⟩)
    | (obtain ⟨a, b, rfl⟩ := len_two hl
       exact ⟨rfl, rfl, rfl, fun S => rfl⟩)
    | (have h0 := List.length_eq_zero_iff.mp hl
       subst h0
       exact ⟨rfl, rfl, rfl, fun S => rfl⟩)
theorem shape_is (q : Nat) : PyKs540.shape (q : Int) = if q < 25 then some (nums q, rws q) else none := by
  by_cases h : q < 25
  · rw [if_pos h]
    have : ∀ q : Nat, q < 25 → PyKs540.shape (q : Int) = some (nums q, rws q) := by decide
    exact this q h
  · rw [if_neg h]
    unfold PyKs540.shape
    repeat rw [if_neg (by omega)]
theorem rws_le {q : Nat} (h : q < 25) : rws q = 0 ∨ rws q = 1 := by
  have : ∀ q, q < 25 → rws q = 0 ∨ rws q = 1 := by decide
  exact this q h
/-- rows are short -/
theorem row_short {q : Nat} (hq : q < 25) (hr : rws q = 1) {args row : List Nat} (h : PyInside.call PyKs540.bound (((q : Int) :: iN args) :: [iN row]) = true) : row.length ≤ 50 := by
  have hq3 : q = 10 ∨ q = 15 ∨ q = 20 := by
    have : ∀ q, q < 25 → rws q = 1 → q = 10 ∨ q = 15 ∨ q = 20 := by decide
    exact this q hq hr
  have h : (PyInside.each (PyKs540.bound (q : Int)).1 (iN args) && PyInside.lists (PyKs540.bound (q : Int)).2 [iN row]) = true := h
  rw [Bool.and_eq_true] at h
  have h := h.2
  have key : ∀ {lo hi : Int} {least most : Nat}, most ≤ 50 → PyInside.lists [(lo, hi, least, most)] [iN row] = true → row.length ≤ 50 := fun {lo hi least most} hm h => by
    have h : (decide (least ≤ (iN row).length) && decide ((iN row).length ≤ most) && (iN row).all (PyInside.within lo hi) && true) = true := h
    simp only [Bool.and_eq_true, decide_eq_true_iff, List.length_map] at h
    omega
  rcases hq3 with rfl | rfl | rfl
  · exact key (most := 40) (by decide) h
  · exact key (most := 40) (by decide) h
  · exact key (most := 12) (by decide) h
theorem iN_drop (l : List Nat) (i : Nat) : (iN l).drop i = iN (l.drop i) := by rw [iN, iN, List.map_drop]
theorem iN_take (l : List Nat) (i : Nat) : (iN l).take i = iN (l.take i) := by rw [iN, iN, List.map_take]
theorem drop_at {ns : List Nat} {i p : Nat} (h : ns[i]? = some p) : ns.drop i = p :: ns.drop (i + 1) := by
  obtain ⟨h1, h2⟩ := List.getElem?_eq_some_iff.mp h
  rw [List.drop_eq_getElem_cons h1, h2]
/-- one call read -/
theorem call_read {ns : List Nat} {at_ p : Nat} {c : List (List Int)} {t : List Int} (hp : ns[at_]? = some p) (h : PyFlat.call PyKs540.shape (iN (ns.drop at_)) = some (c, t)) (hin : PyInside.call PyKs540.bound c = true) :
    ∃ cmd, CallOk ns at_ ∧ numC cmd = ns.getD at_ 0 ∧ argsOf cmd = callArgs ns at_ ∧ rowOf cmd = callRowO ns at_ ∧ (rowC cmd).length ≤ 50 ∧ t = iN (ns.drop (at_ + callLen ns at_)) ∧ at_ + callLen ns at_ ≤ ns.length ∧
      ∀ S, Ks540Neutral.step S (PyKs540.whole c) = ((Ks540.act S cmd).1, ansL (Ks540.act S cmd).2) := by
  have hatl := (List.getElem?_eq_some_iff.mp hp).1
  rw [drop_at hp] at h
  have h : (match PyKs540.shape (p : Int) with
    | none => none
    | some (n, k) => if (iN (ns.drop (at_ + 1))).length < n then none else match PyFlat.rows k ((iN (ns.drop (at_ + 1))).drop n) with
      | none => none
      | some (xs, t) => some (((p : Int) :: (iN (ns.drop (at_ + 1))).take n) :: xs, t)) = some (c, t) := h
  rw [shape_is] at h
  by_cases h25 : p < 25
  · rw [if_pos h25] at h
    have h : (if (iN (ns.drop (at_ + 1))).length < nums p then none else match PyFlat.rows (rws p) ((iN (ns.drop (at_ + 1))).drop (nums p)) with
      | none => none
      | some (xs, t) => some (((p : Int) :: (iN (ns.drop (at_ + 1))).take (nums p)) :: xs, t)) = some (c, t) := h
    by_cases hl : (iN (ns.drop (at_ + 1))).length < nums p
    · rw [if_pos hl] at h
      cases h
    · rw [if_neg hl, iN_drop, iN_take, List.drop_drop] at h
      rw [List.length_map, List.length_drop] at hl
      have hgp := getD_of' hp
      have hargs : ((ns.drop (at_ + 1)).take (nums p)).length = nums p := by
        rw [List.length_take, List.length_drop]
        omega
      have eargs : callArgs ns at_ = (ns.drop (at_ + 1)).take (nums p) := by
        unfold callArgs
        rw [hgp]
      rcases rws_le h25 with hr | hr
      · rw [hr] at h
        have h : some (((p : Int) :: iN ((ns.drop (at_ + 1)).take (nums p))) :: [], iN (ns.drop (at_ + 1 + nums p))) = some (c, t) := h
        cases h
        have M := mk_ok (row := []) h25 hargs
        have hr1 : ¬ rws p = 1 := by omega
        have elen : callLen ns at_ = 1 + nums p := by
          unfold callLen
          rw [hgp, if_neg hr1]
          omega
        refine ⟨_, ⟨p, hp, h25, fun z => absurd z hr1⟩, by rw [hgp]; exact M.num, by rw [eargs]; exact M.arg, ?_, ?_, ?_, by rw [elen]; omega, fun S => ?_⟩
        · rw [M.rw_, if_neg hr1]
          unfold callRowO
          rw [hgp, if_neg hr1]
        · unfold rowC
          rw [M.rw_, if_neg hr1]
          exact Nat.zero_le _
        · rw [elen, show at_ + (1 + nums p) = at_ + 1 + nums p by omega]
        · have := M.step S
          unfold rowsI at this
          rw [if_neg hr1] at this
          exact this
      · rw [hr] at h
        cases hk : ns[at_ + 1 + nums p]? with
        | none =>
          have hnil : ns.drop (at_ + 1 + nums p) = [] := List.drop_eq_nil_of_le (List.getElem?_eq_none_iff.mp hk)
          rw [hnil] at h
          cases h
        | some k =>
          have hkl := (List.getElem?_eq_some_iff.mp hk).1
          rw [drop_at hk] at h
          have h : (match (match (if 0 ≤ (k : Int) ∧ ((k : Int)).toNat ≤ (iN (ns.drop (at_ + 1 + nums p + 1))).length then some ((iN (ns.drop (at_ + 1 + nums p + 1))).take ((k : Int)).toNat, (iN (ns.drop (at_ + 1 + nums p + 1))).drop ((k : Int)).toNat) else none) with
              | none => none
              | some (x, s) => some ([x], s)) with
            | none => none
            | some (xs, t) => some (((p : Int) :: iN ((ns.drop (at_ + 1)).take (nums p))) :: xs, t)) = some (c, t) := h
          rw [Int.toNat_natCast, List.length_map] at h
          by_cases hkk : 0 ≤ (k : Int) ∧ k ≤ (ns.drop (at_ + 1 + nums p + 1)).length
          · rw [if_pos hkk, iN_take, iN_drop, List.drop_drop] at h
            have h : some (((p : Int) :: iN ((ns.drop (at_ + 1)).take (nums p))) :: [iN ((ns.drop (at_ + 1 + nums p + 1)).take k)], iN (ns.drop (at_ + 1 + nums p + 1 + k))) = some (c, t) := h
            cases h
            have M := mk_ok (row := (ns.drop (at_ + 1 + nums p + 1)).take k) h25 hargs
            have hgk := getD_of' hk
            have elen : callLen ns at_ = 1 + nums p + (1 + k) := by
              unfold callLen
              rw [hgp, if_pos hr, hgk]
            have hlk := hkk.2
            rw [List.length_drop] at hlk
            refine ⟨_, ⟨p, hp, h25, fun _ => hkl⟩, by rw [hgp]; exact M.num, by rw [eargs]; exact M.arg, ?_, ?_, ?_, by rw [elen]; omega, fun S => ?_⟩
            · rw [M.rw_, if_pos hr]
              unfold callRowO callRow
              rw [hgp, if_pos hr, hgk]
            · unfold rowC
              rw [M.rw_, if_pos hr]
              exact row_short h25 hr hin
            · rw [elen, show at_ + (1 + nums p + (1 + k)) = at_ + 1 + nums p + 1 + k by omega]
            · have := M.step S
              unfold rowsI at this
              rw [if_pos hr] at this
              exact this
          · rw [if_neg hkk] at h
            cases h
  · rw [if_neg h25] at h
    cases h
theorem parse_all {ns : List Nat} : ∀ (f at_ : Nat) (raw : List (List (List Int))), PyFlat.calls PyKs540.shape f (iN (ns.drop at_)) = some raw → PyInside.calls PyKs540.bound raw = true → at_ ≤ ns.length →
    ∃ cs, Parsed ns at_ cs ∧ ∀ s, WSok s → PyFlat.played Ks540Neutral.step (absOf s) (raw.map PyKs540.whole) = runW s cs := by
  intro f
  induction f with
  | zero =>
    intro at_ raw h hin hle
    cases hp : ns[at_]? with
    | none =>
      have hl := List.getElem?_eq_none_iff.mp hp
      have hd : ns.drop at_ = [] := List.drop_eq_nil_of_le hl
      rw [hd] at h
      have h : some [] = some raw := h
      cases h
      have : at_ = ns.length := by omega
      subst this
      exact ⟨[], .nil, fun s _ => rfl⟩
    | some p =>
      rw [drop_at hp] at h
      cases h
  | succ f ih =>
    intro at_ raw h hin hle
    cases hp : ns[at_]? with
    | none =>
      have hl := List.getElem?_eq_none_iff.mp hp
      have hd : ns.drop at_ = [] := List.drop_eq_nil_of_le hl
      rw [hd] at h
      have h : some [] = some raw := h
      cases h
      have : at_ = ns.length := by omega
      subst this
      exact ⟨[], .nil, fun s _ => rfl⟩
    | some p =>
      have h : PyFlat.calls PyKs540.shape (f + 1) (iN (p :: ns.drop (at_ + 1))) = some raw := by
        rw [← drop_at hp]
        exact h
      have h : (match PyFlat.call PyKs540.shape (iN (p :: ns.drop (at_ + 1))) with
        | none => none
        | some (c, t) => match PyFlat.calls PyKs540.shape f t with
          | none => none
          | some cs => some (c :: cs)) = some raw := h
      rw [← drop_at hp] at h
      cases e : PyFlat.call PyKs540.shape (iN (ns.drop at_)) with
      | none =>
        rw [e] at h
        cases h
      | some ct =>
        obtain ⟨c, t⟩ := ct
        rw [e] at h
        have h : (match PyFlat.calls PyKs540.shape f t with
          | none => none
          | some cs => some (c :: cs)) = some raw := h
        cases e2 : PyFlat.calls PyKs540.shape f t with
        | none =>
          rw [e2] at h
          cases h
        | some rs =>
          rw [e2] at h
          have h : some (c :: rs) = some raw := h
          cases h
          have hin : (PyInside.call PyKs540.bound c && PyInside.calls PyKs540.bound rs) = true := hin
          rw [Bool.and_eq_true] at hin
          obtain ⟨cmd, h1, h2, h3, h4, h5, h6, h7, h8⟩ := call_read hp e hin.1
          rw [h6] at e2
          obtain ⟨cs, P, R⟩ := ih _ rs e2 hin.2 h7
          refine ⟨cmd :: cs, .cons h1 h2 h3 h4 h5 P, fun s hs => ?_⟩
          obtain ⟨a1, a2⟩ := act_is hs cmd h5
          show (Ks540Neutral.step (absOf s) (PyKs540.whole c)).2 :: PyFlat.played Ks540Neutral.step (Ks540Neutral.step (absOf s) (PyKs540.whole c)).1 (rs.map PyKs540.whole) = (actW s cmd).2 :: runW (actW s cmd).1 cs
          rw [h8]
          show ansL (Ks540.act (absOf s) cmd).2 :: PyFlat.played Ks540Neutral.step (Ks540.act (absOf s) cmd).1 (rs.map PyKs540.whole) = _
          rw [a1, a2, R _ (act_ok hs cmd h5)]
/-- what is due of a list of calls that may be handed in -/
theorem answers_is {l : List Int} (h0 : ∀ x ∈ l, 0 ≤ x) (h : PyKs540.answers_asked l = true) : ∃ cs, Parsed (l.map Int.toNat) 0 cs ∧ PyKs540.answers l = toldL (runW ⟨none, []⟩ cs) ∧ (toldL (runW ⟨none, []⟩ cs)).length ≤ 10000000 := by
  have el : iN (l.map Int.toNat) = l := by
    rw [iN, List.map_map]
    exact (List.map_congr_left fun x hx => Int.toNat_of_nonneg (h0 x hx)).trans (List.map_id l)
  unfold PyKs540.answers_asked at h
  cases e : PyFlat.calls PyKs540.shape l.length l with
  | none =>
    rw [e] at h
    cases h
  | some raw =>
    rw [e] at h
    have h : (!raw.isEmpty && PyFlat.atMost 300 raw && PyInside.calls PyKs540.bound raw && Ks540Neutral.asked (raw.map PyKs540.whole) && PyFlat.short 10000000 (PyKs540.answers l)) = true := h
    simp only [Bool.and_eq_true] at h
    obtain ⟨⟨⟨_, hin⟩, _⟩, hshort⟩ := h
    have e' : PyFlat.calls PyKs540.shape l.length (iN ((l.map Int.toNat).drop 0)) = some raw := by
      rw [List.drop_zero, el]
      exact e
    obtain ⟨cs, P, R⟩ := parse_all l.length 0 raw e' hin (Nat.zero_le _)
    have R0 := R ⟨none, []⟩ ⟨(fun m e => by cases e), (fun m hm => nomatch hm), (by show 0 ≤ 10; omega)⟩
    have ea : PyKs540.answers l = toldL (runW ⟨none, []⟩ cs) := by
      unfold PyKs540.answers PyKs540.calls
      rw [e, ← R0]
      rfl
    refine ⟨cs, P, ea, ?_⟩
    rw [← ea]
    exact of_decide_eq_true hshort
end Nw
end
section
set_option maxRecDepth 100000
set_option maxHeartbeats 4000000
namespace Nw
open PySem PySem.Spec PyProof.Rows L2 LamX NdefX
section
variable {P : Program} {w : World} {K : PySem.W.Frag} {h : Heap} {mg : Str → Option Value}
abbrev Says (w : World) (h : Heap) (K : PySem.W.Frag) : Prop := He.SaysX allFa fns [] nested callsB w h K
theorem tx_of (X : K.In h) (G : h.Ns mainGlobals mg) (c : Says w h K) : Tx K mg where
  f_len := He.free_ok X G (c.t.d.fact 67 (f := .free "len") rfl)
  f_range := He.free_ok X G (c.t.d.fact 68 (f := .free "range") rfl)
  f_max := He.free_ok X G (c.t.d.fact 69 (f := .free "max") rfl)
  f_min := He.free_ok X G (c.t.d.fact 70 (f := .free "min") rfl)
  f_sum := He.free_ok X G (c.t.d.fact 71 (f := .free "sum") rfl)
  f_sorted := He.free_ok X G (c.t.d.fact 72 (f := .free "sorted") rfl)
  f_any := He.free_ok X G (c.t.d.fact 73 (f := .free "any") rfl)
  f_enumerate := He.free_ok X G (c.t.d.fact 74 (f := .free "enumerate") rfl)
  f_zip := He.free_ok X G (c.t.d.fact 75 (f := .free "zip") rfl)
  f_list := He.free_ok X G (c.t.d.fact 76 (f := .free "list") rfl)
  c_PUT := He.int_ok X G (c.t.d.fact 77 (f := .int "PUT" (1)) rfl)
  c_TAKE := He.int_ok X G (c.t.d.fact 78 (f := .int "TAKE" (2)) rfl)
  c_IN_AND_BACK := He.int_ok X G (c.t.d.fact 79 (f := .int "IN_AND_BACK" (2)) rfl)
  c_MOST_BACK := He.int_ok X G (c.t.d.fact 80 (f := .int "MOST_BACK" (10)) rfl)
  c_MOST_PLACES := He.int_ok X G (c.t.d.fact 81 (f := .int "MOST_PLACES" (7)) rfl)
  c_MOST_LINKS := He.int_ok X G (c.t.d.fact 82 (f := .int "MOST_LINKS" (10)) rfl)
  c_MOST_LETTERS := He.int_ok X G (c.t.d.fact 83 (f := .int "MOST_LETTERS" (30)) rfl)
  c_MOST_LATER := He.int_ok X G (c.t.d.fact 84 (f := .int "MOST_LATER" (20)) rfl)
  c_MOST_LATER_FOUND := He.int_ok X G (c.t.d.fact 85 (f := .int "MOST_LATER_FOUND" (2)) rfl)
  c_MOST_EXITS_FOUND := He.int_ok X G (c.t.d.fact 86 (f := .int "MOST_EXITS_FOUND" (4)) rfl)
  c_MOST_PLACES_LOOKED := He.int_ok X G (c.t.d.fact 87 (f := .int "MOST_PLACES_LOOKED" (6)) rfl)
  c_MOST_PLACES_PEBBLE := He.int_ok X G (c.t.d.fact 88 (f := .int "MOST_PLACES_PEBBLE" (5)) rfl)
  c_NOT_THERE := He.int_ok X G (c.t.d.fact 89 (f := .int "NOT_THERE" (-2)) rfl)
  c_NONE_SUCH := He.int_ok X G (c.t.d.fact 90 (f := .int "NONE_SUCH" (-6)) rfl)
  c_ALREADY := He.int_ok X G (c.t.d.fact 91 (f := .int "ALREADY" (-17)) rfl)
  c_WRONG := He.int_ok X G (c.t.d.fact 92 (f := .int "WRONG" (-22)) rfl)
  c_FULL := He.int_ok X G (c.t.d.fact 93 (f := .int "FULL" (-28)) rfl)
  c_NOT_SO := He.int_ok X G (c.t.d.fact 94 (f := .int "NOT_SO" (-33)) rfl)
  c_NOT_TOGETHER := He.int_ok X G (c.t.d.fact 95 (f := .int "NOT_TOGETHER" (-35)) rfl)
  c_NOT_BEGUN := He.int_ok X G (c.t.d.fact 96 (f := .int "NOT_BEGUN" (-61)) rfl)
  c_TOO_MUCH := He.int_ok X G (c.t.d.fact 97 (f := .int "TOO_MUCH" (-75)) rfl)
  c_BEGIN := He.int_ok X G (c.t.d.fact 98 (f := .int "BEGIN" (0)) rfl)
  g_CALLS := He.glo_ok X G (c.t.d.fact 0 (f := .glo "CALLS") rfl)
  g_Moment := He.glo_ok X G (c.t.d.fact 65 (f := .glo "Moment") rfl)
  g_Wanderers := He.glo_ok X G (c.t.d.fact 66 (f := .glo "Wanderers") rfl)
  cl_Moment := He.cls_ok (c.t.d.fact 99 (f := .cls "Moment") rfl)
  cl_Wanderers := He.cls_ok (c.t.d.fact 109 (f := .cls "Wanderers") rfl)
  na_size := He.noat_ok (c.t.d.fact 101 (f := .noat "Moment" "size") rfl)
  na_links := He.noat_ok (c.t.d.fact 102 (f := .noat "Moment" "links") rfl)
  na_ways := He.noat_ok (c.t.d.fact 103 (f := .noat "Moment" "ways") rfl)
  na_a := He.noat_ok (c.t.d.fact 104 (f := .noat "Moment" "a") rfl)
  na_b := He.noat_ok (c.t.d.fact 105 (f := .noat "Moment" "b") rfl)
  na_pebble := He.noat_ok (c.t.d.fact 106 (f := .noat "Moment" "pebble") rfl)
  na_steps := He.noat_ok (c.t.d.fact 107 (f := .noat "Moment" "steps") rfl)
  na_met := He.noat_ok (c.t.d.fact 108 (f := .noat "Moment" "met") rfl)
  na_now := He.noat_ok (c.t.d.fact 114 (f := .noat "Wanderers" "now") rfl)
  na_past := He.noat_ok (c.t.d.fact 115 (f := .noat "Wanderers" "past") rfl)
/-- what the call of the row's def keeps -/
theorem all_ok (X : K.In h) (G : h.Ns mainGlobals mg) (c : Says w h K) : ∃ fd, FnP K d_answers (He.ga K "answers") fd ∧ ∀ base, TabsB K mg base → FnOk P w K mg base CX0 10 (He.ga K "answers") fd ["calls"] (sp_answers K) := by
  have T := tx_of X G c
  have CA : callsB K = true := c.more
  obtain ⟨fd_ways_of, F_ways_of⟩ : ∃ fd, FnP K d_ways_of (He.fAd K d_ways_of.at_) fd := c.t.d.def_ 0 (d := d_ways_of) rfl
  obtain ⟨fd_is_linked, F_is_linked⟩ : ∃ fd, FnP K d_is_linked (He.fAd K d_is_linked.at_) fd := c.t.d.def_ 1 (d := d_is_linked) rfl
  obtain ⟨fd_leads_out, F_leads_out⟩ : ∃ fd, FnP K d_leads_out (He.fAd K d_leads_out.at_) fd := c.t.d.def_ 2 (d := d_leads_out) rfl
  obtain ⟨fd_led_to, F_led_to⟩ : ∃ fd, FnP K d_led_to (He.fAd K d_led_to.at_) fd := c.t.d.def_ 3 (d := d_led_to) rfl
  obtain ⟨fd_came_in, F_came_in⟩ : ∃ fd, FnP K d_came_in (He.fAd K d_came_in.at_) fd := c.t.d.def_ 4 (d := d_came_in) rfl
  obtain ⟨fd_walked, F_walked⟩ : ∃ fd, FnP K d_walked (He.fAd K d_walked.at_) fd := c.t.d.def_ 5 (d := d_walked) rfl
  obtain ⟨fd_most_exits, F_most_exits⟩ : ∃ fd, FnP K d_most_exits (He.fAd K d_most_exits.at_) fd := c.t.d.def_ 6 (d := d_most_exits) rfl
  obtain ⟨fd_distances_among, F_distances_among⟩ : ∃ fd, FnP K d_distances_among (He.fAd K d_distances_among.at_) fd := c.t.d.def_ 7 (d := d_distances_among) rfl
  obtain ⟨fd_distances_from, F_distances_from⟩ : ∃ fd, FnP K d_distances_from (He.fAd K d_distances_from.at_) fd := c.t.d.def_ 8 (d := d_distances_from) rfl
  obtain ⟨fd_hangs_together, F_hangs_together⟩ : ∃ fd, FnP K d_hangs_together (He.fAd K d_hangs_together.at_) fd := c.t.d.def_ 9 (d := d_hangs_together) rfl
  obtain ⟨fd_least_like, F_least_like⟩ : ∃ fd, FnP K d_least_like (He.fAd K d_least_like.at_) fd := c.t.d.def_ 10 (d := d_least_like) rfl
  obtain ⟨fd_mark_beyond, F_mark_beyond⟩ : ∃ fd, FnP K d_mark_beyond (He.fAd K d_mark_beyond.at_) fd := c.t.d.def_ 11 (d := d_mark_beyond) rfl
  obtain ⟨fd_classes_by_steps, F_classes_by_steps⟩ : ∃ fd, FnP K d_classes_by_steps (He.fAd K d_classes_by_steps.at_) fd := c.t.d.def_ 12 (d := d_classes_by_steps) rfl
  obtain ⟨fd_classes_of, F_classes_of⟩ : ∃ fd, FnP K d_classes_of (He.fAd K d_classes_of.at_) fd := c.t.d.def_ 13 (d := d_classes_of) rfl
  obtain ⟨fd_steps_apart, F_steps_apart⟩ : ∃ fd, FnP K d_steps_apart (He.fAd K d_steps_apart.at_) fd := c.t.d.def_ 14 (d := d_steps_apart) rfl
  obtain ⟨fd_first_word, F_first_word⟩ : ∃ fd, FnP K d_first_word (He.fAd K d_first_word.at_) fd := c.t.d.def_ 15 (d := d_first_word) rfl
  obtain ⟨fd_word_as_near, F_word_as_near⟩ : ∃ fd, FnP K d_word_as_near (He.fAd K d_word_as_near.at_) fd := c.t.d.def_ 16 (d := d_word_as_near) rfl
  obtain ⟨fd_nearest, F_nearest⟩ : ∃ fd, FnP K d_nearest (He.fAd K d_nearest.at_) fd := c.t.d.def_ 17 (d := d_nearest) rfl
  obtain ⟨fd_meeting, F_meeting⟩ : ∃ fd, FnP K d_meeting (He.fAd K d_meeting.at_) fd := c.t.d.def_ 18 (d := d_meeting) rfl
  obtain ⟨fd_meeting_word, F_meeting_word⟩ : ∃ fd, FnP K d_meeting_word (He.fAd K d_meeting_word.at_) fd := c.t.d.def_ 19 (d := d_meeting_word) rfl
  obtain ⟨fd_bare, F_bare⟩ : ∃ fd, FnP K d_bare (He.fAd K d_bare.at_) fd := c.t.d.def_ 20 (d := d_bare) rfl
  obtain ⟨fd_gone, F_gone⟩ : ∃ fd, FnP K d_gone (He.fAd K d_gone.at_) fd := c.t.d.def_ 21 (d := d_gone) rfl
  obtain ⟨fd_sight, F_sight⟩ : ∃ fd, FnP K d_sight (He.fAd K d_sight.at_) fd := c.t.d.def_ 22 (d := d_sight) rfl
  obtain ⟨fd_pebble_word, F_pebble_word⟩ : ∃ fd, FnP K d_pebble_word (He.fAd K d_pebble_word.at_) fd := c.t.d.def_ 23 (d := d_pebble_word) rfl
  obtain ⟨fd_naming, F_naming⟩ : ∃ fd, FnP K d_naming (He.fAd K d_naming.at_) fd := c.t.d.def_ 24 (d := d_naming) rfl
  obtain ⟨fd_look_out, F_look_out⟩ : ∃ fd, FnP K d_look_out (He.fAd K d_look_out.at_) fd := c.t.d.def_ 25 (d := d_look_out) rfl
  obtain ⟨fd_steps_known, F_steps_known⟩ : ∃ fd, FnP K d_steps_known (He.fAd K d_steps_known.at_) fd := c.t.d.def_ 26 (d := d_steps_known) rfl
  obtain ⟨fd_all_but, F_all_but⟩ : ∃ fd, FnP K d_all_but (He.fAd K d_all_but.at_) fd := c.t.d.def_ 27 (d := d_all_but) rfl
  obtain ⟨fd_orders_of, F_orders_of⟩ : ∃ fd, FnP K d_orders_of (He.fAd K d_orders_of.at_) fd := c.t.d.def_ 28 (d := d_orders_of) rfl
  obtain ⟨fd_at_worst, F_at_worst⟩ : ∃ fd, FnP K d_at_worst (He.fAd K d_at_worst.at_) fd := c.t.d.def_ 29 (d := d_at_worst) rfl
  obtain ⟨fd_all_together, F_all_together⟩ : ∃ fd, FnP K d_all_together (He.fAd K d_all_together.at_) fd := c.t.d.def_ 30 (d := d_all_together) rfl
  obtain ⟨fd_best_order, F_best_order⟩ : ∃ fd, FnP K d_best_order (He.fAd K d_best_order.at_) fd := c.t.d.def_ 31 (d := d_best_order) rfl
  obtain ⟨fd_Moment_init, F_Moment_init⟩ : ∃ fd, FnP K d_Moment_init (He.fAd K d_Moment_init.at_) fd := c.t.d.def_ 32 (d := d_Moment_init) rfl
  obtain ⟨fd_set_out, F_set_out⟩ : ∃ fd, FnP K d_set_out (He.fAd K d_set_out.at_) fd := c.t.d.def_ 33 (d := d_set_out) rfl
  obtain ⟨fd_stepped, F_stepped⟩ : ∃ fd, FnP K d_stepped (He.fAd K d_stepped.at_) fd := c.t.d.def_ 34 (d := d_stepped) rfl
  obtain ⟨fd_with_pebble, F_with_pebble⟩ : ∃ fd, FnP K d_with_pebble (He.fAd K d_with_pebble.at_) fd := c.t.d.def_ 35 (d := d_with_pebble) rfl
  obtain ⟨fd_Wanderers_init, F_Wanderers_init⟩ : ∃ fd, FnP K d_Wanderers_init (He.fAd K d_Wanderers_init.at_) fd := c.t.d.def_ 36 (d := d_Wanderers_init) rfl
  obtain ⟨fd_Wanderers_begin, F_Wanderers_begin⟩ : ∃ fd, FnP K d_Wanderers_begin (He.fAd K d_Wanderers_begin.at_) fd := c.t.d.def_ 37 (d := d_Wanderers_begin) rfl
  obtain ⟨fd_Wanderers_change, F_Wanderers_change⟩ : ∃ fd, FnP K d_Wanderers_change (He.fAd K d_Wanderers_change.at_) fd := c.t.d.def_ 38 (d := d_Wanderers_change) rfl
  obtain ⟨fd_Wanderers_take_back, F_Wanderers_take_back⟩ : ∃ fd, FnP K d_Wanderers_take_back (He.fAd K d_Wanderers_take_back.at_) fd := c.t.d.def_ 39 (d := d_Wanderers_take_back) rfl
  obtain ⟨fd_begin, F_begin⟩ : ∃ fd, FnP K d_begin (He.fAd K d_begin.at_) fd := c.t.d.def_ 40 (d := d_begin) rfl
  obtain ⟨fd_link, F_link⟩ : ∃ fd, FnP K d_link (He.fAd K d_link.at_) fd := c.t.d.def_ 41 (d := d_link) rfl
  obtain ⟨fd_unlink, F_unlink⟩ : ∃ fd, FnP K d_unlink (He.fAd K d_unlink.at_) fd := c.t.d.def_ 42 (d := d_unlink) rfl
  obtain ⟨fd_stand, F_stand⟩ : ∃ fd, FnP K d_stand (He.fAd K d_stand.at_) fd := c.t.d.def_ 43 (d := d_stand) rfl
  obtain ⟨fd_step, F_step⟩ : ∃ fd, FnP K d_step (He.fAd K d_step.at_) fd := c.t.d.def_ 44 (d := d_step) rfl
  obtain ⟨fd_put, F_put⟩ : ∃ fd, FnP K d_put (He.fAd K d_put.at_) fd := c.t.d.def_ 45 (d := d_put) rfl
  obtain ⟨fd_take, F_take⟩ : ∃ fd, FnP K d_take (He.fAd K d_take.at_) fd := c.t.d.def_ 46 (d := d_take) rfl
  obtain ⟨fd_back, F_back⟩ : ∃ fd, FnP K d_back (He.fAd K d_back.at_) fd := c.t.d.def_ 47 (d := d_back) rfl
  obtain ⟨fd_looks, F_looks⟩ : ∃ fd, FnP K d_looks (He.fAd K d_looks.at_) fd := c.t.d.def_ 48 (d := d_looks) rfl
  obtain ⟨fd_exits, F_exits⟩ : ∃ fd, FnP K d_exits (He.fAd K d_exits.at_) fd := c.t.d.def_ 49 (d := d_exits) rfl
  obtain ⟨fd_walk, F_walk⟩ : ∃ fd, FnP K d_walk (He.fAd K d_walk.at_) fd := c.t.d.def_ 50 (d := d_walk) rfl
  obtain ⟨fd_apart, F_apart⟩ : ∃ fd, FnP K d_apart (He.fAd K d_apart.at_) fd := c.t.d.def_ 51 (d := d_apart) rfl
  obtain ⟨fd_classes, F_classes⟩ : ∃ fd, FnP K d_classes (He.fAd K d_classes.at_) fd := c.t.d.def_ 52 (d := d_classes) rfl
  obtain ⟨fd_distance, F_distance⟩ : ∃ fd, FnP K d_distance (He.fAd K d_distance.at_) fd := c.t.d.def_ 53 (d := d_distance) rfl
  obtain ⟨fd_near, F_near⟩ : ∃ fd, FnP K d_near (He.fAd K d_near.at_) fd := c.t.d.def_ 54 (d := d_near) rfl
  obtain ⟨fd_meets, F_meets⟩ : ∃ fd, FnP K d_meets (He.fAd K d_meets.at_) fd := c.t.d.def_ 55 (d := d_meets) rfl
  obtain ⟨fd_can, F_can⟩ : ∃ fd, FnP K d_can (He.fAd K d_can.at_) fd := c.t.d.def_ 56 (d := d_can) rfl
  obtain ⟨fd_found, F_found⟩ : ∃ fd, FnP K d_found (He.fAd K d_found.at_) fd := c.t.d.def_ 57 (d := d_found) rfl
  obtain ⟨fd_soonest, F_soonest⟩ : ∃ fd, FnP K d_soonest (He.fAd K d_soonest.at_) fd := c.t.d.def_ 58 (d := d_soonest) rfl
  obtain ⟨fd_mean, F_mean⟩ : ∃ fd, FnP K d_mean (He.fAd K d_mean.at_) fd := c.t.d.def_ 59 (d := d_mean) rfl
  obtain ⟨fd_known, F_known⟩ : ∃ fd, FnP K d_known (He.fAd K d_known.at_) fd := c.t.d.def_ 60 (d := d_known) rfl
  obtain ⟨fd_pebble, F_pebble⟩ : ∃ fd, FnP K d_pebble (He.fAd K d_pebble.at_) fd := c.t.d.def_ 61 (d := d_pebble) rfl
  obtain ⟨fd_same, F_same⟩ : ∃ fd, FnP K d_same (He.fAd K d_same.at_) fd := c.t.d.def_ 62 (d := d_same) rfl
  obtain ⟨fd_count, F_count⟩ : ∃ fd, FnP K d_count (He.fAd K d_count.at_) fd := c.t.d.def_ 63 (d := d_count) rfl
  obtain ⟨fd_state, F_state⟩ : ∃ fd, FnP K d_state (He.fAd K d_state.at_) fd := c.t.d.def_ 64 (d := d_state) rfl
  obtain ⟨fd_length_of, F_length_of⟩ : ∃ fd, FnP K d_length_of (He.fAd K d_length_of.at_) fd := c.t.d.def_ 65 (d := d_length_of) rfl
  obtain ⟨fd_arguments_of, F_arguments_of⟩ : ∃ fd, FnP K d_arguments_of (He.fAd K d_arguments_of.at_) fd := c.t.d.def_ 66 (d := d_arguments_of) rfl
  obtain ⟨fd_answer_of, F_answer_of⟩ : ∃ fd, FnP K d_answer_of (He.fAd K d_answer_of.at_) fd := c.t.d.def_ 67 (d := d_answer_of) rfl
  obtain ⟨fd_answers, F_answers⟩ : ∃ fd, FnP K d_answers (He.fAd K d_answers.at_) fd := c.t.d.def_ 68 (d := d_answers) rfl
  have H_ways_of : HasB P w K mg (fun _ => True) 1 "ways_of" ["size", "links"] (sp_ways_of K) := has_mk F_ways_of (He.glo_ok X G (c.t.d.fact 1 (f := .glo "ways_of") rfl)) (fun base _ => ok_ways_of T F_ways_of) (fun _ _ _ _ _ _ us hl => match us, hl with | [_, _], _ => rfl)
  have H_is_linked : HasB P w K mg (fun _ => True) 1 "is_linked" ["links", "u", "v"] (sp_is_linked K) := has_mk F_is_linked (He.glo_ok X G (c.t.d.fact 2 (f := .glo "is_linked") rfl)) (fun base _ => ok_is_linked T F_is_linked) (fun _ _ _ _ _ _ us hl => match us, hl with | [_, _, _], _ => rfl)
  have H_leads_out : HasB P w K mg (fun _ => True) 1 "leads_out" ["ways", "place", "letter"] (sp_leads_out K) := has_mk F_leads_out (He.glo_ok X G (c.t.d.fact 3 (f := .glo "leads_out") rfl)) (fun base _ => ok_leads_out T F_leads_out) (fun _ _ _ _ _ _ us hl => match us, hl with | [_, _, _], _ => rfl)
  have H_led_to : HasB P w K mg (fun _ => True) 2 "led_to" ["ways", "place", "letter"] (sp_led_to K) := has_mk F_led_to (He.glo_ok X G (c.t.d.fact 4 (f := .glo "led_to") rfl)) (fun base _ => ok_led_to F_led_to H_leads_out) (fun _ _ _ _ _ _ us hl => match us, hl with | [_, _, _], _ => rfl)
  have H_came_in : HasB P w K mg (fun _ => True) 2 "came_in" ["ways", "place", "letter"] (sp_came_in K) := has_mk F_came_in (He.glo_ok X G (c.t.d.fact 5 (f := .glo "came_in") rfl)) (fun base _ => ok_came_in F_came_in H_leads_out) (fun _ _ _ _ _ _ us hl => match us, hl with | [_, _, _], _ => rfl)
  have H_walked : HasB P w K mg (fun _ => True) 3 "walked" ["ways", "start", "word"] (sp_walked K) := has_mk F_walked (He.glo_ok X G (c.t.d.fact 6 (f := .glo "walked") rfl)) (fun base _ => ok_walked F_walked H_led_to) (fun _ _ _ _ _ _ us hl => match us, hl with | [_, _, _], _ => rfl)
  have H_most_exits : HasB P w K mg (fun _ => True) 1 "most_exits" ["ways"] (sp_most_exits K) := has_mk F_most_exits (He.glo_ok X G (c.t.d.fact 7 (f := .glo "most_exits") rfl)) (fun base _ => ok_most_exits T F_most_exits) (fun _ _ _ _ _ _ us hl => match us, hl with | [_], _ => rfl)
  have H_distances_among : HasB P w K mg (fun _ => True) 1 "distances_among" ["ways", "among", "start"] (sp_distances_among K) := has_mk F_distances_among (He.glo_ok X G (c.t.d.fact 8 (f := .glo "distances_among") rfl)) (fun base _ => ok_distances_among T F_distances_among) (fun _ _ _ _ _ _ us hl => match us, hl with | [_, _, _], _ => rfl)
  have H_distances_from : HasB P w K mg (fun _ => True) 2 "distances_from" ["ways", "start"] (sp_distances_from K) := has_mk F_distances_from (He.glo_ok X G (c.t.d.fact 9 (f := .glo "distances_from") rfl)) (fun base _ => ok_distances_from T F_distances_from H_distances_among) (fun _ _ _ _ _ _ us hl => match us, hl with | [_, _], _ => rfl)
  have H_hangs_together : HasB P w K mg (fun _ => True) 3 "hangs_together" ["ways"] (sp_hangs_together K) := has_mk F_hangs_together (He.glo_ok X G (c.t.d.fact 10 (f := .glo "hangs_together") rfl)) (fun base _ => ok_hangs_together F_hangs_together H_distances_from) (fun _ _ _ _ _ _ us hl => match us, hl with | [_], _ => rfl)
  have H_least_like : HasB P w K mg (fun _ => True) 1 "least_like" ["marks"] (sp_least_like K) := has_mk F_least_like (He.glo_ok X G (c.t.d.fact 11 (f := .glo "least_like") rfl)) (fun base _ => ok_least_like F_least_like) (fun _ _ _ _ _ _ us hl => match us, hl with | [_], _ => rfl)
  have H_mark_beyond : HasB P w K mg (fun _ => True) 1 "mark_beyond" ["row", "classes"] (sp_mark_beyond K) := has_mk F_mark_beyond (He.glo_ok X G (c.t.d.fact 12 (f := .glo "mark_beyond") rfl)) (fun base _ => ok_mark_beyond F_mark_beyond) (fun _ _ _ _ _ _ us hl => match us, hl with | [_, _], _ => rfl)
  have H_classes_by_steps : HasB P w K mg (fun _ => True) 2 "classes_by_steps" ["ways"] (sp_classes_by_steps K) := has_mk F_classes_by_steps (He.glo_ok X G (c.t.d.fact 13 (f := .glo "classes_by_steps") rfl)) (fun base _ => ok_classes_by_steps T F_classes_by_steps H_least_like H_mark_beyond) (fun _ _ _ _ _ _ us hl => match us, hl with | [_], _ => rfl)
  have H_classes_of : HasB P w K mg (fun _ => True) 3 "classes_of" ["ways"] (sp_classes_of K) := has_mk F_classes_of (He.glo_ok X G (c.t.d.fact 14 (f := .glo "classes_of") rfl)) (fun base _ => ok_classes_of F_classes_of H_classes_by_steps) (fun _ _ _ _ _ _ us hl => match us, hl with | [_], _ => rfl)
  have H_steps_apart : HasB P w K mg (fun _ => True) 3 "steps_apart" ["ways", "u", "v"] (sp_steps_apart K) := has_mk F_steps_apart (He.glo_ok X G (c.t.d.fact 15 (f := .glo "steps_apart") rfl)) (fun base _ => ok_steps_apart T F_steps_apart H_classes_by_steps) (fun _ _ _ _ _ _ us hl => match us, hl with | [_, _, _], _ => rfl)
  have H_first_word : HasS P w K mg 5 "first_word" ["start", "most", "go", "is_end"] (sp_first_word P w K mg) := ⟨_, fd_first_word, fun b => ok_first_word T F_first_word, (He.glo_ok X G (c.t.d.fact 16 (f := .glo "first_word") rfl)), F_first_word.kp, F_first_word.bindsN (fun _ _ _ _ _ _ us hl => match us, hl with | [_, _, _, _], _ => rfl)⟩
  have H_word_as_near : HasB P w K mg (TabsB K mg) 6 "word_as_near" ["ways", "far", "start", "steps"] (sp_word_as_near K) := has_mk F_word_as_near (He.glo_ok X G (c.t.d.fact 17 (f := .glo "word_as_near") rfl)) (fun base TB => ok_word_as_near TB F_word_as_near H_first_word H_most_exits H_led_to) (fun _ _ _ _ _ _ us hl => match us, hl with | [_, _, _, _], _ => rfl)
  have H_nearest : HasB P w K mg (TabsB K mg) 7 "nearest" ["ways", "u", "v"] (sp_nearest K) := has_mk F_nearest (He.glo_ok X G (c.t.d.fact 18 (f := .glo "nearest") rfl)) (fun base TB => ok_nearest T TB F_nearest H_distances_from H_word_as_near) (fun _ _ _ _ _ _ us hl => match us, hl with | [_, _, _], _ => rfl)
  have H_meeting : HasB P w K mg (fun _ => True) 4 "meeting" ["ways", "u", "v", "later", "word"] (sp_meeting K) := has_mk F_meeting (He.glo_ok X G (c.t.d.fact 19 (f := .glo "meeting") rfl)) (fun base _ => ok_meeting T F_meeting H_walked) (fun _ _ _ _ _ _ us hl => match us, hl with | [_, _, _, _, _], _ => rfl)
  have H_meeting_word : HasB P w K mg (TabsB K mg) 6 "meeting_word" ["ways", "u", "v", "later"] (sp_meeting_word K) := has_mk F_meeting_word (He.glo_ok X G (c.t.d.fact 20 (f := .glo "meeting_word") rfl)) (fun base TB => ok_meeting_word TB F_meeting_word H_first_word H_most_exits H_led_to) (fun _ _ _ _ _ _ us hl => match us, hl with | [_, _, _, _], _ => rfl)
  have H_bare : HasB P w K mg (fun _ => True) 1 "bare" ["letter"] sp_bare := has_mk F_bare (He.glo_ok X G (c.t.d.fact 21 (f := .glo "bare") rfl)) (fun base _ => ok_bare T F_bare) (fun _ _ _ _ _ _ us hl => match us, hl with | [_], _ => rfl)
  have H_gone : HasB P w K mg (fun _ => True) 3 "gone" ["ways", "one", "letter"] (sp_gone K) := has_mk F_gone (He.glo_ok X G (c.t.d.fact 22 (f := .glo "gone") rfl)) (fun base _ => ok_gone T F_gone H_led_to H_bare) (fun _ _ _ _ _ _ us hl => match us, hl with | [_, _, _], _ => rfl)
  have H_sight : HasB P w K mg (fun _ => True) 1 "sight" ["ways", "one"] (sp_sight K) := has_mk F_sight (He.glo_ok X G (c.t.d.fact 23 (f := .glo "sight") rfl)) (fun base _ => ok_sight T F_sight) (fun _ _ _ _ _ _ us hl => match us, hl with | [_, _], _ => rfl)
  have H_pebble_word : HasB P w K mg (TabsB K mg) 6 "pebble_word" ["ways", "u", "v"] (sp_pebble_word K) := has_mk F_pebble_word (He.glo_ok X G (c.t.d.fact 24 (f := .glo "pebble_word") rfl)) (fun base TB => ok_pebble_word T TB F_pebble_word H_first_word H_most_exits H_sight H_came_in H_bare H_gone) (fun _ _ _ _ _ _ us hl => match us, hl with | [_, _, _], _ => rfl)
  have H_naming : HasB P w K mg (fun _ => True) 1 "naming" ["ways", "u", "v"] (sp_naming K) := has_mk F_naming (He.glo_ok X G (c.t.d.fact 25 (f := .glo "naming") rfl)) (fun base _ => ok_naming T F_naming) (fun _ _ _ _ _ _ us hl => match us, hl with | [_, _, _], _ => rfl)
  have H_look_out : HasB P w K mg (fun _ => True) 2 "look_out" ["ways", "safe", "here", "place"] (sp_look_out K) := has_mk F_look_out (He.glo_ok X G (c.t.d.fact 26 (f := .glo "look_out") rfl)) (fun base _ => ok_look_out T F_look_out H_distances_among) (fun _ _ _ _ _ _ us hl => match us, hl with | [_, _, _, _], _ => rfl)
  have H_steps_known : HasB P w K mg (fun _ => True) 3 "steps_known" ["ways", "home", "order"] (sp_steps_known K) := has_mk F_steps_known (He.glo_ok X G (c.t.d.fact 27 (f := .glo "steps_known") rfl)) (fun base _ => ok_steps_known T F_steps_known H_look_out) (fun _ _ _ _ _ _ us hl => match us, hl with | [_, _, _], _ => rfl)
  have H_all_but : HasB P w K mg (fun _ => True) 1 "all_but" ["size", "home"] sp_all_but := has_mk F_all_but (He.glo_ok X G (c.t.d.fact 28 (f := .glo "all_but") rfl)) (fun base _ => ok_all_but T F_all_but) (fun _ _ _ _ _ _ us hl => match us, hl with | [_, _], _ => rfl)
  have H_orders_of : HasB P w K mg (fun _ => True) 1 "orders_of" ["places"] (sp_orders_of K) := has_mk F_orders_of (He.glo_ok X G (c.t.d.fact 29 (f := .glo "orders_of") rfl)) (fun base _ => ok_orders_of T F_orders_of) (fun _ _ _ _ _ _ us hl => match us, hl with | [_], _ => rfl)
  have H_at_worst : HasB P w K mg (fun _ => True) 1 "at_worst" ["known"] (sp_at_worst K) := has_mk F_at_worst (He.glo_ok X G (c.t.d.fact 30 (f := .glo "at_worst") rfl)) (fun base _ => ok_at_worst T F_at_worst) (fun _ _ _ _ _ _ us hl => match us, hl with | [_], _ => rfl)
  have H_all_together : HasB P w K mg (fun _ => True) 1 "all_together" ["known"] (sp_all_together K) := has_mk F_all_together (He.glo_ok X G (c.t.d.fact 31 (f := .glo "all_together") rfl)) (fun base _ => ok_all_together T F_all_together) (fun _ _ _ _ _ _ us hl => match us, hl with | [_], _ => rfl)
  have H_best_order : HasB P w K mg (fun _ => True) 4 "best_order" ["ways", "home", "steps_of"] (sp_best_order P w K mg) := has_mk F_best_order (He.glo_ok X G (c.t.d.fact 32 (f := .glo "best_order") rfl)) (fun base _ => ok_best_order T F_best_order H_orders_of H_all_but H_steps_known) (fun _ _ _ _ _ _ us hl => match us, hl with | [_, _, _], _ => rfl)
  have H_Moment : HasK P w K mg 2 "Moment" (CM K) ["self", "size", "links", "a", "b", "pebble", "steps", "met"] (sp_Moment_init K) := ⟨_, fd_Moment_init, fun b => ok_Moment_init T F_Moment_init H_ways_of, He.mkr_ok (c.t.d.fact 100 (f := .mkr "Moment") rfl), (He.glo_ok X G (c.t.d.fact 65 (f := .glo "Moment") rfl)), F_Moment_init.bindsN (fun _ _ _ _ _ _ us hl => match us, hl with | [_, _, _, _, _, _, _, _], _ => rfl)⟩
  have H_set_out : HasB P w K mg (fun _ => True) 4 "set_out" ["size", "links", "a", "b"] (sp_set_out K) := has_mk F_set_out (He.glo_ok X G (c.t.d.fact 33 (f := .glo "set_out") rfl)) (fun base _ => ok_set_out T F_set_out H_Moment) (fun _ _ _ _ _ _ us hl => match us, hl with | [_, _, _, _], _ => rfl)
  have H_stepped : HasB P w K mg (fun _ => True) 4 "stepped" ["moment", "x", "y"] (sp_stepped K) := has_mk F_stepped (He.glo_ok X G (c.t.d.fact 34 (f := .glo "stepped") rfl)) (fun base _ => ok_stepped T F_stepped H_Moment H_led_to) (fun _ _ _ _ _ _ us hl => match us, hl with | [_, _, _], _ => rfl)
  have H_with_pebble : HasB P w K mg (fun _ => True) 4 "with_pebble" ["moment", "pebble"] (sp_with_pebble K) := has_mk F_with_pebble (He.glo_ok X G (c.t.d.fact 35 (f := .glo "with_pebble") rfl)) (fun base _ => ok_with_pebble T F_with_pebble H_Moment) (fun _ _ _ _ _ _ us hl => match us, hl with | [_, _], _ => rfl)
  have H_Wanderers : HasK P w K mg 1 "Wanderers" (CW K) ["self"] (sp_Wanderers_init K) := ⟨_, fd_Wanderers_init, fun b => ok_Wanderers_init T F_Wanderers_init, He.mkr_ok (c.t.d.fact 110 (f := .mkr "Wanderers") rfl), (He.glo_ok X G (c.t.d.fact 66 (f := .glo "Wanderers") rfl)), F_Wanderers_init.bindsN (fun _ _ _ _ _ _ us hl => match us, hl with | [_], _ => rfl)⟩
  have H_Wanderers_begin : HasM P w K mg 1 (CW K) "begin" ["self", "moment"] (sp_Wanderers_begin K) := ⟨_, fd_Wanderers_begin, fun b => ok_Wanderers_begin T F_Wanderers_begin, T.cl_Wanderers, He.meth_ok (c.t.d.fact 111 (f := .meth "Wanderers" "begin") rfl), F_Wanderers_begin.bindsN (fun _ _ _ _ _ _ us hl => match us, hl with | [_, _], _ => rfl)⟩
  have H_Wanderers_change : HasM P w K mg 1 (CW K) "change" ["self", "moment"] (sp_Wanderers_change K) := ⟨_, fd_Wanderers_change, fun b => ok_Wanderers_change T F_Wanderers_change, T.cl_Wanderers, He.meth_ok (c.t.d.fact 112 (f := .meth "Wanderers" "change") rfl), F_Wanderers_change.bindsN (fun _ _ _ _ _ _ us hl => match us, hl with | [_, _], _ => rfl)⟩
  have H_Wanderers_take_back : HasM P w K mg 1 (CW K) "take_back" ["self"] (sp_Wanderers_take_back K) := ⟨_, fd_Wanderers_take_back, fun b => ok_Wanderers_take_back T F_Wanderers_take_back, T.cl_Wanderers, He.meth_ok (c.t.d.fact 113 (f := .meth "Wanderers" "take_back") rfl), F_Wanderers_take_back.bindsN (fun _ _ _ _ _ _ us hl => match us, hl with | [_], _ => rfl)⟩
  have H_begin : HasB P w K mg (fun _ => True) 5 "begin" ["wanderers", "given"] (sp_begin K) := has_mk F_begin (He.glo_ok X G (c.t.d.fact 36 (f := .glo "begin") rfl)) (fun base _ => ok_begin T F_begin H_set_out H_Wanderers_begin) (fun _ _ _ _ _ _ us hl => match us, hl with | [_, _], _ => rfl)
  have H_link : HasB P w K mg (fun _ => True) 5 "link" ["wanderers", "given"] (sp_c K is_link) := has_mk F_link (He.glo_ok X G (c.t.d.fact 37 (f := .glo "link") rfl)) (fun base _ => ok_link T F_link H_is_linked H_set_out H_Wanderers_change) (fun _ _ _ _ _ _ us hl => match us, hl with | [_, _], _ => rfl)
  have H_unlink : HasB P w K mg (fun _ => True) 5 "unlink" ["wanderers", "given"] (sp_c K is_unlink) := has_mk F_unlink (He.glo_ok X G (c.t.d.fact 38 (f := .glo "unlink") rfl)) (fun base _ => ok_unlink T F_unlink H_set_out H_Wanderers_change) (fun _ _ _ _ _ _ us hl => match us, hl with | [_, _], _ => rfl)
  have H_stand : HasB P w K mg (fun _ => True) 5 "stand" ["wanderers", "given"] (sp_c K is_stand) := has_mk F_stand (He.glo_ok X G (c.t.d.fact 39 (f := .glo "stand") rfl)) (fun base _ => ok_stand T F_stand H_set_out H_Wanderers_change) (fun _ _ _ _ _ _ us hl => match us, hl with | [_, _], _ => rfl)
  have H_step : HasB P w K mg (fun _ => True) 5 "step" ["wanderers", "given"] (sp_c K is_step) := has_mk F_step (He.glo_ok X G (c.t.d.fact 40 (f := .glo "step") rfl)) (fun base _ => ok_step T F_step H_stepped H_came_in H_Wanderers_change) (fun _ _ _ _ _ _ us hl => match us, hl with | [_, _], _ => rfl)
  have H_put : HasB P w K mg (fun _ => True) 5 "put" ["wanderers", "given"] (sp_c K is_put) := has_mk F_put (He.glo_ok X G (c.t.d.fact 41 (f := .glo "put") rfl)) (fun base _ => ok_put T F_put H_with_pebble H_Wanderers_change) (fun _ _ _ _ _ _ us hl => match us, hl with | [_, _], _ => rfl)
  have H_take : HasB P w K mg (fun _ => True) 5 "take" ["wanderers", "given"] (sp_c K is_take) := has_mk F_take (He.glo_ok X G (c.t.d.fact 42 (f := .glo "take") rfl)) (fun base _ => ok_take T F_take H_with_pebble H_Wanderers_change) (fun _ _ _ _ _ _ us hl => match us, hl with | [_, _], _ => rfl)
  have H_back : HasB P w K mg (fun _ => True) 5 "back" ["wanderers", "given"] (sp_c K is_back) := has_mk F_back (He.glo_ok X G (c.t.d.fact 43 (f := .glo "back") rfl)) (fun base _ => ok_back T F_back H_Wanderers_take_back) (fun _ _ _ _ _ _ us hl => match us, hl with | [_, _], _ => rfl)
  have H_looks : HasB P w K mg (fun _ => True) 5 "looks" ["wanderers", "given"] (sp_c K is_looks) := has_mk F_looks (He.glo_ok X G (c.t.d.fact 44 (f := .glo "looks") rfl)) (fun base _ => ok_looks T F_looks) (fun _ _ _ _ _ _ us hl => match us, hl with | [_, _], _ => rfl)
  have H_exits : HasB P w K mg (fun _ => True) 5 "exits" ["wanderers", "given"] (sp_c K is_exits) := has_mk F_exits (He.glo_ok X G (c.t.d.fact 45 (f := .glo "exits") rfl)) (fun base _ => ok_exits T F_exits) (fun _ _ _ _ _ _ us hl => match us, hl with | [_, _], _ => rfl)
  have H_walk : HasB P w K mg (fun _ => True) 5 "walk" ["wanderers", "given"] (sp_c K is_walk) := has_mk F_walk (He.glo_ok X G (c.t.d.fact 46 (f := .glo "walk") rfl)) (fun base _ => ok_walk T F_walk H_walked) (fun _ _ _ _ _ _ us hl => match us, hl with | [_, _], _ => rfl)
  have H_apart : HasB P w K mg (fun _ => True) 5 "apart" ["wanderers", "given"] (sp_c K is_apart) := has_mk F_apart (He.glo_ok X G (c.t.d.fact 47 (f := .glo "apart") rfl)) (fun base _ => ok_apart T F_apart H_steps_apart) (fun _ _ _ _ _ _ us hl => match us, hl with | [_, _], _ => rfl)
  have H_classes : HasB P w K mg (fun _ => True) 5 "classes" ["wanderers", "given"] (sp_c K is_classes) := has_mk F_classes (He.glo_ok X G (c.t.d.fact 48 (f := .glo "classes") rfl)) (fun base _ => ok_classes T F_classes H_classes_of) (fun _ _ _ _ _ _ us hl => match us, hl with | [_, _], _ => rfl)
  have H_distance : HasB P w K mg (fun _ => True) 5 "distance" ["wanderers", "given"] (sp_c K is_distance) := has_mk F_distance (He.glo_ok X G (c.t.d.fact 49 (f := .glo "distance") rfl)) (fun base _ => ok_distance T F_distance H_distances_from) (fun _ _ _ _ _ _ us hl => match us, hl with | [_, _], _ => rfl)
  have H_near : HasB P w K mg (TabsB K mg) 8 "near" ["wanderers", "given"] (sp_c K is_near) := has_mk F_near (He.glo_ok X G (c.t.d.fact 50 (f := .glo "near") rfl)) (fun base TB => ok_near T TB F_near H_steps_apart H_nearest) (fun _ _ _ _ _ _ us hl => match us, hl with | [_, _], _ => rfl)
  have H_meets : HasB P w K mg (fun _ => True) 5 "meets" ["wanderers", "given"] (sp_c K is_meets) := has_mk F_meets (He.glo_ok X G (c.t.d.fact 51 (f := .glo "meets") rfl)) (fun base _ => ok_meets T F_meets H_meeting) (fun _ _ _ _ _ _ us hl => match us, hl with | [_, _], _ => rfl)
  have H_can : HasB P w K mg (TabsB K mg) 8 "can" ["wanderers", "given"] (sp_c K is_can) := has_mk F_can (He.glo_ok X G (c.t.d.fact 52 (f := .glo "can") rfl)) (fun base TB => ok_can T TB F_can H_steps_apart H_nearest) (fun _ _ _ _ _ _ us hl => match us, hl with | [_, _], _ => rfl)
  have H_found : HasB P w K mg (TabsB K mg) 8 "found" ["wanderers", "given"] (sp_c K is_found) := has_mk F_found (He.glo_ok X G (c.t.d.fact 53 (f := .glo "found") rfl)) (fun base TB => ok_found T TB F_found H_most_exits H_meeting_word) (fun _ _ _ _ _ _ us hl => match us, hl with | [_, _], _ => rfl)
  have m_at_worst : mg "at_worst" = some (.ref (He.ga K "at_worst")) := (He.glo_ok X G (c.t.d.fact 30 (f := .glo "at_worst") rfl))
  have m_all_together : mg "all_together" = some (.ref (He.ga K "all_together")) := (He.glo_ok X G (c.t.d.fact 31 (f := .glo "all_together") rfl))
  have HA_soonest : HeldA P w K mg 3 (He.ga K "at_worst") (spF K worstL) := fun base => held_of H_at_worst (by decide) m_at_worst trivial
  have HA_mean : HeldA P w K mg 3 (He.ga K "all_together") (spF K List.sum) := fun base => held_of H_all_together (by decide) m_all_together trivial
  have H_soonest : HasB P w K mg (fun _ => True) 8 "soonest" ["wanderers", "given"] (sp_c K is_soonest) := has_mk F_soonest (He.glo_ok X G (c.t.d.fact 54 (f := .glo "soonest") rfl)) (fun base _ => ok_soonest T F_soonest m_at_worst HA_soonest H_best_order) (fun _ _ _ _ _ _ us hl => match us, hl with | [_, _], _ => rfl)
  have H_mean : HasB P w K mg (fun _ => True) 8 "mean" ["wanderers", "given"] (sp_c K is_mean) := has_mk F_mean (He.glo_ok X G (c.t.d.fact 55 (f := .glo "mean") rfl)) (fun base _ => ok_mean T F_mean m_all_together HA_mean H_best_order) (fun _ _ _ _ _ _ us hl => match us, hl with | [_, _], _ => rfl)
  have H_known : HasB P w K mg (fun _ => True) 5 "known" ["wanderers", "given"] (sp_c K is_known) := has_mk F_known (He.glo_ok X G (c.t.d.fact 56 (f := .glo "known") rfl)) (fun base _ => ok_known T F_known H_all_but H_steps_known) (fun _ _ _ _ _ _ us hl => match us, hl with | [_, _], _ => rfl)
  have H_pebble : HasB P w K mg (TabsB K mg) 8 "pebble" ["wanderers", "given"] (sp_c K is_pebble) := has_mk F_pebble (He.glo_ok X G (c.t.d.fact 57 (f := .glo "pebble") rfl)) (fun base TB => ok_pebble T TB F_pebble H_pebble_word) (fun _ _ _ _ _ _ us hl => match us, hl with | [_, _], _ => rfl)
  have H_same : HasB P w K mg (fun _ => True) 5 "same" ["wanderers", "given"] (sp_c K is_same) := has_mk F_same (He.glo_ok X G (c.t.d.fact 58 (f := .glo "same") rfl)) (fun base _ => ok_same T F_same H_naming) (fun _ _ _ _ _ _ us hl => match us, hl with | [_, _], _ => rfl)
  have H_count : HasB P w K mg (fun _ => True) 5 "count" ["wanderers", "given"] (sp_c K is_count) := has_mk F_count (He.glo_ok X G (c.t.d.fact 59 (f := .glo "count") rfl)) (fun base _ => ok_count T F_count) (fun _ _ _ _ _ _ us hl => match us, hl with | [_, _], _ => rfl)
  have H_state : HasB P w K mg (fun _ => True) 5 "state" ["wanderers", "given"] (sp_c K is_state) := has_mk F_state (He.glo_ok X G (c.t.d.fact 60 (f := .glo "state") rfl)) (fun base _ => ok_state T F_state H_hangs_together) (fun _ _ _ _ _ _ us hl => match us, hl with | [_, _], _ => rfl)
  have HK : HandOk P w K mg := by
    refine ⟨fun base TB => held_of H_begin (by decide) (He.glo_ok X G (c.t.d.fact 36 (f := .glo "begin") rfl)) trivial, fun c hb => ?_⟩
    cases c with
    | begin_ n => cases hb
    | link u v => exact ⟨is_link, fun base TB => held_of H_link (by decide) (He.glo_ok X G (c.t.d.fact 37 (f := .glo "link") rfl)) trivial, ⟨_, _, rfl⟩⟩
    | unlink i => exact ⟨is_unlink, fun base TB => held_of H_unlink (by decide) (He.glo_ok X G (c.t.d.fact 38 (f := .glo "unlink") rfl)) trivial, ⟨_, rfl⟩⟩
    | stand u v => exact ⟨is_stand, fun base TB => held_of H_stand (by decide) (He.glo_ok X G (c.t.d.fact 39 (f := .glo "stand") rfl)) trivial, ⟨_, _, rfl⟩⟩
    | step x y => exact ⟨is_step, fun base TB => held_of H_step (by decide) (He.glo_ok X G (c.t.d.fact 40 (f := .glo "step") rfl)) trivial, ⟨_, _, rfl⟩⟩
    | put => exact ⟨is_put, fun base TB => held_of H_put (by decide) (He.glo_ok X G (c.t.d.fact 41 (f := .glo "put") rfl)) trivial, rfl⟩
    | take => exact ⟨is_take, fun base TB => held_of H_take (by decide) (He.glo_ok X G (c.t.d.fact 42 (f := .glo "take") rfl)) trivial, rfl⟩
    | back => exact ⟨is_back, fun base TB => held_of H_back (by decide) (He.glo_ok X G (c.t.d.fact 43 (f := .glo "back") rfl)) trivial, rfl⟩
    | looks i => exact ⟨is_looks, fun base TB => held_of H_looks (by decide) (He.glo_ok X G (c.t.d.fact 44 (f := .glo "looks") rfl)) trivial, ⟨_, rfl⟩⟩
    | exits u => exact ⟨is_exits, fun base TB => held_of H_exits (by decide) (He.glo_ok X G (c.t.d.fact 45 (f := .glo "exits") rfl)) trivial, ⟨_, rfl⟩⟩
    | walk u l => exact ⟨is_walk, fun base TB => held_of H_walk (by decide) (He.glo_ok X G (c.t.d.fact 46 (f := .glo "walk") rfl)) trivial, ⟨_, _, rfl⟩⟩
    | apart u v => exact ⟨is_apart, fun base TB => held_of H_apart (by decide) (He.glo_ok X G (c.t.d.fact 47 (f := .glo "apart") rfl)) trivial, ⟨_, _, rfl⟩⟩
    | classes => exact ⟨is_classes, fun base TB => held_of H_classes (by decide) (He.glo_ok X G (c.t.d.fact 48 (f := .glo "classes") rfl)) trivial, rfl⟩
    | distance u v => exact ⟨is_distance, fun base TB => held_of H_distance (by decide) (He.glo_ok X G (c.t.d.fact 49 (f := .glo "distance") rfl)) trivial, ⟨_, _, rfl⟩⟩
    | shrink u v => exact ⟨is_near, fun base TB => held_of H_near (by decide) (He.glo_ok X G (c.t.d.fact 50 (f := .glo "near") rfl)) TB, ⟨_, _, rfl⟩⟩
    | meets d l => exact ⟨is_meets, fun base TB => held_of H_meets (by decide) (He.glo_ok X G (c.t.d.fact 51 (f := .glo "meets") rfl)) trivial, ⟨_, _, rfl⟩⟩
    | can d => exact ⟨is_can, fun base TB => held_of H_can (by decide) (He.glo_ok X G (c.t.d.fact 52 (f := .glo "can") rfl)) TB, ⟨_, rfl⟩⟩
    | found d => exact ⟨is_found, fun base TB => held_of H_found (by decide) (He.glo_ok X G (c.t.d.fact 53 (f := .glo "found") rfl)) TB, ⟨_, rfl⟩⟩
    | soonest h => exact ⟨is_soonest, fun base TB => held_of H_soonest (by decide) (He.glo_ok X G (c.t.d.fact 54 (f := .glo "soonest") rfl)) trivial, ⟨_, rfl⟩⟩
    | mean h => exact ⟨is_mean, fun base TB => held_of H_mean (by decide) (He.glo_ok X G (c.t.d.fact 55 (f := .glo "mean") rfl)) trivial, ⟨_, rfl⟩⟩
    | known h o => exact ⟨is_known, fun base TB => held_of H_known (by decide) (He.glo_ok X G (c.t.d.fact 56 (f := .glo "known") rfl)) trivial, ⟨_, _, rfl⟩⟩
    | pebble u v => exact ⟨is_pebble, fun base TB => held_of H_pebble (by decide) (He.glo_ok X G (c.t.d.fact 57 (f := .glo "pebble") rfl)) TB, ⟨_, _, rfl⟩⟩
    | same u v => exact ⟨is_same, fun base TB => held_of H_same (by decide) (He.glo_ok X G (c.t.d.fact 58 (f := .glo "same") rfl)) trivial, ⟨_, _, rfl⟩⟩
    | count => exact ⟨is_count, fun base TB => held_of H_count (by decide) (He.glo_ok X G (c.t.d.fact 59 (f := .glo "count") rfl)) trivial, rfl⟩
    | state => exact ⟨is_state, fun base TB => held_of H_state (by decide) (He.glo_ok X G (c.t.d.fact 60 (f := .glo "state") rfl)) trivial, rfl⟩
  have H_length_of : HasB P w K mg (fun _ => True) 1 "length_of" ["calls", "at"] (sp_length_of K) := has_mk F_length_of (He.glo_ok X G (c.t.d.fact 61 (f := .glo "length_of") rfl)) (fun base _ => ok_length_of T CA F_length_of) (fun _ _ _ _ _ _ us hl => match us, hl with | [_, _], _ => rfl)
  have H_arguments_of : HasB P w K mg (fun _ => True) 1 "arguments_of" ["calls", "at"] (sp_arguments_of K) := has_mk F_arguments_of (He.glo_ok X G (c.t.d.fact 62 (f := .glo "arguments_of") rfl)) (fun base _ => ok_arguments_of T CA F_arguments_of) (fun _ _ _ _ _ _ us hl => match us, hl with | [_, _], _ => rfl)
  have H_answer_of : HasB P w K mg (TabsB K mg) 9 "answer_of" ["wanderers", "number", "given"] (sp_answer_of K) := has_mk F_answer_of (He.glo_ok X G (c.t.d.fact 63 (f := .glo "answer_of") rfl)) (fun base TB => ok_answer_of T CA TB F_answer_of HK H_hangs_together) (fun _ _ _ _ _ _ us hl => match us, hl with | [_, _, _], _ => rfl)
  refine ⟨fd_answers, F_answers, fun base TB => ?_⟩
  exact ok_answers T CA TB F_answers H_Wanderers H_answer_of H_arguments_of H_length_of
end
end Nw
end
section
set_option maxRecDepth 100000
set_option maxHeartbeats 4000000
namespace Nw
open PySem PySem.Spec PyProof.Rows L2 LamX NdefX
/-- what the def of the row keeps is what is due -/
theorem sp_due {K : PySem.W.Frag} {H : Hp} {xs : List V} {l : List Int} (hT : ∀ p ∈ nested.map (He.cT K), H p.2 = some (.tbl #[])) (h0 : ∀ x ∈ l, 0 ≤ x) (hask : PyKs540.answers_asked l = true) (hS : DwAll K H xs [.list (l.map PySem.W.WData.int)]) :
    sp_answers K xs H (fun v H' => Dw K H' v (.list ((PyKs540.answers l).map PySem.W.WData.int))) fun _ _ _ => False := by
  obtain ⟨cs, P, ea, hlen⟩ := answers_is h0 hask
  cases hS with
  | cons h1 h2 =>
    cases h2
    cases h1 with
    | lst sq al =>
      have exs := ints_dw l _ al
      subst exs
      have ev : vN (l.map Int.toNat) = l.map V.int := by
        rw [vN, List.map_map]
        refine List.map_congr_left fun x hx => ?_
        show V.int ((Int.toNat x : Nat) : Int) = V.int x
        rw [Int.toNat_of_nonneg (h0 x hx)]
      refine ⟨_, l.map Int.toNat, cs, rfl, fun p hp => ?_, by rw [ev]; exact sq, P, Nat.le_trans hlen (by decide), fun H' r hr => ?_⟩
      · obtain ⟨q, hq, rfl⟩ := List.mem_map.mp hp
        exact ⟨#[], hT _ (List.mem_map.mpr ⟨q, hq, rfl⟩), trivial, fun pos cv hc => by cases hc⟩
      · rw [ea]
        exact .lst (SqL.of hr) (dw_ints _)
end Nw
end
set_option maxRecDepth 100000
set_option maxHeartbeats 4000000
open PySem PySem.W PySem.Calls PyProof.Rows
theorem PySem.Challenge.cw_netwanderers_s01_answers_holds : PySem.Challenge.rw_netwanderers_s01_answers.Holds := by
  w_on
  refine HeadRun.head_spec (r := PySem.Challenge.rw_netwanderers_s01_answers) (q := Nw.qv) (H := Nw.hk) (ob := Nw.ob) (M := 4000) (loose := Nw.loose) (kwd := []) Nw.ob_eq
    (by kernel_rfl) (fun s => by kernel_rfl) Nw.headRun (by rfl) (by rfl) (by rfl) os_shapes (by first | assumption | decide +kernel) (by decide +kernel) ⟨rfl, rfl, rfl, rfl, rfl, by decide +kernel⟩ ?hw ?hc
  case hw => exact ⟨[.list [.int 0, .int 1]], by decide +kernel, by decide +kernel⟩
  case hc =>
    refine Nw.walkT (k := 10) (ps := ["calls"]) (CX := L2.CX0) (by first | assumption | decide +kernel) rfl ⟨rfl, by decide, by decide⟩ ?F (fun _ _ _ _ z => z)
    intro w mg fa h Y G hmg0
    obtain ⟨K, KX, c⟩ := Y
    have hmg : mg ("answers" : PySem.Str) = some (.ref fa) := hmg0
    obtain ⟨fd, F, hF⟩ := Nw.all_ok (P := PySem.Challenge.rw_netwanderers_s01_answers.prog) KX G c
    have e := hmg.symm.trans (He.glo_ok KX G (c.t.d.fact 64 (f := .glo "answers") rfl))
    cases e
    have hb := L2.FunD.bindsA (ps := ["calls"]) F fun _ _ _ _ _ _ us hl => match us, hl with | [_], _ => rfl
    refine ⟨K, Nw.nested.map (He.cT K), fd, Nw.sp_answers K, KX, fun p hp => ?_, fun p hp => ?_, fun p hp => ?_, hb, fun base _ _ hTb => hF base fun p hp => hTb _ (List.mem_map.mpr ⟨p, hp, rfl⟩), fun H xs a hT hwi hask hS => ?_⟩
    · obtain ⟨q, hq, rfl⟩ := List.mem_map.mp hp
      exact c.empty q hq
    · obtain ⟨q, hq, rfl⟩ := List.mem_map.mp hp
      exact c.out q hq
    · obtain ⟨q, hq, rfl⟩ := List.mem_map.mp hp
      exact codeHd_of_K KX (c.hd q hq)
    · obtain ⟨l, u⟩ := a
      have h0 : ∀ x ∈ l, (0 : Int) ≤ x := fun x hx => by
        have hwi : (Codec.inList 0 13000 (Codec.inInt 0 4294967295) l && true) = true := hwi
        simp only [Codec.inList, Bool.and_eq_true, List.all_eq_true] at hwi
        have h1 : (decide ((0 : Int) ≤ x) && decide (x ≤ 4294967295)) = true := hwi.1.2 x hx
        rw [Bool.and_eq_true, decide_eq_true_iff] at h1
        exact h1.1
      exact Nw.sp_due hT h0 hask hS
