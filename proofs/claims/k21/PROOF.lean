import PyProof.Rows.All
import Wide.All
import OpenK.AllK
import Wide.FinOn
import HandS.ForMost
import HandS.Evl
import KE.KStateDown
import HandS.Ends
import HandS.More
import HandS.Words
import HandS.WordsExc
import HandS.Defaults
import HandS.Head0
import HandS.Head1
import HandS.Head2
import HandS.Head3
import HandS.HeadEnd
import HandS.HeadHook1
import HandS.HeadHook2
import HandS.TupAny
import HandS.TupLe
import HandS.Zip
import HandS.Rev
import HandS.RevRange
import HandS.SortInts
import HandS.IsInst
import HandS.Wide
import KE.KeyNested
import HandS.Conv
import HandS.Style
import KE.GoesNew
import KE.GoesEnum
import KE.GoesMore
import KE.KDictZip
import KE.KItemsList
import HandS.Star
import HandS.ListItems
import HandS.RepeatKit
import HandS.DictComp
import HandS.Call
import KE.KDictSum
import HandS.TupSets
import KE.DataFind
import HandS.NoneIn
import HandS.SortKw
import KE.DatumOrd
import HandS.Iter
import HandS.Dict
import KE.KDictDisplayH
import HandS.TupMul
import PyProof.ListOps
import PyProof.SeqRoads
import KE.Datum
import KE.KEqDict
import KE.DataEq
import HandS.Sort
import KE.KIndexOf
import KE.KDictKeyed
import PySem.Challenge.RW_hallback_k21_halls_written_by_hand
set_option Elab.async false
set_option linter.all false
set_option autoImplicit false
set_option maxRecDepth 100000
set_option maxHeartbeats 4000000
namespace Dn
open PySem PySem.Spec PyProof.Rows L2
def topS (i : Nat) : Stmt := PySem.Challenge.pw_hallback_k21_halls_written_by_hand.main.body.getD i (.Pass ⟨0, 0, 0, 0⟩)
abbrev s_is_whole : Stmt := topS 11
abbrev s_are_whole : Stmt := topS 12
abbrev s_is_from_to : Stmt := topS 13
abbrev s_is_tuple : Stmt := topS 14
abbrev s_are_rows : Stmt := topS 15
abbrev s_is_rising : Stmt := topS 16
abbrev s_is_column : Stmt := topS 20
abbrev s_turns_of : Stmt := topS 21
abbrev s_all_stays : Stmt := topS 24
abbrev s_all_turns : Stmt := topS 22
abbrev s_free_from : Stmt := topS 23
abbrev s__are_desks : Stmt := topS 42
abbrev s__are_ranks : Stmt := topS 41
abbrev s_is_hall : Stmt := topS 33
abbrev s_columns_of : Stmt := topS 34
abbrev s_need_hall : Stmt := topS 35
abbrev s_need_book : Stmt := topS 36
abbrev s__is_look : Stmt := topS 44
abbrev s__are_looks_of : Stmt := topS 43
abbrev s_need_looks : Stmt := topS 37
abbrev s_need_written : Stmt := topS 38
abbrev s_need_rank : Stmt := topS 39
abbrev s_need_tick : Stmt := topS 40
abbrev s_taken_by : Stmt := topS 46
abbrev s_told_of : Stmt := topS 47
abbrev s_told_with : Stmt := topS 48
abbrev s_ranks_behind : Stmt := topS 49
abbrev s_steps_up : Stmt := topS 51
abbrev s_is_barred : Stmt := topS 52
abbrev s_steps_down : Stmt := topS 53
abbrev s_rank_up : Stmt := topS 54
abbrev s_all_up : Stmt := topS 55
abbrev s_all_steps : Stmt := topS 56
abbrev s_steps_of : Stmt := topS 57
abbrev s_stairs : Stmt := topS 59
abbrev s_can_be : Stmt := topS 60
abbrev s_first_bar : Stmt := topS 61
abbrev s__first_bar_of : Stmt := topS 64
abbrev s_bar : Stmt := topS 62
abbrev s__taken_ahead : Stmt := topS 65
abbrev s__least_by : Stmt := topS 66
abbrev s__passed_by : Stmt := topS 68
abbrev s__most_by : Stmt := topS 67
abbrev s_is_bar : Stmt := topS 63
abbrev s_need_comer : Stmt := topS 75
abbrev s_first_tick : Stmt := topS 76
abbrev s_came : Stmt := topS 70
abbrev s_taken : Stmt := topS 71
abbrev s_waits : Stmt := topS 72
abbrev s__left : Stmt := topS 77
abbrev s_waiting : Stmt := topS 73
abbrev s_because : Stmt := topS 74
abbrev s__need_alike : Stmt := topS 80
abbrev s__taken_first : Stmt := topS 81
abbrev s_first_taken : Stmt := topS 79
abbrev s__with_first : Stmt := topS 86
abbrev s__up_from : Stmt := topS 87
abbrev s__does : Stmt := topS 85
abbrev s_mends : Stmt := topS 83
abbrev s__can_stay : Stmt := topS 88
abbrev s_stays : Stmt := topS 84
abbrev s_ways_within : Stmt := topS 94
abbrev s_ways_to : Stmt := topS 90
abbrev s_ways_on : Stmt := topS 91
abbrev s_all_ways : Stmt := topS 92
abbrev s_all_comings : Stmt := topS 93
abbrev s__waiting_next : Stmt := topS 100
abbrev s__with_turn : Stmt := topS 99
abbrev s__rows_next : Stmt := topS 98
abbrev s_nexts : Stmt := topS 96
abbrev s__worst_answers : Stmt := topS 101
abbrev s_best_look : Stmt := topS 97
abbrev s__orders_with : Stmt := topS 106
abbrev s__up : Stmt := topS 107
abbrev s__pairs : Stmt := topS 105
abbrev s__ways_of : Stmt := topS 108
abbrev s_orders : Stmt := topS 103
abbrev s_must_be_ahead : Stmt := topS 104
abbrev s_how_many : Stmt := topS 110
abbrev s_how_many_of : Stmt := topS 111
abbrev s__law_well : Stmt := topS 113
abbrev s__law_take : Stmt := topS 114
abbrev s__law_bags : Stmt := topS 115
abbrev s__law_one_desk : Stmt := topS 116
abbrev s__law_barred : Stmt := topS 117
abbrev s__law_orders_told : Stmt := topS 118
abbrev s__law_two_taken : Stmt := topS 119
abbrev s__law_first_told : Stmt := topS 120
abbrev s_law : Stmt := topS 121
end Dn
set_option maxHeartbeats 0
namespace Dn
open PySem PySem.Spec PyProof.Rows L2
def d_is_whole : He.DefD := ⟨("is_whole", none), "is_whole", "is_whole", defArgs s_is_whole, defBody s_is_whole, defScope s_is_whole, [], []⟩
def d_are_whole : He.DefD := ⟨("are_whole", none), "are_whole", "are_whole", defArgs s_are_whole, defBody s_are_whole, defScope s_are_whole, [], []⟩
def d_is_from_to : He.DefD := ⟨("is_from_to", none), "is_from_to", "is_from_to", defArgs s_is_from_to, defBody s_is_from_to, defScope s_is_from_to, [], []⟩
def d_is_tuple : He.DefD := ⟨("is_tuple", none), "is_tuple", "is_tuple", defArgs s_is_tuple, defBody s_is_tuple, defScope s_is_tuple, [], []⟩
def d_are_rows : He.DefD := ⟨("are_rows", none), "are_rows", "are_rows", defArgs s_are_rows, defBody s_are_rows, defScope s_are_rows, [], []⟩
def d_is_rising : He.DefD := ⟨("is_rising", none), "is_rising", "is_rising", defArgs s_is_rising, defBody s_is_rising, defScope s_is_rising, [], []⟩
def d_is_column : He.DefD := ⟨("is_column", none), "is_column", "is_column", defArgs s_is_column, defBody s_is_column, defScope s_is_column, [], []⟩
def d_turns_of : He.DefD := ⟨("turns_of", none), "turns_of", "turns_of", defArgs s_turns_of, defBody s_turns_of, defScope s_turns_of, [], []⟩
def d_all_stays : He.DefD := ⟨("all_stays", none), "all_stays", "all_stays", defArgs s_all_stays, defBody s_all_stays, defScope s_all_stays, [], []⟩
def d_all_turns : He.DefD := ⟨("all_turns", none), "all_turns", "all_turns", defArgs s_all_turns, defBody s_all_turns, defScope s_all_turns, [], []⟩
def d_free_from : He.DefD := ⟨("free_from", none), "free_from", "free_from", defArgs s_free_from, defBody s_free_from, defScope s_free_from, [], []⟩
def d__are_desks : He.DefD := ⟨("_are_desks", none), "_are_desks", "_are_desks", defArgs s__are_desks, defBody s__are_desks, defScope s__are_desks, [], []⟩
def d__are_ranks : He.DefD := ⟨("_are_ranks", none), "_are_ranks", "_are_ranks", defArgs s__are_ranks, defBody s__are_ranks, defScope s__are_ranks, [], []⟩
def d_is_hall : He.DefD := ⟨("is_hall", none), "is_hall", "is_hall", defArgs s_is_hall, defBody s_is_hall, defScope s_is_hall, [], []⟩
def d_columns_of : He.DefD := ⟨("columns_of", none), "columns_of", "columns_of", defArgs s_columns_of, defBody s_columns_of, defScope s_columns_of, [], []⟩
def d_need_hall : He.DefD := ⟨("need_hall", none), "need_hall", "need_hall", defArgs s_need_hall, defBody s_need_hall, defScope s_need_hall, [], []⟩
def d_need_book : He.DefD := ⟨("need_book", none), "need_book", "need_book", defArgs s_need_book, defBody s_need_book, defScope s_need_book, [], []⟩
def d__is_look : He.DefD := ⟨("_is_look", none), "_is_look", "_is_look", defArgs s__is_look, defBody s__is_look, defScope s__is_look, [], []⟩
def d__are_looks_of : He.DefD := ⟨("_are_looks_of", none), "_are_looks_of", "_are_looks_of", defArgs s__are_looks_of, defBody s__are_looks_of, defScope s__are_looks_of, [], []⟩
def d_need_looks : He.DefD := ⟨("need_looks", none), "need_looks", "need_looks", defArgs s_need_looks, defBody s_need_looks, defScope s_need_looks, [], []⟩
def d_need_written : He.DefD := ⟨("need_written", none), "need_written", "need_written", defArgs s_need_written, defBody s_need_written, defScope s_need_written, [], []⟩
def d_need_rank : He.DefD := ⟨("need_rank", none), "need_rank", "need_rank", defArgs s_need_rank, defBody s_need_rank, defScope s_need_rank, [], []⟩
def d_need_tick : He.DefD := ⟨("need_tick", none), "need_tick", "need_tick", defArgs s_need_tick, defBody s_need_tick, defScope s_need_tick, [], []⟩
def d_taken_by : He.DefD := ⟨("taken_by", none), "taken_by", "taken_by", defArgs s_taken_by, defBody s_taken_by, defScope s_taken_by, [], []⟩
def d_told_of : He.DefD := ⟨("told_of", none), "told_of", "told_of", defArgs s_told_of, defBody s_told_of, defScope s_told_of, [], []⟩
def d_told_with : He.DefD := ⟨("told_with", none), "told_with", "told_with", defArgs s_told_with, defBody s_told_with, defScope s_told_with, [], []⟩
def d_ranks_behind : He.DefD := ⟨("ranks_behind", none), "ranks_behind", "ranks_behind", defArgs s_ranks_behind, defBody s_ranks_behind, defScope s_ranks_behind, [], []⟩
def d_steps_up : He.DefD := ⟨("steps_up", none), "steps_up", "steps_up", defArgs s_steps_up, defBody s_steps_up, defScope s_steps_up, [], []⟩
def d_is_barred : He.DefD := ⟨("is_barred", none), "is_barred", "is_barred", defArgs s_is_barred, defBody s_is_barred, defScope s_is_barred, [], []⟩
def d_steps_down : He.DefD := ⟨("steps_down", none), "steps_down", "steps_down", defArgs s_steps_down, defBody s_steps_down, defScope s_steps_down, [], []⟩
def d_rank_up : He.DefD := ⟨("rank_up", none), "rank_up", "rank_up", defArgs s_rank_up, defBody s_rank_up, defScope s_rank_up, [], []⟩
def d_all_up : He.DefD := ⟨("all_up", none), "all_up", "all_up", defArgs s_all_up, defBody s_all_up, defScope s_all_up, [], []⟩
def d_all_steps : He.DefD := ⟨("all_steps", none), "all_steps", "all_steps", defArgs s_all_steps, defBody s_all_steps, defScope s_all_steps, [], []⟩
def d_steps_of : He.DefD := ⟨("steps_of", none), "steps_of", "steps_of", defArgs s_steps_of, defBody s_steps_of, defScope s_steps_of, [], []⟩
def d_stairs : He.DefD := ⟨("stairs", none), "stairs", "stairs", defArgs s_stairs, defBody s_stairs, defScope s_stairs, [], []⟩
def d_can_be : He.DefD := ⟨("can_be", none), "can_be", "can_be", defArgs s_can_be, defBody s_can_be, defScope s_can_be, [], []⟩
def d_first_bar : He.DefD := ⟨("first_bar", none), "first_bar", "first_bar", defArgs s_first_bar, defBody s_first_bar, defScope s_first_bar, [], []⟩
def d__first_bar_of : He.DefD := ⟨("_first_bar_of", none), "_first_bar_of", "_first_bar_of", defArgs s__first_bar_of, defBody s__first_bar_of, defScope s__first_bar_of, [], []⟩
def d_bar : He.DefD := ⟨("bar", none), "bar", "bar", defArgs s_bar, defBody s_bar, defScope s_bar, [], []⟩
def d__taken_ahead : He.DefD := ⟨("_taken_ahead", none), "_taken_ahead", "_taken_ahead", defArgs s__taken_ahead, defBody s__taken_ahead, defScope s__taken_ahead, [], []⟩
def d__least_by : He.DefD := ⟨("_least_by", none), "_least_by", "_least_by", defArgs s__least_by, defBody s__least_by, defScope s__least_by, [], []⟩
def d__passed_by : He.DefD := ⟨("_passed_by", none), "_passed_by", "_passed_by", defArgs s__passed_by, defBody s__passed_by, defScope s__passed_by, [], []⟩
def d__most_by : He.DefD := ⟨("_most_by", none), "_most_by", "_most_by", defArgs s__most_by, defBody s__most_by, defScope s__most_by, [], []⟩
def d_is_bar : He.DefD := ⟨("is_bar", none), "is_bar", "is_bar", defArgs s_is_bar, defBody s_is_bar, defScope s_is_bar, [], []⟩
def d_need_comer : He.DefD := ⟨("need_comer", none), "need_comer", "need_comer", defArgs s_need_comer, defBody s_need_comer, defScope s_need_comer, [], []⟩
def d_first_tick : He.DefD := ⟨("first_tick", none), "first_tick", "first_tick", defArgs s_first_tick, defBody s_first_tick, defScope s_first_tick, [], []⟩
def d_came : He.DefD := ⟨("came", none), "came", "came", defArgs s_came, defBody s_came, defScope s_came, [], []⟩
def d_taken : He.DefD := ⟨("taken", none), "taken", "taken", defArgs s_taken, defBody s_taken, defScope s_taken, [], []⟩
def d_waits : He.DefD := ⟨("waits", none), "waits", "waits", defArgs s_waits, defBody s_waits, defScope s_waits, [], []⟩
def d__left : He.DefD := ⟨("_left", none), "_left", "_left", defArgs s__left, defBody s__left, defScope s__left, [], []⟩
def d_waiting : He.DefD := ⟨("waiting", none), "waiting", "waiting", defArgs s_waiting, defBody s_waiting, defScope s_waiting, [], []⟩
def d_because : He.DefD := ⟨("because", none), "because", "because", defArgs s_because, defBody s_because, defScope s_because, [], []⟩
def d__need_alike : He.DefD := ⟨("_need_alike", none), "_need_alike", "_need_alike", defArgs s__need_alike, defBody s__need_alike, defScope s__need_alike, [], []⟩
def d__taken_first : He.DefD := ⟨("_taken_first", none), "_taken_first", "_taken_first", defArgs s__taken_first, defBody s__taken_first, defScope s__taken_first, [], []⟩
def d_first_taken : He.DefD := ⟨("first_taken", none), "first_taken", "first_taken", defArgs s_first_taken, defBody s_first_taken, defScope s_first_taken, [], []⟩
def d__with_first : He.DefD := ⟨("_with_first", none), "_with_first", "_with_first", defArgs s__with_first, defBody s__with_first, defScope s__with_first, [], []⟩
def d__up_from : He.DefD := ⟨("_up_from", none), "_up_from", "_up_from", defArgs s__up_from, defBody s__up_from, defScope s__up_from, [], []⟩
def d__does : He.DefD := ⟨("_does", none), "_does", "_does", defArgs s__does, defBody s__does, defScope s__does, [], []⟩
def d_mends : He.DefD := ⟨("mends", none), "mends", "mends", defArgs s_mends, defBody s_mends, defScope s_mends, [], []⟩
def d__can_stay : He.DefD := ⟨("_can_stay", none), "_can_stay", "_can_stay", defArgs s__can_stay, defBody s__can_stay, defScope s__can_stay, [], []⟩
def d_stays : He.DefD := ⟨("stays", none), "stays", "stays", defArgs s_stays, defBody s_stays, defScope s_stays, [], []⟩
def d_ways_within : He.DefD := ⟨("ways_within", none), "ways_within", "ways_within", defArgs s_ways_within, defBody s_ways_within, defScope s_ways_within, [], []⟩
def d_ways_to : He.DefD := ⟨("ways_to", none), "ways_to", "ways_to", defArgs s_ways_to, defBody s_ways_to, defScope s_ways_to, [], []⟩
def d_ways_on : He.DefD := ⟨("ways_on", none), "ways_on", "ways_on", defArgs s_ways_on, defBody s_ways_on, defScope s_ways_on, [], []⟩
def d_all_ways : He.DefD := ⟨("all_ways", none), "all_ways", "all_ways", defArgs s_all_ways, defBody s_all_ways, defScope s_all_ways, [], []⟩
def d_all_comings : He.DefD := ⟨("all_comings", none), "all_comings", "all_comings", defArgs s_all_comings, defBody s_all_comings, defScope s_all_comings, [], []⟩
def d__waiting_next : He.DefD := ⟨("_waiting_next", none), "_waiting_next", "_waiting_next", defArgs s__waiting_next, defBody s__waiting_next, defScope s__waiting_next, [], []⟩
def d__with_turn : He.DefD := ⟨("_with_turn", none), "_with_turn", "_with_turn", defArgs s__with_turn, defBody s__with_turn, defScope s__with_turn, [], []⟩
def d__rows_next : He.DefD := ⟨("_rows_next", none), "_rows_next", "_rows_next", defArgs s__rows_next, defBody s__rows_next, defScope s__rows_next, [], []⟩
def d_nexts : He.DefD := ⟨("nexts", none), "nexts", "nexts", defArgs s_nexts, defBody s_nexts, defScope s_nexts, [], []⟩
def d__worst_answers : He.DefD := ⟨("_worst_answers", none), "_worst_answers", "_worst_answers", defArgs s__worst_answers, defBody s__worst_answers, defScope s__worst_answers, [], []⟩
def d_best_look : He.DefD := ⟨("best_look", none), "best_look", "best_look", defArgs s_best_look, defBody s_best_look, defScope s_best_look, [], []⟩
def d__orders_with : He.DefD := ⟨("_orders_with", none), "_orders_with", "_orders_with", defArgs s__orders_with, defBody s__orders_with, defScope s__orders_with, [], []⟩
def d__up : He.DefD := ⟨("_up", none), "_up", "_up", defArgs s__up, defBody s__up, defScope s__up, [], []⟩
def d__pairs : He.DefD := ⟨("_pairs", none), "_pairs", "_pairs", defArgs s__pairs, defBody s__pairs, defScope s__pairs, [], []⟩
def d__ways_of : He.DefD := ⟨("_ways_of", none), "_ways_of", "_ways_of", defArgs s__ways_of, defBody s__ways_of, defScope s__ways_of, [], []⟩
def d_orders : He.DefD := ⟨("orders", none), "orders", "orders", defArgs s_orders, defBody s_orders, defScope s_orders, [], []⟩
def d_must_be_ahead : He.DefD := ⟨("must_be_ahead", none), "must_be_ahead", "must_be_ahead", defArgs s_must_be_ahead, defBody s_must_be_ahead, defScope s_must_be_ahead, [], []⟩
def d_how_many : He.DefD := ⟨("how_many", none), "how_many", "how_many", defArgs s_how_many, defBody s_how_many, defScope s_how_many, [], []⟩
def d_how_many_of : He.DefD := ⟨("how_many_of", none), "how_many_of", "how_many_of", defArgs s_how_many_of, defBody s_how_many_of, defScope s_how_many_of, [], []⟩
def d__law_well : He.DefD := ⟨("_law_well", none), "_law_well", "_law_well", defArgs s__law_well, defBody s__law_well, defScope s__law_well, [], []⟩
def d__law_take : He.DefD := ⟨("_law_take", none), "_law_take", "_law_take", defArgs s__law_take, defBody s__law_take, defScope s__law_take, [], []⟩
def d__law_bags : He.DefD := ⟨("_law_bags", none), "_law_bags", "_law_bags", defArgs s__law_bags, defBody s__law_bags, defScope s__law_bags, [], []⟩
def d__law_one_desk : He.DefD := ⟨("_law_one_desk", none), "_law_one_desk", "_law_one_desk", defArgs s__law_one_desk, defBody s__law_one_desk, defScope s__law_one_desk, [], []⟩
def d__law_barred : He.DefD := ⟨("_law_barred", none), "_law_barred", "_law_barred", defArgs s__law_barred, defBody s__law_barred, defScope s__law_barred, [], []⟩
def d__law_orders_told : He.DefD := ⟨("_law_orders_told", none), "_law_orders_told", "_law_orders_told", defArgs s__law_orders_told, defBody s__law_orders_told, defScope s__law_orders_told, [], []⟩
def d__law_two_taken : He.DefD := ⟨("_law_two_taken", none), "_law_two_taken", "_law_two_taken", defArgs s__law_two_taken, defBody s__law_two_taken, defScope s__law_two_taken, [], []⟩
def d__law_first_told : He.DefD := ⟨("_law_first_told", none), "_law_first_told", "_law_first_told", defArgs s__law_first_told, defBody s__law_first_told, defScope s__law_first_told, [], []⟩
def d_law : He.DefD := ⟨("law", none), "law", "law", defArgs s_law, defBody s_law, defScope s_law, [], []⟩
def fnD : List He.DefD := [d_is_whole, d_are_whole, d_is_from_to, d_is_tuple, d_are_rows, d_is_rising, d_is_column, d_turns_of, d_all_stays, d_all_turns, d_free_from, d__are_desks, d__are_ranks, d_is_hall, d_columns_of, d_need_hall, d_need_book, d__is_look, d__are_looks_of, d_need_looks, d_need_written, d_need_rank, d_need_tick, d_taken_by, d_told_of, d_told_with, d_ranks_behind, d_steps_up, d_is_barred, d_steps_down, d_rank_up, d_all_up, d_all_steps, d_steps_of, d_stairs, d_can_be, d_first_bar, d__first_bar_of, d_bar, d__taken_ahead, d__least_by, d__passed_by, d__most_by, d_is_bar, d_need_comer, d_first_tick, d_came, d_taken, d_waits, d__left, d_waiting, d_because, d__need_alike, d__taken_first, d_first_taken, d__with_first, d__up_from, d__does, d_mends, d__can_stay, d_stays, d_ways_within, d_ways_to, d_ways_on, d_all_ways, d_all_comings, d__waiting_next, d__with_turn, d__rows_next, d_nexts, d__worst_answers, d_best_look, d__orders_with, d__up, d__pairs, d__ways_of, d_orders, d_must_be_ahead, d_how_many, d_how_many_of, d__law_well, d__law_take, d__law_bags, d__law_one_desk, d__law_barred, d__law_orders_told, d__law_two_taken, d__law_first_told, d_law]
def faD : List He.Fa := [.glo "is_whole", .glo "are_whole", .glo "is_from_to", .glo "is_tuple", .glo "are_rows", .glo "is_rising", .glo "is_column", .glo "turns_of", .glo "all_stays", .glo "all_turns", .glo "free_from", .glo "_are_desks", .glo "_are_ranks", .glo "is_hall", .glo "columns_of", .glo "need_hall", .glo "need_book", .glo "_is_look", .glo "_are_looks_of", .glo "need_looks", .glo "need_written", .glo "need_rank", .glo "need_tick", .glo "taken_by", .glo "told_of", .glo "told_with", .glo "ranks_behind", .glo "steps_up", .glo "is_barred", .glo "steps_down", .glo "rank_up", .glo "all_up", .glo "all_steps", .glo "steps_of", .glo "stairs", .glo "can_be", .glo "first_bar", .glo "_first_bar_of", .glo "bar", .glo "_taken_ahead", .glo "_least_by", .glo "_passed_by", .glo "_most_by", .glo "is_bar", .glo "need_comer", .glo "first_tick", .glo "came", .glo "taken", .glo "waits", .glo "_left", .glo "waiting", .glo "because", .glo "_need_alike", .glo "_taken_first", .glo "first_taken", .glo "_with_first", .glo "_up_from", .glo "_does", .glo "mends", .glo "_can_stay", .glo "stays", .glo "ways_within", .glo "ways_to", .glo "ways_on", .glo "all_ways", .glo "all_comings", .glo "_waiting_next", .glo "_with_turn", .glo "_rows_next", .glo "nexts", .glo "_worst_answers", .glo "best_look", .glo "_orders_with", .glo "_up", .glo "_pairs", .glo "_ways_of", .glo "orders", .glo "must_be_ahead", .glo "how_many", .glo "how_many_of", .glo "_law_well", .glo "_law_take", .glo "_law_bags", .glo "_law_one_desk", .glo "_law_barred", .glo "_law_orders_told", .glo "_law_two_taken", .glo "_law_first_told", .glo "law", .int "BUSY" (-1), .int "NOBODY" (4), .int "DESKS_AT_MOST" (3), .int "RANKS_AT_MOST" (4), .int "STAY_AT_MOST" (10), .int "COME_AT_MOST" (5), .int "TICKS_AT_MOST" (40), .int "LOOK_AT_MOST" (99), .int "LOOKS_AT_MOST" (6), .free "len", .free "sum", .free "all", .free "any", .free "tuple", .free "list", .free "sorted", .free "max", .free "min", .free "range", .free "zip", .free "enumerate", .free "reversed", .free "set", .free "isinstance", .free "int", .free "bool", .free "str", .free "type"]
def noLst (K : PySem.W.Frag) : Bool := K.all fun p => !(p.2.cls == .type "list")
def accB (K : PySem.W.Frag) : Bool := noLst K && He.eqO (PySem.W.nsIn K mainGlobals "accumulate") (some (some (.type "itertools.accumulate"))) && He.eqO (PySem.W.nsIn K mainGlobals "permutations") (some (some (.type "itertools.permutations")))
abbrev RW : PySem.W.OpenRow := PySem.W.OpenLaw.row PySem.Challenge.rw_hallback_k21_halls_written_by_hand
def obs2 (g : Addr → Option Obj) : He.AlD × Bool := (He.obsDG 2 faD fnD g, accB (He.frG g (He.asD g 2)))
def hk : PySem.W.Hook where
  α := He.AlD × Bool
  obs := fun s => obs2 s.heap.get?
  val := fun _ => (He.valD fnD, true)
  says := fun _ h => ∃ K : PySem.W.Frag, K.In h ∧ He.SaysD faD fnD K ∧ accB K = true
  of := fun _ _ e => ⟨_, He.frG_in, congrArg (fun z : He.AlD × Bool => z.1) e, congrArg (fun z : He.AlD × Bool => z.2) e⟩
  keeps := fun _ _ _ ⟨K, hK, c⟩ k => ⟨K, PySem.W.Frag.In.keeps hK k, c⟩
def ob (s : PySem.W.SharedT) : He.AlD × Bool := obs2 (HandSHeadRun.getT s)
theorem ob_eq (s : PySem.W.SharedT) : ob s = hk.obs s.abs := by
  have e : HandSHeadRun.getT s = s.abs.heap.get? := funext (HandSHeadRun.getT_eq s)
  show obs2 (HandSHeadRun.getT s) = obs2 s.abs.heap.get?
  rw [e]
def looseN : List Str := (["__name__", "HallError", "NoHall", "NoBook", "NoLooks", "NoRank", "NoComer", "NoTick", "NotAlike", "is_whole", "are_whole", "is_from_to", "is_tuple", "are_rows", "is_rising", "NOBODY", "BUSY", "is_column", "turns_of", "all_turns", "free_from", "all_stays", "RANKS_AT_MOST", "COME_AT_MOST", "STAY_AT_MOST", "DESKS_AT_MOST", "TICKS_AT_MOST", "LOOKS_AT_MOST", "LOOK_AT_MOST", "is_hall"] : List Str) ++ (["columns_of", "need_hall", "need_book", "need_looks", "need_written", "need_rank", "need_tick", "_are_ranks", "_are_desks", "_are_looks_of", "_is_look", "taken_by", "told_of", "told_with", "ranks_behind", "steps_up", "is_barred", "steps_down", "rank_up", "all_up", "all_steps", "steps_of", "stairs", "can_be", "first_bar", "bar", "is_bar", "_first_bar_of", "_taken_ahead", "_least_by"] : List Str) ++ (["_most_by", "_passed_by", "came", "taken", "waits", "waiting", "because", "need_comer", "first_tick", "_left", "first_taken", "_need_alike", "_taken_first", "mends", "stays", "_does", "_with_first", "_up_from", "_can_stay", "ways_to", "ways_on", "all_ways", "all_comings", "ways_within", "nexts", "best_look", "_rows_next", "_with_turn", "_waiting_next", "_worst_answers"] : List Str) ++ (["orders", "must_be_ahead", "_pairs", "_orders_with", "_up", "_ways_of", "how_many", "how_many_of", "_law_well", "_law_take", "_law_bags", "_law_one_desk", "_law_barred", "_law_orders_told", "_law_two_taken", "_law_first_told"] : List Str)
open HandSHeadRun PySem.W PySem.Calls in
theorem run_a (w : World) : (wholeF (fun p => stepQ (denQ tabQ) p w) fenceQ 6000 RW.prog).map (fun x => looksF RW.prog x.1.heap x.2.abs) = some true := by
  kernel_rfl
open HandSHeadRun PySem.W PySem.Calls in
theorem run_b (w : World) : (wholeF (fun p => stepQ (denQ tabQ) p w) fenceQ 6000 RW.prog).map (fun x => seenQ (PySem.W.view RW.prog [0, 121]) looseN (importedModules RW.prog.main.body) (fun s => xlAt (PySem.W.view RW.prog [0, 121]) [] s && recOk RW.toRowW.records s) x.2.abs) = some (openGood (PySem.W.view RW.prog [0, 121]) looseN) := by
  kernel_rfl
open HandSHeadRun PySem.W PySem.Calls in
theorem run_c (w : World) : (wholeF (fun p => stepQ (denQ tabQ) p w) fenceQ 6000 RW.prog).map (fun x => ob x.2) = some (hk.val w) := by
  kernel_rfl
theorem map3 {α β γ δ : Type} {o : Option α} {f : α → β} {g : α → γ} {k : α → δ} {b : β} {c : γ} {d : δ} (h1 : o.map f = some b) (h2 : o.map g = some c) (h3 : o.map k = some d) : o.map (fun x => (f x, g x, k x)) = some (b, c, d) := by
  cases o with
  | none => cases h1
  | some x =>
    have e1 : f x = b := Option.some.inj h1
    have e2 : g x = c := Option.some.inj h2
    have e3 : k x = d := Option.some.inj h3
    show some (f x, g x, k x) = _
    rw [e1, e2, e3]
theorem run (w : World) : HandSHeadRun.RunEqI RW (PySem.W.view RW.prog [0, 121]) hk ob 6000 looseN w := map3 (run_a w) (run_b w) (run_c w)
end Dn
namespace Dn
open PySem PySem.Spec PyProof.Rows L2
open Evl (Ex fresh_back)
abbrev D := PyData
def keyD : Key → D
  | .inl i => .int i
  | .inr x => .str x
def ih (k : List Int) : Int := reduceHash (Builtin.Tuple.tupleHashOf (k.map hashInt))
abbrev XRow := List Int × Addr × V
def XRel : List XRow → List (List Int × Addr × Value) → Prop := Paired fun p q => p.1 = q.1 ∧ p.2.1 = q.2.1 ∧ RelV p.2.2 q.2.2
def xDφ (a : Addr) (rows : List XRow) (h : Heap) : Prop := rows.length ≤ sizeLine ∧ (a == sysModules) = false ∧ (rows.map (·.1)).Nodup ∧ ∃ cs, XRel rows cs ∧
  ∃ o es ep, h.get? a = some o ∧ o.ExactDict ∧ o.data = .dict es ep ∧ es.toList = cs.map fun x => (⟨ih x.1, .ref x.2.1, x.2.2⟩ : DictEntry)
def xD (a : Addr) (rows : List XRow) : HO := .ext (xDφ a rows)
abbrev NRow := NestedKey × Addr × V
def NRel : List NRow → List (NestedKey × Addr × Value) → Prop := Paired fun p q => p.1 = q.1 ∧ p.2.1 = q.2.1 ∧ RelV p.2.2 q.2.2
mutual
/-- no text in it -/
def noT : NestedKey → Bool
  | .none => true
  | .num _ => true
  | .text _ => false
  | .tup ks => noTs ks
def noTs : List NestedKey → Bool
  | [] => true
  | k :: ks => noT k && noTs ks
end
mutual
theorem noT_hash {w w' : World} : ∀ k : NestedKey, noT k = true → k.hash w = k.hash w'
  | .none, _ => rfl
  | .num i, _ => rfl
  | .text x, h => by simp [noT] at h
  | .tup ks, h => by
    unfold NestedKey.hash
    rw [noTs_hash ks (by simpa [noT] using h)]
theorem noTs_hash {w w' : World} : ∀ ks : List NestedKey, noTs ks = true → NestedKey.hashes w ks = NestedKey.hashes w' ks
  | [], _ => rfl
  | k :: ks, h => by
    rw [noTs, Bool.and_eq_true] at h
    unfold NestedKey.hashes
    rw [noT_hash k h.1, noTs_hash ks h.2]
end
def nDφ (a : Addr) (rows : List NRow) (h : Heap) : Prop := rows.length ≤ sizeLine ∧ (a == sysModules) = false ∧ (rows.map (·.1)).Nodup ∧ (∀ r ∈ rows, noT r.1 = true ∧ r.1.depth ≤ 8) ∧ ∃ (w : World) (cs : List (NestedKey × Addr × Value)), NRel rows cs ∧
  ∃ o es ep, h.get? a = some o ∧ o.ExactDict ∧ o.data = .dict es ep ∧ es.toList = cs.map fun x => (⟨x.1.hash w, .ref x.2.1, x.2.2⟩ : DictEntry)
def nD (a : Addr) (rows : List NRow) : HO := .ext (nDφ a rows)
/-- a tuple that has no dict of its own -/
def TupS (G : Hp) (a : Addr) (xs : List V) : Prop := ∃ o : Obj, o.dict = none ∧ G a = some (.frz o (.tup xs))
theorem TupS.mono {G G' : Hp} (e : Ex G G') {a : Addr} {xs : List V} (h : TupS G a xs) : TupS G' a xs := by
  obtain ⟨o, h1, h2⟩ := h
  exact ⟨o, h1, e _ _ h2⟩
theorem TupS.rd {G : Hp} {a : Addr} {xs : List V} (h : TupS G a xs) : Rd G a (.tup xs) := by
  obtain ⟨o, _, h⟩ := h
  exact .inr ⟨o, h⟩
theorem TupS.sq {K : PySem.W.Frag} {G H : Hp} {a : Addr} {xs : List V} (h : TupS G a xs) (e : Ex G H) : SqT K H a xs := .inl (h.mono e).rd
theorem TupS.new {G : Hp} {a : Addr} {xs : List V} {o : Obj} (h : o.dict = none) : TupS (upd G a (.frz o (.tup xs))) a xs := ⟨o, h, upd_same⟩
mutual
inductive Rp (G : Hp) : V → D → Prop
  | non : Rp G .non .none
  | bl (b : Bool) : Rp G (.bl b) (.bool b)
  | int (i : Int) : Rp G (.int i) (.int i)
  | str (x : Str) : Rp G (.str x) (.str x)
  | lst {a : Addr} {xs : List V} {ds : List D} : G a = some (.lst xs) → RpAll G xs ds → Rp G (.ref a) (.list ds)
  | tup {a : Addr} {xs : List V} {ds : List D} : TupS G a xs → RpAll G xs ds → Rp G (.ref a) (.tuple ds)
  | dK {a : Addr} {ks : List Key} {xs : List V} {ds : List D} : G a = some (.dK (ks.zip xs)) → ks.length = xs.length → RpAll G xs ds → Rp G (.ref a) (.dict ((ks.map keyD).zip ds))
  | dT {a : Addr} {rows : List XRow} {ds : List D} : G a = some (xD a rows) → (∀ r ∈ rows, TupS G r.2.1 (r.1.map V.int)) → RpAll G (rows.map (·.2.2)) ds → Rp G (.ref a) (.dict ((rows.map fun r => PyData.tuple (r.1.map PyData.int)).zip ds))
  /-- a dict that nobody writes any more -/
  | dP {a : Addr} {o : Obj} {rows : List XRow} {ds : List D} : G a = some (.frz o (xD a rows)) → (∀ r ∈ rows, TupS G r.2.1 (r.1.map V.int)) → RpAll G (rows.map (·.2.2)) ds → Rp G (.ref a) (.dict [(.none, .dict ((rows.map fun r => PyData.tuple (r.1.map PyData.int)).zip ds))])
  /-- the list that the law is handed -/
  | scr {a : Addr} {o : Obj} {xs : List V} {ds : List D} : G a = some (.frz o (.lst xs)) → RpAll G xs ds → Rp G (.ref a) (.dict [(.none, .list ds)])
  /-- a range -/
  | rng {a : Addr} {lo hi : Int} : G a = some (.rng lo hi) → Rp G (.ref a) (.dict [(.bool true, .tuple [.int lo, .int hi])])
  /-- a dict keyed by nested tuples -/
  | dN {a : Addr} {rows : List NRow} {ds : List D} : G a = some (nD a rows) → (∀ r : NRow, r ∈ rows → Rp G (.ref r.2.1) r.1.data) → RpAll G (rows.map (·.2.2)) ds → Rp G (.ref a) (.dict [(.bool false, .dict ((rows.map fun r => r.1.data).zip ds))])
inductive RpAll (G : Hp) : List V → List D → Prop
  | nil : RpAll G [] []
  | cons {v : V} {vs : List V} {d : D} {ds : List D} : Rp G v d → RpAll G vs ds → RpAll G (v :: vs) (d :: ds)
end
mutual
theorem Rp.mono {G G' : Hp} (e : Ex G G') : ∀ {v : V} {d : D}, Rp G v d → Rp G' v d
  | _, _, .non => .non
  | _, _, .bl b => .bl b
  | _, _, .int i => .int i
  | _, _, .str x => .str x
  | _, _, .lst h r => .lst (e _ _ h) (RpAll.mono e r)
  | _, _, .tup h r => .tup (h.mono e) (RpAll.mono e r)
  | _, _, .dK h l r => .dK (e _ _ h) l (RpAll.mono e r)
  | _, _, .dT h l r => .dT (e _ _ h) (fun x hx => (l x hx).mono e) (RpAll.mono e r)
  | _, _, .dP h l r => .dP (e _ _ h) (fun x hx => (l x hx).mono e) (RpAll.mono e r)
  | _, _, .scr h r => .scr (e _ _ h) (RpAll.mono e r)
  | _, _, .rng h => .rng (e _ _ h)
  | _, _, .dN h l r => .dN (e _ _ h) (fun x hx => Rp.mono e (l x hx)) (RpAll.mono e r)
theorem RpAll.mono {G G' : Hp} (e : Ex G G') : ∀ {v : List V} {d : List D}, RpAll G v d → RpAll G' v d
  | _, _, .nil => .nil
  | _, _, .cons h r => .cons (Rp.mono e h) (RpAll.mono e r)
end
mutual
theorem Rp.dp {K : PySem.W.Frag} {G H : Hp} (e : Ex G H) : ∀ {v : V} {d : D}, Rp G v d → PyData.canLay0 d = true → Dp K H v d
  | _, _, .non, _ => .non
  | _, _, .bl b, _ => .bl b
  | _, _, .int i, _ => .int i
  | _, _, .str x, _ => .str x
  | _, _, .lst h r, c => .lst (.of (e _ _ h)) (RpAll.dp e r (by simpa [PyData.canLay0] using c))
  | _, _, .tup h r, c => .tup (h.sq e) (RpAll.dp e r (by simpa [PyData.canLay0] using c))
  | _, _, .dK h l r, c => by simp [PyData.canLay0] at c
  | _, _, .dT h l r, c => by simp [PyData.canLay0] at c
  | _, _, .dP h l r, c => by simp [PyData.canLay0] at c
  | _, _, .scr h r, c => by simp [PyData.canLay0] at c
  | _, _, .rng h, c => by simp [PyData.canLay0] at c
  | _, _, .dN h l r, c => by simp [PyData.canLay0] at c
theorem RpAll.dp {K : PySem.W.Frag} {G H : Hp} (e : Ex G H) : ∀ {v : List V} {d : List D}, RpAll G v d → PyData.canLayAll0 d = true → DpAll K H v d
  | _, _, .nil, _ => .nil
  | _, d :: ds, .cons h r, c => by
    have c' : PyData.canLay0 d = true ∧ PyData.canLayAll0 ds = true := by simpa [PyData.canLayAll0] using c
    exact .cons (Rp.dp e h c'.1) (RpAll.dp e r c'.2)
end
theorem RpAll.length {G : Hp} : ∀ {v : List V} {d : List D}, RpAll G v d → v.length = d.length
  | _, _, .nil => rfl
  | _, _, .cons _ r => congrArg (· + 1) (RpAll.length r)
theorem RpAll.get {G : Hp} : ∀ {vs : List V} {ds : List D} {i : Nat} {d : D}, RpAll G vs ds → ds[i]? = some d → ∃ v, vs[i]? = some v ∧ Rp G v d
  | _, _, 0, _, .cons h _, e => ⟨_, rfl, by cases e; exact h⟩
  | _, _, i + 1, _, .cons _ r, e => RpAll.get (i := i) r e
theorem RpAll.append {G : Hp} : ∀ {vs ws : List V} {ds es : List D}, RpAll G vs ds → RpAll G ws es → RpAll G (vs ++ ws) (ds ++ es)
  | _, _, _, _, .nil, s => s
  | _, _, _, _, .cons h r, s => .cons h (RpAll.append r s)
theorem RpAll.take {G : Hp} : ∀ {vs : List V} {ds : List D} (n : Nat), RpAll G vs ds → RpAll G (vs.take n) (ds.take n)
  | _, _, 0, _ => .nil
  | _, _, _ + 1, .nil => .nil
  | _, _, n + 1, .cons h r => .cons h (RpAll.take n r)
theorem RpAll.drop {G : Hp} : ∀ {vs : List V} {ds : List D} (n : Nat), RpAll G vs ds → RpAll G (vs.drop n) (ds.drop n)
  | _, _, 0, r => r
  | _, _, _ + 1, .nil => .nil
  | _, _, n + 1, .cons _ r => RpAll.drop n r
theorem RpAll.set {G : Hp} {v : V} {d : D} (h : Rp G v d) : ∀ {vs : List V} {ds : List D} (i : Nat), RpAll G vs ds → RpAll G (vs.set i v) (ds.set i d)
  | _, _, _, .nil => .nil
  | _, _, 0, .cons _ r => .cons h r
  | _, _, i + 1, .cons q r => .cons q (RpAll.set h i r)
theorem RpAll.reverse {G : Hp} {vs : List V} {ds : List D} (h : RpAll G vs ds) : RpAll G vs.reverse ds.reverse := by
  have aux : ∀ {vs : List V} {ds : List D}, RpAll G vs ds → RpAll G vs.reverse ds.reverse := by
    intro vs
    induction vs with
    | nil => intro ds h; cases h; exact .nil
    | cons v vs ih => intro ds h; cases h with | cons a r => rw [List.reverse_cons, List.reverse_cons]; exact (ih r).append (.cons a .nil)
  exact aux h
theorem RpAll.of_get {G : Hp} : ∀ {vs : List V} {ds : List D}, vs.length = ds.length → (∀ (j : Nat) v d, vs[j]? = some v → ds[j]? = some d → Rp G v d) → RpAll G vs ds
  | [], [], _, _ => .nil
  | v :: vs, d :: ds, hl, h => .cons (h 0 v d rfl rfl) (RpAll.of_get (by simpa using hl) fun j a b ha hb => h (j + 1) a b ha hb)
  | [], _ :: _, hl, _ => by cases hl
  | _ :: _, [], hl, _ => by cases hl
theorem Rp.inv_list {G : Hp} {v : V} {ds : List D} (h : Rp G v (.list ds)) : ∃ a xs, v = .ref a ∧ G a = some (.lst xs) ∧ RpAll G xs ds := by
  cases h with | lst h r => exact ⟨_, _, rfl, h, r⟩
theorem Rp.inv_tup {G : Hp} {v : V} {ds : List D} (h : Rp G v (.tuple ds)) : ∃ a xs, v = .ref a ∧ TupS G a xs ∧ RpAll G xs ds := by
  cases h with | tup h r => exact ⟨_, _, rfl, h, r⟩
theorem Rp.inv_int {G : Hp} {v : V} {i : Int} (h : Rp G v (.int i)) : v = .int i := by cases h; rfl
theorem Rp.inv_bl {G : Hp} {v : V} {i : Bool} (h : Rp G v (.bool i)) : v = .bl i := by cases h; rfl
/-- data that stand in no heap -/
def flatD : D → Bool
  | .none => true
  | .bool _ => true
  | .int _ => true
  | .str _ => true
  | _ => false
theorem Rp.flat {G G' : Hp} {v : V} {d : D} (h : Rp G v d) (f : flatD d = true) : Rp G' v d := by
  cases h with
  | non => exact .non
  | bl b => exact .bl b
  | int i => exact .int i
  | str x => exact .str x
  | _ => cases f
theorem RpAll.flat {G G' : Hp} : ∀ {vs : List V} {ds : List D}, RpAll G vs ds → ds.all flatD = true → RpAll G' vs ds
  | _, _, .nil, _ => .nil
  | _, _, .cons h r, f => by
    rw [List.all_cons, Bool.and_eq_true] at f
    exact .cons (h.flat f.1) (RpAll.flat r f.2)
/-- nothing that stands changes; what is new may be known -/
structure Pu (G H G' H' : Hp) : Prop where
  g : Ex G G'
  h : Ex H H'
  s : Ex G' H'
  n : ∀ a, H a ≠ none → G a = none → G' a = none
theorem Pu.refl {G H : Hp} (e : Ex G H) : Pu G H G H := ⟨Ex.refl G, Ex.refl H, e, fun _ _ h => h⟩
theorem Ex.some' {H H' : Hp} (e : Ex H H') {a : Addr} (h : H a ≠ none) : H' a ≠ none := by
  cases q : H a with
  | none => exact absurd q h
  | some o => rw [e a o q]; exact fun z => nomatch z
theorem Pu.trans {G H G1 H1 G2 H2 : Hp} (a : Pu G H G1 H1) (b : Pu G1 H1 G2 H2) : Pu G H G2 H2 :=
  ⟨a.g.trans b.g, a.h.trans b.h, b.s, fun x h n => b.n x (Ex.some' a.h h) (a.n x h n)⟩
/-- a new object, known from now on -/
theorem Pu.new {G H : Hp} (e : Ex G H) {p : Addr} {o : HO} (hp : H p = none) : Pu G H (upd G p o) (upd H p o) := by
  refine ⟨Ex.new (fresh_back e hp), Ex.new hp, fun a u q => ?_, fun a h n => ?_⟩
  · by_cases ha : a = p
    · subst ha; rw [upd_same] at q ⊢; exact q
    · rw [upd_ne ha] at q ⊢; exact e a u q
  · by_cases ha : a = p
    · subst ha; exact absurd hp h
    · rw [upd_ne ha]; exact n
/-- a new object that is not known -/
theorem Pu.newH {G H : Hp} (e : Ex G H) {p : Addr} {o : HO} (hp : H p = none) : Pu G H G (upd H p o) :=
  ⟨Ex.refl G, Ex.new hp, e.trans (Ex.new hp), fun _ _ n => n⟩
theorem some_ne {H : Hp} {a : Addr} {o : HO} (h : H a = some o) : H a ≠ none := by rw [h]; exact fun z => nomatch z
inductive SV where
  /-- data that nobody changes -/
  | fz (d : D)
  /-- a list of one's own, so many levels deep (io: the one that was handed in at this place) -/
  | ow (io : Bool) (k : Nat) (d : D)
abbrev DEnv := List (Option SV)
abbrev Lab := Addr → Option (List Nat)
abbrev Bs := Nat → Addr
/-- a thing of one's own, k levels deep: each of its lists, dicts is labelled by its place -/
def OwnR (L : Lab) (G H : Hp) : Nat → List Nat → V → D → Prop
  | 0, _, v, d => Rp G v d
  | k + 1, p, v, .list ds => ∃ a vs, v = .ref a ∧ H a = some (.lst vs) ∧ L a = some p ∧ vs.length = ds.length ∧ ∀ (j : Nat) (v : V) (d : D), vs[j]? = some v → ds[j]? = some d → OwnR L G H k (p ++ [j]) v d
  | 1, p, v, .dict kvs => ∃ a, v = .ref a ∧ L a = some p ∧
      ∃ (rows : List XRow) (ds : List D), H a = some (xD a rows) ∧ (∀ r ∈ rows, TupS G r.2.1 (r.1.map V.int)) ∧ RpAll G (rows.map (·.2.2)) ds ∧ kvs = (rows.map fun r => PyData.tuple (r.1.map PyData.int)).zip ds
  | 2, p, v, .dict kvs => ∃ a, v = .ref a ∧ L a = some p ∧
      ∃ (rows : List NRow) (ds : List D), H a = some (nD a rows) ∧ (∀ r ∈ rows, Rp G (.ref r.2.1) r.1.data) ∧ RpAll G (rows.map (·.2.2)) ds ∧ kvs = [(.bool false, .dict ((rows.map fun r => r.1.data).zip ds))]
  | _ + 1, _, _, _ => False
def SRep (bs : Bs) (L : Lab) (G H : Hp) (i : Nat) (v : V) : SV → Prop
  | .fz d => Rp G v d
  | .ow io k d => OwnR L G H (k + 1) [i] v d ∧ (io = true → v = .ref (bs i))
/-- P: what may change; bs: the lists that were handed in to be changed -/
structure Rep (P : Addr → Prop) (bs : Bs) (G H : Hp) (σ : L2.St) (env : DEnv) : Prop where
  len : σ.length = env.length
  sub : Ex G H
  fresh : ∀ p, H p = none → P p
  rep : ∃ L : Lab, (∀ a p, L a = some p → P a ∧ G a = none) ∧ ∀ (i : Nat) (s : SV), env[i]? = some (some s) → ∃ v, σ[i]? = some (some v) ∧ SRep bs L G H i v s
structure Gr (P : Addr → Prop) (G H G' H' : Hp) : Prop where
  g : Ex G G'
  h : ∀ a o, H a = some o → ¬ P a → H' a = some o
  n : ∀ a, ¬ P a → G a = none → G' a = none
theorem Gr.refl {P : Addr → Prop} {G H : Hp} : Gr P G H G H := ⟨Ex.refl G, fun _ _ h _ => h, fun _ _ h => h⟩
theorem Gr.trans {P : Addr → Prop} {G H G1 H1 G2 H2 : Hp} (a : Gr P G H G1 H1) (b : Gr P G1 H1 G2 H2) : Gr P G H G2 H2 :=
  ⟨a.g.trans b.g, fun x o h n => b.h x o (a.h x o h n) n, fun x h n => b.n x h (a.n x h n)⟩
theorem Gr.wk {P P' : Addr → Prop} {G H G' H' : Hp} (a : Gr P G H G' H') (w : ∀ x, P x → P' x) : Gr P' G H G' H' :=
  ⟨a.g, fun x o h n => a.h x o h fun z => n (w x z), fun x h n => a.n x (fun z => h (w x z)) n⟩
/-- what is one's own stays where its lists stay -/
theorem OwnR.keep {L L' : Lab} {G G' H H' : Hp} (g : Ex G G') : ∀ (k : Nat) {p p' : List Nat} {v : V} {d : D}, (∀ a q, L a = some (p ++ q) → L' a = some (p' ++ q) ∧ ∀ o, H a = some o → H' a = some o) → OwnR L G H k p v d → OwnR L' G' H' k p' v d
  | 0, _, _, _, _, _, r => Rp.mono g r
  | 1, p, p', v, .dict kvs, hk, r => by
    obtain ⟨a, rfl, hl, r⟩ := r
    obtain ⟨h1, h2⟩ := hk a [] (by rw [List.append_nil]; exact hl)
    rw [List.append_nil] at h1
    refine ⟨a, rfl, h1, ?_⟩
    obtain ⟨rows, ds, e1, e2, e3, e4⟩ := r
    exact ⟨rows, ds, h2 _ e1, fun x hx => (e2 x hx).mono g, e3.mono g, e4⟩
  | 2, p, p', v, .dict kvs, hk, r => by
    obtain ⟨a, rfl, hl, r⟩ := r
    obtain ⟨h1, h2⟩ := hk a [] (by rw [List.append_nil]; exact hl)
    rw [List.append_nil] at h1
    refine ⟨a, rfl, h1, ?_⟩
    obtain ⟨rows, ds, e1, e2, e3, e4⟩ := r
    exact ⟨rows, ds, h2 _ e1, fun x hx => (e2 x hx).mono g, e3.mono g, e4⟩
  | k + 1, p, p', v, .list ds, hk, r => by
    unfold OwnR at r ⊢
    obtain ⟨a, vs, rfl, ha, hl, hn, r⟩ := r
    obtain ⟨h1, h2⟩ := hk a [] (by rw [List.append_nil]; exact hl)
    rw [List.append_nil] at h1
    refine ⟨a, vs, rfl, h2 _ ha, h1, hn, fun j w e hw he => OwnR.keep g k (fun b q hb => ?_) (r j w e hw he)⟩
    obtain ⟨k1, k2⟩ := hk b ([j] ++ q) (by rw [← List.append_assoc]; exact hb)
    exact ⟨by rw [List.append_assoc]; exact k1, k2⟩
  | k + 3, _, _, _, .dict _, _, r => False.elim (by unfold OwnR at r; exact r)
  | k + 1, _, _, _, .none, _, r => False.elim (by unfold OwnR at r; exact r)
  | k + 1, _, _, _, .bool _, _, r => False.elim (by unfold OwnR at r; exact r)
  | k + 1, _, _, _, .int _, _, r => False.elim (by unfold OwnR at r; exact r)
  | k + 1, _, _, _, .str _, _, r => False.elim (by unfold OwnR at r; exact r)
  | k + 1, _, _, _, .tuple _, _, r => False.elim (by unfold OwnR at r; exact r)
/-- seen by who changes nothing -/
theorem OwnR.rp {L : Lab} {G H : Hp} (g : Ex G H) : ∀ (k : Nat) {p : List Nat} {v : V} {d : D}, OwnR L G H k p v d → Rp H v d
  | 0, _, _, _, r => Rp.mono g r
  | 1, p, v, .dict kvs, r => by
    obtain ⟨a, rfl, hl, r⟩ := r
    obtain ⟨rows, ds, e1, e2, e3, rfl⟩ := r
    exact .dT e1 (fun x hx => (e2 x hx).mono g) (e3.mono g)
  | 2, p, v, .dict kvs, r => by
    obtain ⟨a, rfl, hl, r⟩ := r
    obtain ⟨rows, ds, e1, e2, e3, rfl⟩ := r
    exact .dN e1 (fun x hx => (e2 x hx).mono g) (e3.mono g)
  | k + 1, p, v, .list ds, r => by
    unfold OwnR at r
    obtain ⟨a, vs, rfl, ha, hl, hn, r⟩ := r
    exact .lst ha (RpAll.of_get hn fun j w e hw he => OwnR.rp g k (r j w e hw he))
  | k + 3, _, _, .dict _, r => False.elim (by unfold OwnR at r; exact r)
  | k + 1, _, _, .none, r => False.elim (by unfold OwnR at r; exact r)
  | k + 1, _, _, .bool _, r => False.elim (by unfold OwnR at r; exact r)
  | k + 1, _, _, .int _, r => False.elim (by unfold OwnR at r; exact r)
  | k + 1, _, _, .str _, r => False.elim (by unfold OwnR at r; exact r)
  | k + 1, _, _, .tuple _, r => False.elim (by unfold OwnR at r; exact r)
end Dn
namespace Dn
open PySem PySem.Spec PyProof.Rows L2
open Evl (Ex fresh_back)
open Classical
theorem get_set {α : Type} {l : List α} {i j : Nat} {x y : α} (h : (l.set i x)[j]? = some y) : (j = i ∧ x = y ∧ i < l.length) ∨ (j ≠ i ∧ l[j]? = some y) := by
  by_cases hj : j = i
  · subst hj
    have hl : j < l.length := by
      have := (List.getElem?_eq_some_iff.mp h).1
      simpa using this
    rw [List.getElem?_set_self hl] at h
    cases h
    exact .inl ⟨rfl, rfl, hl⟩
  · rw [List.getElem?_set_ne (Ne.symm hj)] at h
    exact .inr ⟨hj, h⟩
/-- a tree of one's own: its lists N, k levels deep -/
structure Tree (P : Addr → Prop) (G H : Hp) (N : Addr → Prop) (k : Nat) (v : V) (d : D) : Prop where
  n : ∀ a, N a → P a ∧ G a = none ∧ H a ≠ none
  r : ∃ L : Lab, (∀ a p, L a = some p → N a) ∧ OwnR L G H k [] v d
section
variable {P P' : Addr → Prop} {bs : Bs} {G H G' H' : Hp} {σ : L2.St} {env env' : DEnv} {N : Addr → Prop} {k : Nat}
theorem Rep.fz (r : Rep P bs G H σ env) (i : Nat) (d : D) (h : env[i]? = some (some (SV.fz d))) : ∃ v : V, σ[i]? = some (some v) ∧ Rp G v d := by
  obtain ⟨L, _, r⟩ := r.rep
  exact r i _ h
/-- .. of any depth -/
theorem Rep.own (r : Rep P bs G H σ env) {i : Nat} {io : Bool} {k : Nat} {d : D} (h : env[i]? = some (some (SV.ow io k d))) :
    ∃ v, σ[i]? = some (some v) ∧ Rp H v d ∧ (io = true → v = .ref (bs i)) := by
  obtain ⟨L, hL, r'⟩ := r.rep
  obtain ⟨v, hv, hr, hio⟩ := r' i _ h
  exact ⟨v, hv, hr.rp r.sub, hio⟩
theorem Pu.gr (p : Pu G H G' H') (f : ∀ p, H p = none → P p) : Gr P G H G' H' :=
  ⟨p.g, fun a o h _ => p.h a o h, fun a h n => p.n a (fun z => h (f a z)) n⟩
/-- what stands stays, what is one's own too -/
theorem Rep.keep (r : Rep P bs G H σ env) (g : Ex G G') (s : Ex G' H') (f : ∀ p, H' p = none → P' p) (hk : ∀ a, P a → G a = none → H a ≠ none → P' a ∧ G' a = none ∧ ∀ o, H a = some o → H' a = some o) : Rep P' bs G' H' σ env := by
  obtain ⟨L, hL, hr⟩ := r.rep
  refine ⟨r.len, s, f, fun a => if H a = none then none else L a, fun a p h => ?_, fun i sv h => ?_⟩
  · by_cases ha : H a = none
    · simp [ha] at h
    · simp [ha] at h
      obtain ⟨h1, h2⟩ := hL a p h
      obtain ⟨h3, h4, _⟩ := hk a h1 h2 ha
      exact ⟨h3, h4⟩
  · obtain ⟨v, hv, hs⟩ := hr i sv h
    refine ⟨v, hv, ?_⟩
    cases sv with
    | fz d => exact Rp.mono g hs
    | ow io k d =>
      refine ⟨?_, hs.2⟩
      have aux : ∀ (k : Nat) {p : List Nat} {v : V} {d : D}, OwnR L G H k p v d → OwnR (fun a => if H a = none then none else L a) G H k p v d := by
        intro k
        induction k with
        | zero => intro p v d h; exact h
        | succ k ih =>
          intro p v d h
          cases d with
          | list ds =>
            unfold OwnR at h ⊢
            obtain ⟨a, vs, rfl, ha, hl, hn, h⟩ := h
            exact ⟨a, vs, rfl, ha, by simp [ha, hl], hn, fun j w e hw he => ih (h j w e hw he)⟩
          | dict kvs =>
            cases k with
            | zero =>
              obtain ⟨a, rfl, hl, h⟩ := h
              refine ⟨a, rfl, ?_, h⟩
              have : H a ≠ none := by
                obtain ⟨_, _, e, _⟩ := h
                exact some_ne e
              simp [this, hl]
            | succ k => cases k with
              | zero =>
                obtain ⟨a, rfl, hl, h⟩ := h
                refine ⟨a, rfl, ?_, h⟩
                have : H a ≠ none := by
                  obtain ⟨_, _, e, _⟩ := h
                  exact some_ne e
                simp [this, hl]
              | succ k => unfold OwnR at h; exact h.elim
          | _ => unfold OwnR at h; exact h.elim
      refine (aux _ hs.1).keep g _ fun a q hq => ?_
      have ha : H a ≠ none := by
        intro z
        simp [z] at hq
      simp [ha] at hq
      obtain ⟨h1, h2⟩ := hL a _ hq
      exact ⟨by simp [ha, hq], (hk a h1 h2 ha).2.2⟩
theorem Rep.pu (r : Rep P bs G H σ env) (p : Pu G H G' H') : Rep P bs G' H' σ env :=
  r.keep p.g p.s (fun a h => r.fresh a (fresh_back p.h h)) fun a h1 h2 h3 => ⟨h1, p.n a h3 h2, fun o e => p.h a o e⟩
theorem Rep.wkP (r : Rep P bs G H σ env) (w : ∀ a, P a → P' a) : Rep P' bs G H σ env :=
  r.keep (Ex.refl G) r.sub (fun p h => w p (r.fresh p h)) fun a h1 h2 _ => ⟨w a h1, h2, fun _ e => e⟩
/-- an object that no name speaks of changes -/
theorem Rep.updH (r : Rep P bs G H σ env) {p : Addr} {o : HO} (hp : ¬ P p) (hg : G p = none) : Rep P bs G (upd H p o) σ env := by
  refine r.keep (Ex.refl G) (r.sub.mut hg) (fun a h => ?_) fun a h1 h2 _ => ⟨h1, h2, fun u e => ?_⟩
  · by_cases ha : a = p
    · subst ha
      rw [upd_same] at h
      cases h
    · rw [upd_ne ha] at h
      exact r.fresh a h
  · rw [upd_ne (show a ≠ p from fun z => hp (z ▸ h1))]
    exact e
/-- a new object that no name speaks of -/
theorem Rep.newH (r : Rep P bs G H σ env) {p : Addr} {o : HO} (hp : H p = none) : Rep (fun a => P a ∧ a ≠ p) bs G (upd H p o) σ env := by
  refine r.keep (Ex.refl G) (r.sub.trans (Ex.new hp)) (fun a h => ?_) fun a h1 h2 h3 => ⟨⟨h1, fun z => h3 (z ▸ hp)⟩, h2, fun u e => Ex.new hp _ _ e⟩
  by_cases ha : a = p
  · subst ha
    rw [upd_same] at h
    cases h
  · rw [upd_ne ha] at h
    exact ⟨r.fresh a h, ha⟩
/-- a name holds data -/
theorem Rep.set (r : Rep P bs G H σ env) {i : Nat} {v : V} {d : D} (h : Rp G v d) : Rep P bs G H (σ.set i (some v)) (env.set i (some (.fz d))) := by
  obtain ⟨L, hL, hr⟩ := r.rep
  refine ⟨by simpa using r.len, r.sub, r.fresh, L, hL, fun j s hj => ?_⟩
  rcases get_set hj with ⟨rfl, e, hl⟩ | ⟨hne, hj⟩
  · cases e
    exact ⟨v, List.getElem?_set_self (by rw [r.len]; exact hl), h⟩
  · rw [List.getElem?_set_ne (Ne.symm hne)]
    exact hr j s hj
/-- a tree of one's own gets a name -/
theorem Rep.ownNew {v : V} {d : D} (r : Rep (fun a => P a ∧ ¬ N a) bs G H σ env) (t : Tree P G H N (k + 1) v d) (i : Nat) : Rep P bs G H (σ.set i (some v)) (env.set i (some (.ow false k d))) := by
  obtain ⟨L, hL, hr⟩ := r.rep
  obtain ⟨Lt, hLt, ht⟩ := t.r
  refine ⟨by simpa using r.len, r.sub, fun p h => (r.fresh p h).1, fun a => if N a then (Lt a).map (i :: ·) else (match L a with | some (j :: q) => if j = i then none else some (j :: q) | _ => none), fun a p h => ?_, fun j s hj => ?_⟩
  · by_cases ha : N a
    · obtain ⟨h1, h2, _⟩ := t.n a ha
      exact ⟨h1, h2⟩
    · simp only [ha, if_false] at h
      cases w : L a with
      | none => rw [w] at h; cases h
      | some q =>
        obtain ⟨h1, h2⟩ := hL a q w
        exact ⟨h1.1, h2⟩
  · rcases get_set hj with ⟨rfl, e, hl⟩ | ⟨hne, hj⟩
    · cases e
      refine ⟨v, List.getElem?_set_self (by rw [r.len]; exact hl), ht.keep (Ex.refl G) _ fun a q hq => ?_, fun z => by cases z⟩
      have ha := hLt a _ hq
      rw [List.nil_append] at hq
      exact ⟨by simp [ha, hq], fun _ e => e⟩
    · rw [List.getElem?_set_ne (Ne.symm hne)]
      obtain ⟨w, hw, hs⟩ := hr j s hj
      refine ⟨w, hw, ?_⟩
      cases s with
      | fz d => exact hs
      | ow io k' d =>
        refine ⟨hs.1.keep (Ex.refl G) _ fun a q hq => ?_, hs.2⟩
        have hn : ¬ N a := (hL a _ hq).1.2
        refine ⟨?_, fun _ e => e⟩
        simp only [hn, if_false]
        rw [hq]
        simp [hne]
/-- a tree that no name speaks of is known from now on -/
theorem Rep.know {v : V} {d : D} (r : Rep (fun a => P a ∧ ¬ N a) bs G H σ env) (t : Tree P G H N k v d) : ∃ G', Ex G G' ∧ Ex G' H ∧ (∀ a, ¬ P a → G a = none → G' a = none) ∧ Rp G' v d ∧ Rep P bs G' H σ env := by
  have hg : Ex G (fun a => if N a then H a else G a) := fun a o e => by
    have : ¬ N a := fun z => by rw [(t.n a z).2.1] at e; cases e
    simp [this, e]
  have hs : Ex (fun a => if N a then H a else G a) H := fun a o e => by
    by_cases ha : N a
    · simpa [ha] using e
    · simp only [ha, if_false] at e
      exact r.sub a o e
  refine ⟨fun a => if N a then H a else G a, hg, hs, fun a ha hn => ?_, ?_, ?_⟩
  · have : ¬ N a := fun z => ha (t.n a z).1
    simp [this, hn]
  · obtain ⟨Lt, hLt, ht⟩ := t.r
    have aux : ∀ (k : Nat) {p : List Nat} {v : V} {d : D}, OwnR Lt G H k p v d → Rp (fun a => if N a then H a else G a) v d := by
      intro k
      induction k with
      | zero => intro p v d h; exact Rp.mono hg h
      | succ k ih =>
        intro p v d h
        cases d with
        | list ds =>
          unfold OwnR at h
          obtain ⟨a, vs, rfl, ha, hl, hn, h⟩ := h
          exact .lst (by simp [hLt a _ hl, ha]) (RpAll.of_get hn fun j w e hw he => ih (h j w e hw he))
        | dict kvs =>
          cases k with
          | zero =>
            obtain ⟨a, rfl, hl, h⟩ := h
            obtain ⟨rows, ds, e1, e2, e3, rfl⟩ := h
            exact .dT (by simp [hLt a _ hl, e1]) (fun x hx => (e2 x hx).mono hg) (e3.mono hg)
          | succ k => cases k with
            | zero =>
              obtain ⟨a, rfl, hl, h⟩ := h
              obtain ⟨rows, ds, e1, e2, e3, rfl⟩ := h
              exact .dN (by simp [hLt a _ hl, e1]) (fun x hx => (e2 x hx).mono hg) (e3.mono hg)
            | succ k => unfold OwnR at h; exact h.elim
        | _ => unfold OwnR at h; exact h.elim
    exact aux k ht
  · refine r.keep hg hs (fun p h => (r.fresh p h).1) fun a h1 h2 h3 => ⟨h1.1, ?_, fun _ e => e⟩
    simp [h1.2, h2]
/-- what is one's own is left alone by who changes nothing of it -/
theorem Tree.keep {v : V} {d : D} (t : Tree P G H N k v d) (g : Gr (fun a => P a ∧ ¬ N a) G H G' H') : Tree P G' H' N k v d := by
  obtain ⟨Lt, hLt, ht⟩ := t.r
  have stay : ∀ a, N a → ∀ o, H a = some o → H' a = some o := fun a ha o e => g.h a o e fun z => z.2 ha
  refine ⟨fun a ha => ?_, Lt, hLt, ht.keep g.g _ fun a q hq => ⟨hq, stay a (hLt a _ hq)⟩⟩
  obtain ⟨h1, h2, h3⟩ := t.n a ha
  refine ⟨h1, g.n a (fun z => z.2 ha) h2, ?_⟩
  cases w : H a with
  | none => exact absurd w h3
  | some o => rw [stay a ha o w]; exact fun z => nomatch z
theorem Tree.wk {v : V} {d : D} (t : Tree P G H N k v d) (w : ∀ a, P a → P' a) : Tree P' G H N k v d := ⟨fun a ha => ⟨w a (t.n a ha).1, (t.n a ha).2⟩, t.r⟩
/-- a new list of data -/
theorem Tree.one {p : Addr} {vs : List V} {ds : List D} (hP : P p) (hg : G p = none) (hh : H p = some (.lst vs)) (ra : RpAll G vs ds) : Tree P G H (fun a => a = p) 1 (.ref p) (.list ds) := by
  refine ⟨fun a e => by subst e; exact ⟨hP, hg, some_ne hh⟩, fun a => if a = p then some [] else none, fun a q h => ?_, ?_⟩
  · by_cases ha : a = p
    · exact ha
    · simp [ha] at h
  · unfold OwnR
    refine ⟨p, vs, rfl, hh, by simp, ra.length, fun j w e hw he => ?_⟩
    unfold OwnR
    obtain ⟨w', h1, h2⟩ := ra.get he
    rw [hw] at h1
    cases h1
    exact h2
end
end Dn
namespace Dn
open PySem PySem.Spec PyProof.Rows L2
open Evl (Ex fresh_back)
open Classical
section
variable {P P' : Addr → Prop} {bs : Bs} {G H G' H' : Hp} {σ : L2.St} {env env' : DEnv} {N N' : Addr → Prop} {k : Nat}
/-- one's own is taken out of the names -/
theorem Rep.take (r : Rep P bs G H σ env) {i : Nat} {io : Bool} {d : D} (hi : env[i]? = some (some (SV.ow io k d))) :
    ∃ (N : Addr → Prop) (v : V), σ[i]? = some (some v) ∧ Tree P G H N (k + 1) v d ∧ Rep (fun a => P a ∧ ¬ N a) bs G H σ (env.set i none) ∧ (io = true → v = .ref (bs i)) := by
  obtain ⟨L, hL, hr⟩ := r.rep
  obtain ⟨v, hv, hs, hio⟩ := hr i _ hi
  refine ⟨fun a => H a ≠ none ∧ ∃ q, L a = some (i :: q), v, hv, ⟨fun a ⟨h, q, hq⟩ => ⟨(hL a _ hq).1, (hL a _ hq).2, h⟩, fun a => if H a = none then none else (match L a with | some (j :: q) => if j = i then some q else none | _ => none), fun a p h => ?_, ?_⟩, ?_, hio⟩
  · by_cases ha : H a = none
    · simp [ha] at h
    · simp only [ha, if_false] at h
      refine ⟨ha, ?_⟩
      split at h
      · rename_i j q w
        split at h
        · rename_i e
          exact ⟨q, by rw [w, e]⟩
        · cases h
      · cases h
  · have aux : ∀ (k : Nat) {p : List Nat} {v : V} {d : D}, OwnR L G H k (i :: p) v d → OwnR (fun a => if H a = none then none else (match L a with | some (j :: q) => if j = i then some q else none | _ => none)) G H k p v d := by
      intro k
      induction k with
      | zero => intro p v d h; exact h
      | succ k ih =>
        intro p v d h
        cases d with
        | list ds =>
          unfold OwnR at h ⊢
          obtain ⟨a, vs, rfl, ha, hl, hn, h⟩ := h
          exact ⟨a, vs, rfl, ha, by simp [ha, hl], hn, fun j w e hw he => ih (h j w e hw he)⟩
        | dict kvs =>
          cases k with
          | zero =>
            obtain ⟨a, rfl, hl, h⟩ := h
            refine ⟨a, rfl, ?_, h⟩
            have : H a ≠ none := by
              obtain ⟨_, _, e, _⟩ := h
              exact some_ne e
            simp [this, hl]
          | succ k => cases k with
            | zero =>
              obtain ⟨a, rfl, hl, h⟩ := h
              refine ⟨a, rfl, ?_, h⟩
              have : H a ≠ none := by
                obtain ⟨_, _, e, _⟩ := h
                exact some_ne e
              simp [this, hl]
            | succ k => unfold OwnR at h; exact h.elim
        | _ => unfold OwnR at h; exact h.elim
    exact aux (k + 1) hs
  · refine ⟨by simpa using r.len, r.sub, fun p h => ⟨r.fresh p h, fun z => z.1 h⟩, fun a => (match L a with | some (j :: q) => if j = i then none else some (j :: q) | _ => none), fun a p h => ?_, fun j s hj => ?_⟩
    · simp only [] at h
      split at h
      · rename_i j q w
        split at h
        · cases h
        · rename_i e
          refine ⟨⟨(hL a _ w).1, fun z => ?_⟩, (hL a _ w).2⟩
          obtain ⟨_, q', hq'⟩ := z
          rw [w] at hq'
          cases hq'
          exact e rfl
      · cases h
    · rcases get_set hj with ⟨_, e, _⟩ | ⟨hne, hj⟩
      · cases e
      · obtain ⟨w, hw, hs'⟩ := hr j s hj
        refine ⟨w, hw, ?_⟩
        cases s with
        | fz d => exact hs'
        | ow io' k' d' => exact ⟨hs'.1.keep (Ex.refl G) _ fun a q hq => ⟨by rw [hq]; simp [hne], fun _ e => e⟩, hs'.2⟩
/-- .. and put back, at the name that holds it -/
theorem Rep.put {v : V} {d : D} (r : Rep (fun a => P a ∧ ¬ N a) bs G H σ env) (t : Tree P G H N (k + 1) v d) {i : Nat} {io : Bool} (hv : σ[i]? = some (some v)) (hio : io = true → v = .ref (bs i)) : Rep P bs G H σ (env.set i (some (.ow io k d))) := by
  obtain ⟨L, hL, hr⟩ := r.rep
  obtain ⟨Lt, hLt, ht⟩ := t.r
  refine ⟨by simpa using r.len, r.sub, fun p h => (r.fresh p h).1, fun a => if N a then (Lt a).map (i :: ·) else (match L a with | some (j :: q) => if j = i then none else some (j :: q) | _ => none), fun a p h => ?_, fun j s hj => ?_⟩
  · by_cases ha : N a
    · obtain ⟨h1, h2, _⟩ := t.n a ha
      exact ⟨h1, h2⟩
    · simp only [ha, if_false] at h
      cases w : L a with
      | none => rw [w] at h; cases h
      | some q =>
        obtain ⟨h1, h2⟩ := hL a q w
        exact ⟨h1.1, h2⟩
  · rcases get_set hj with ⟨rfl, e, hl⟩ | ⟨hne, hj⟩
    · cases e
      refine ⟨v, hv, ht.keep (Ex.refl G) _ fun a q hq => ?_, hio⟩
      have ha := hLt a _ hq
      rw [List.nil_append] at hq
      exact ⟨by simp [ha, hq], fun _ e => e⟩
    · obtain ⟨w, hw, hs⟩ := hr j s hj
      refine ⟨w, hw, ?_⟩
      cases s with
      | fz d => exact hs
      | ow io k' d =>
        refine ⟨hs.1.keep (Ex.refl G) _ fun a q hq => ?_, hs.2⟩
        have hn : ¬ N a := (hL a _ hq).1.2
        refine ⟨?_, fun _ e => e⟩
        simp only [hn, if_false]
        rw [hq]
        simp [hne]
theorem set_set_env {e : DEnv} {i : Nat} {x y : Option SV} : (e.set i x).set i y = e.set i y := by simp
/-- one's own is known from now on -/
theorem Rep.ownKnow (r : Rep P bs G H σ env) {i : Nat} {io : Bool} {d : D} (hi : env[i]? = some (some (SV.ow io k d))) :
    ∃ G', Ex G G' ∧ Ex G' H ∧ (∀ a, ¬ P a → G a = none → G' a = none) ∧ Rep P bs G' H σ (env.set i (some (.fz d))) := by
  obtain ⟨N, v, hv, t, r', _⟩ := r.take hi
  obtain ⟨G', g, s, n, rv, r2⟩ := r'.know t
  refine ⟨G', g, s, n, ?_⟩
  have := r2.set (i := i) rv
  rw [set_set_env] at this
  have e : σ.set i (some v) = σ := by
    refine List.ext_getElem? fun j => ?_
    by_cases hj : i = j
    · subst hj
      have hl : i < σ.length := (List.getElem?_eq_some_iff.mp hv).1
      rw [List.getElem?_set_self hl, hv]
    · rw [List.getElem?_set_ne hj]
  rwa [e] at this
/-- seen by who changes nothing: all of the heap is known -/
def lendSV : SV → SV
  | .fz d => .fz d
  | .ow _ _ d => .fz d
def lendE (env : DEnv) : DEnv := env.map (·.map lendSV)
theorem Rep.lend (r : Rep P bs G H σ env) : Rep (fun a => H a = none) bs H H σ (lendE env) := by
  obtain ⟨L, hL, hr⟩ := r.rep
  refine ⟨by unfold lendE; simpa using r.len, Ex.refl H, fun p h => h, fun _ => none, (fun a p h => by cases h), fun i s h => ?_⟩
  unfold lendE at h
  rw [List.getElem?_map] at h
  cases w : env[i]? with
  | none => rw [w] at h; cases h
  | some o =>
    rw [w] at h
    cases o with
    | none => cases h
    | some s' =>
      cases h
      obtain ⟨v, hv, hs⟩ := hr i s' w
      refine ⟨v, hv, ?_⟩
      cases s' with
      | fz d => exact Rp.mono r.sub hs
      | ow io k d => exact OwnR.rp r.sub _ hs.1
theorem Tree.list1 {v : V} {d : D} (t : Tree P G H N 1 v d) {ds : List D} (hd : d = .list ds) : ∃ a vs, v = .ref a ∧ N a ∧ P a ∧ G a = none ∧ H a = some (.lst vs) ∧ RpAll G vs ds := by
  subst hd
  obtain ⟨L, hL, h⟩ := t.r
  unfold OwnR at h
  obtain ⟨a, vs, rfl, ha, hl, hn, h⟩ := h
  have hN := hL a _ hl
  exact ⟨a, vs, rfl, hN, (t.n a hN).1, (t.n a hN).2.1, ha, RpAll.of_get hn fun j w e hw he => by have := h j w e hw he; unfold OwnR at this; exact this⟩
/-- the list of a tree of one level changes -/
theorem Tree.set1 {a : Addr} {ds : List D} (t : Tree P G H N 1 (.ref a) (.list ds)) {vs : List V} {es : List D} (rv : RpAll G vs es) : Tree P G (upd H a (.lst vs)) N 1 (.ref a) (.list es) := by
  obtain ⟨L, hL, h⟩ := t.r
  unfold OwnR at h
  obtain ⟨a', vs', e, ha, hl, hn, h⟩ := h
  cases e
  refine ⟨fun b hb => ?_, L, hL, ?_⟩
  · obtain ⟨h1, h2, h3⟩ := t.n b hb
    refine ⟨h1, h2, ?_⟩
    by_cases hba : b = a
    · subst hba; rw [upd_same]; exact fun z => nomatch z
    · rw [upd_ne hba]; exact h3
  · unfold OwnR
    refine ⟨a, vs, rfl, upd_same, hl, rv.length, fun j w e hw he => ?_⟩
    unfold OwnR
    obtain ⟨w', h1, h2⟩ := rv.get he
    rw [hw] at h1
    cases h1
    exact h2
/-- the lists of a tree of two levels -/
theorem Tree.list2 {v : V} {d : D} (t : Tree P G H N 2 v d) {ds : List D} (hd : d = .list ds) : ∃ a vs, v = .ref a ∧ N a ∧ P a ∧ G a = none ∧ H a = some (.lst vs) ∧ vs.length = ds.length ∧
    ∀ (j : Nat) (w : V) (es : List D), vs[j]? = some w → ds[j]? = some (.list es) → ∃ b ws, w = .ref b ∧ N b ∧ P b ∧ b ≠ a ∧ G b = none ∧ H b = some (.lst ws) ∧ RpAll G ws es := by
  subst hd
  obtain ⟨L, hL, h⟩ := t.r
  unfold OwnR at h
  obtain ⟨a, vs, rfl, ha, hl, hn, h⟩ := h
  have hN := hL a _ hl
  refine ⟨a, vs, rfl, hN, (t.n a hN).1, (t.n a hN).2.1, ha, hn, fun j w es hw he => ?_⟩
  have := h j w _ hw he
  unfold OwnR at this
  obtain ⟨b, ws, rfl, hb, hbl, hbn, hbr⟩ := this
  have hNb := hL b _ hbl
  refine ⟨b, ws, rfl, hNb, (t.n b hNb).1, fun z => ?_, (t.n b hNb).2.1, hb, RpAll.of_get hbn fun i w e hw he => by have := hbr i w e hw he; unfold OwnR at this; exact this⟩
  subst z
  rw [hl] at hbl
  simp at hbl
/-- a list of lists of one's own, all new -/
theorem Tree.nil2 {a : Addr} (hP : P a) (hg : G a = none) (hh : H a = some (.lst [])) : Tree P G H (fun c => c = a) 2 (.ref a) (.list []) := by
  refine ⟨fun c e => by subst e; exact ⟨hP, hg, some_ne hh⟩, fun c => if c = a then some [] else none, fun c q h => ?_, ?_⟩
  · by_cases hc : c = a
    · exact hc
    · simp [hc] at h
  · unfold OwnR
    exact ⟨a, [], rfl, hh, by simp, rfl, fun j w e hw he => by simp at hw⟩
theorem Tree.app2 {a : Addr} {w : V} {vs : List V} {ds : List D} {d' : D} (t : Tree P G H N 2 (.ref a) (.list ds)) (t' : Tree P G H N' 1 w d') (dis : ∀ c, N c → ¬ N' c) (ha : H a = some (.lst vs)) :
    Tree P G (upd H a (.lst (vs ++ [w]))) (fun c => N c ∨ N' c) 2 (.ref a) (.list (ds ++ [d'])) := by
  obtain ⟨L, hL, h⟩ := t.r
  obtain ⟨L', hL', h'⟩ := t'.r
  unfold OwnR at h
  obtain ⟨a', vs', e, ha', hl, hn, h⟩ := h
  cases e
  rw [ha] at ha'
  cases ha'
  have hNa := hL a _ hl
  refine ⟨fun c hc => ?_, fun c => if N' c then (L' c).map ([ds.length] ++ ·) else L c, fun c p hc => ?_, ?_⟩
  · have h3 : P c ∧ G c = none ∧ H c ≠ none := hc.elim (t.n c) (t'.n c)
    refine ⟨h3.1, h3.2.1, ?_⟩
    by_cases hca : c = a
    · subst hca; rw [upd_same]; exact fun z => nomatch z
    · rw [upd_ne hca]; exact h3.2.2
  · by_cases hc' : N' c
    · exact .inr hc'
    · simp only [hc', if_false] at hc
      exact .inl (hL c _ hc)
  · unfold OwnR
    refine ⟨a, vs ++ [w], rfl, upd_same, ?_, by simp [hn], fun i x e hx he => ?_⟩
    · have := dis a hNa
      simp [this, hl]
    · by_cases hi : i < ds.length
      · rw [List.getElem?_append_left (by omega)] at hx
        rw [List.getElem?_append_left hi] at he
        refine (h i x e hx he).keep (Ex.refl G) _ fun c q hc => ?_
        have hNc := hL c _ hc
        have hc' : ¬ N' c := dis c hNc
        refine ⟨?_, fun o ho => ?_⟩
        · simp only [hc', if_false]
          exact hc
        · rw [upd_ne]
          · exact ho
          · intro z
            subst z
            rw [hl] at hc
            simp at hc
      · have hi' : i = ds.length := by
          have := (List.getElem?_eq_some_iff.mp he).1
          simp at this
          omega
        subst hi'
        rw [List.getElem?_append_right (by omega)] at hx he
        rw [hn] at hx
        simp at hx he
        subst hx he
        refine h'.keep (Ex.refl G) _ fun c q hc => ?_
        have hc' := hL' c _ hc
        rw [List.nil_append] at hc ⊢
        refine ⟨by simp [hc', hc], fun o ho => ?_⟩
        rw [upd_ne (show c ≠ a from fun z => dis a hNa (by rw [← z]; exact hc'))]
        exact ho
end
end Dn
namespace Dn
open PySem PySem.Spec PyProof.Rows L2
open Evl (Ex fresh_back)
/-- for a new tuple without a dict -/
def NewT (Q : VK) (H : Hp) (xs : List V) : Prop := ∀ (p : Addr) (o : Obj), H p = none → o.dict = none → Q (.ref p) (upd H p (.frz o (.tup xs)))
section
variable {X : Cx} {pins : List (Addr × Obj)} {σ : L2.St} {H : Hp} {s : Shared} {Q : VK}
/-- a tuple just laid, tracked with its object -/
theorem fin_tupS {xs : List V} {us : List Value} (I : Inv X pins σ H s) (r : Vals xs us) (z : xs.length ≤ sizeLine) (q : NewT Q H xs) :
    EP X pins σ Q (.ref s.heap.objs.size) { s with heap := s.heap.push { cls := .type "tuple", data := .seq us.toArray } } := by
  have hn := I.hok.fresh (Nat.le_refl s.heap.objs.size)
  have hg : (s.heap.push { cls := .type "tuple", data := .seq us.toArray }).get? s.heap.objs.size = some { cls := .type "tuple", data := .seq us.toArray } := Heap.get?_push_size _ rfl
  exact ⟨V.ref s.heap.objs.size, _, I.laid (o := .frz { cls := .type "tuple", data := .seq us.toArray } (.tup xs)) (t' := s.toks) (fun _ _ k => Heap.get?_push_of_some _ k) (Nat.le_refl _) ⟨hg, z, us, r, ⟨_, hg, rfl, _, rfl⟩⟩, rfl, q _ _ hn rfl⟩
end
section
variable {X : Cx} {es : List Expr} {t : TA} {pos : Pos}
theorem pe_tupS {k : Nat} (h : PA X es t) : PE X (.Tuple es k pos) (fun σ H Q => t σ H fun xs H1 => xs.length ≤ sizeLine ∧ NewT Q H1 xs) :=
  ⟨fun pins s σ H Q I hq => wpAny_Tuple_spliced (thn (h.run pos pins s σ H _ I hq) fun us s1 ⟨xs, H1, I1, r, z, q⟩ => ⟨by rw [← r.length]; exact z, fin_tupS I1 r z q⟩)⟩
def rCatS (K : PySem.W.Frag) : R2 := fun x y H Q => ∃ (a b : Addr) (xs ys : List V), x = .ref a ∧ y = .ref b ∧ SqT K H a xs ∧ SqT K H b ys ∧ xs.length + ys.length ≤ sizeLine ∧
  (xs = [] → Q (.ref b) H) ∧ (xs ≠ [] → ys = [] → Q (.ref a) H) ∧ (xs ≠ [] → ys ≠ [] → NewT Q H (xs ++ ys))
theorem op_catS : OpR X (binaryOp .Add) (rCatS X.K) := by
  intro pins s σ H x y v u Q I rx ry h
  obtain ⟨a, b, xs, ys, rfl, rfl, ha, hb, hz, q0, q1, q2⟩ := h
  by_cases hx : xs = []
  · exact op_catA pins s σ H _ _ v u Q I rx ry ⟨a, b, xs, ys, rfl, rfl, ha, hb, hz, q0, q1, fun z => absurd hx z⟩
  · by_cases hy : ys = []
    · exact op_catA pins s σ H _ _ v u Q I rx ry ⟨a, b, xs, ys, rfl, rfl, ha, hb, hz, q0, q1, fun _ z => absurd hy z⟩
    · cases rx
      cases ry
      obtain ⟨us, r1, p1, _⟩ := I.tuple ha
      obtain ⟨ws, r2, p2, _⟩ := I.tuple hb
      exact HT.cat_tup p1 p2 (fun z => hx (r1.nil_iff.mp z)) (fun z => absurd (r2.nil_iff.mp z) hy) (fun _ => fin_tupS I (r1.append r2) (by rw [List.length_append]; exact hz) (q2 hx hy)) (by
        rw [← r1.length, ← r2.length]
        exact hz)
def rSlS (K : PySem.W.Frag) : V → Option Int → Option Int → Hp → VK → Prop := fun x lo hi H Q => ∃ (a : Addr) (xs : List V), x = .ref a ∧ SqT K H a xs ∧
  (HT.sIx xs.length 0 lo = 0 ∧ HT.sIx xs.length xs.length hi = xs.length → Q (.ref a) H) ∧ (¬ (HT.sIx xs.length 0 lo = 0 ∧ HT.sIx xs.length xs.length hi = xs.length) → NewT Q H (cutV xs lo hi))
theorem sl_tupS : SlR X (rSlS X.K) := by
  intro pins s σ H x v vl vu lo hi sl Q I rx hs pl pu h
  obtain ⟨a, xs, rfl, hx, q1, q2⟩ := h
  by_cases hw : HT.sIx xs.length 0 lo = 0 ∧ HT.sIx xs.length xs.length hi = xs.length
  · exact sl_tupA pins s σ H _ v vl vu lo hi sl Q I rx hs pl pu ⟨a, xs, rfl, hx, q1, fun z => absurd hw z⟩
  · cases rx
    obtain ⟨us, r, ht, hz⟩ := I.tuple hx
    have e : us.toArray.size = xs.length := by rw [List.size_toArray, r.length]
    refine ⟨"tuple", _, PyProof.Rows.slot_tuple_getitem.lookup, ht.typeIs, HT.getItem_tuple_cut ht hs pl pu (by rw [e]; exact hw) ?_ (by rw [e]; exact hz)⟩
    rw [e]
    exact fin_tupS I ((r.drop _).take _) (Nat.le_trans (cutV_length xs lo hi) hz) (q2 hw)
theorem call_tupleS : CallR X (.type "tuple") (fun xs H Q => ∃ (p : Addr) (ys : List V), xs = [.ref p] ∧ ((SqL X.K H p ys ∧ NewT Q H ys) ∨ (SqT X.K H p ys ∧ Q (.ref p) H))) := by
  intro pins s σ H xs us Q I r h
  obtain ⟨p, ys, rfl, h⟩ := h
  rcases h with ⟨hq, q⟩ | ⟨hq, q⟩
  · obtain ⟨u, rfl, rx⟩ := vals1 r
    cases rx
    obtain ⟨its, r', pl, hz⟩ := I.list hq
    refine call_tuple_list pl.isList (fun h' kp => ?_) (by
      rw [List.size_toArray, ← r'.length]
      exact hz)
    exact fin_tupS (s := { s with heap := h' }) (I.kept (t' := s.toks) kp) r' hz q
  · exact call_tuple_of pins s σ H _ us Q I r ⟨p, ys, rfl, .inr ⟨hq, q⟩⟩
theorem pe_tupRgS {e : Expr} {te : L2.St → Hp → (Int → Int → Hp → Prop) → Prop} {p : Pos} (hc : X.calm = true) (hg : Gl X "tuple") (hm : X.mg "tuple" = none) (he : PRg X e te) (na : starEach [e] X.env = (false, eval e X.env) :: starEach [] X.env := by rfl) :
    PE X (.Call (.Name "tuple" p) [e] [] pos) (fun σ H Q => te σ H fun a b H1 => RgOk a b ∧ NewT Q H1 (rgV a b)) := by
  refine ⟨fun pins s σ H Q I h => Call_ (ld_blt I hg hm boot_tuple (PyProof.Rows.callWith_type1 (args_cons (thn (he pins s σ H _ I h) fun x s1 hx => args_nil ?_) na) na))⟩
  obtain ⟨r, a, b, t, u, v, H1, rfl, hr, I1, ok, q⟩ := hx
  have ok' := ok
  obtain ⟨b1, b2, b3, b4, b5⟩ := ok'
  refine call_tuple_range (n := (b - a).toNat) (I1.ok.hd hc) hr (small_one b1 b2 b3 b4) (rangeSize_nat a b) b5 fun h' tk acc hk hi => ?_
  have := fin_tupS (s := { s1 with heap := h', toks := tk }) (us := acc.toList) (I1.kept hk) (vals_rg hi) (by rw [rgV_length, sizeLine_eq]; omega) q
  rwa [Array.toArray_toList] at this
end
end Dn
namespace Dn
open PySem PySem.Spec PyProof.Rows L2
open Evl (Ex fresh_back)
abbrev Mo (α : Type) := DEnv → Option (α × DEnv)
def mRet {α : Type} (a : α) : Mo α := fun env => some (a, env)
def mBind {α β : Type} (m : Mo α) (f : α → Mo β) : Mo β := fun env =>
  match m env with
  | some (a, e1) => f a e1
  | none => none
def mLift {α : Type} (o : Option α) : Mo α := fun env =>
  match o with
  | some a => some (a, env)
  | none => none
def mVar (i : Nat) : Mo D := fun env =>
  match env[i]? with
  | some (some (SV.fz d)) => some (d, env)
  | _ => none
theorem mBind_some {α β : Type} {m : Mo α} {f : α → Mo β} {env env' : DEnv} {z : β} (h : mBind m f env = some (z, env')) : ∃ a e1, m env = some (a, e1) ∧ f a e1 = some (z, env') := by
  unfold mBind at h
  cases q : m env with
  | none => rw [q] at h; cases h
  | some p => rw [q] at h; exact ⟨p.1, p.2, rfl, h⟩
theorem mLift_some {α : Type} {o : Option α} {env env' : DEnv} {z : α} (h : mLift o env = some (z, env')) : o = some z ∧ env' = env := by
  unfold mLift at h
  cases q : o with
  | none => rw [q] at h; cases h
  | some a => rw [q] at h; cases h; exact ⟨rfl, rfl⟩
theorem mRet_some {α : Type} {a : α} {env env' : DEnv} {z : α} (h : mRet a env = some (z, env')) : a = z ∧ env' = env := by
  unfold mRet at h
  cases h
  exact ⟨rfl, rfl⟩
/-- what a piece of syntax is worth over data -/
def DenE (X : Cx) (e : Expr) (F : Mo D) : Prop :=
  ∃ t : TE, PE X e t ∧ ∀ (P : Addr → Prop) (b : Bs) (σ : L2.St) (env : DEnv) (G H : Hp) (d : D) (env' : DEnv), Rep P b G H σ env → F env = some (d, env') →
    ∀ Q : VK, (∀ v G' H', Gr P G H G' H' → Rep P b G' H' σ env' → Rp G' v d → Q v H') → t σ H Q
def DenT (X : Cx) (e : Expr) (F : Mo Bool) : Prop :=
  ∃ t : TT, PT X e t ∧ ∀ (P : Addr → Prop) (b : Bs) (σ : L2.St) (env : DEnv) (G H : Hp) (d : Bool) (env' : DEnv), Rep P b G H σ env → F env = some (d, env') →
    ∀ Q : Bool → Hp → Prop, (∀ G' H', Gr P G H G' H' → Rep P b G' H' σ env' → Q d H') → t σ H Q
/-- and, or whatever their 'whole' is -/
def DenW (X : Cx) (e : Expr) (F : Mo Bool) : Prop :=
  ∃ t : TT, PW X e t ∧ ∀ (P : Addr → Prop) (b : Bs) (σ : L2.St) (env : DEnv) (G H : Hp) (d : Bool) (env' : DEnv), Rep P b G H σ env → F env = some (d, env') →
    ∀ Q : Bool → Hp → Prop, (∀ G' H', Gr P G H G' H' → Rep P b G' H' σ env' → Q d H') → t σ H Q
def DenA (X : Cx) (es : List Expr) (F : Mo (List D)) : Prop :=
  ∃ t : TA, PA X es t ∧ ∀ (P : Addr → Prop) (b : Bs) (σ : L2.St) (env : DEnv) (G H : Hp) (d : List D) (env' : DEnv), Rep P b G H σ env → F env = some (d, env') →
    ∀ Q : List V → Hp → Prop, (∀ v G' H', Gr P G H G' H' → Rep P b G' H' σ env' → RpAll G' v d → Q v H') → t σ H Q
/-- a new thing of one's own, k levels deep -/
def DenN (X : Cx) (e : Expr) (k : Nat) (F : Mo D) : Prop :=
  ∃ t : TE, PE X e t ∧ ∀ (P : Addr → Prop) (b : Bs) (σ : L2.St) (env : DEnv) (G H : Hp) (d : D) (env' : DEnv), Rep P b G H σ env → F env = some (d, env') →
    ∀ Q : VK, (∀ v G' H' N, Gr P G H G' H' → Rep (fun a => P a ∧ ¬ N a) b G' H' σ env' → Tree P G' H' N k v d → Q v H') → t σ H Q
theorem den_frz {X : Cx} {e : Expr} {k : Nat} {F : Mo D} (h : DenN X e k F) : DenE X e F := by
  obtain ⟨t, h1, h2⟩ := h
  refine ⟨t, h1, fun P b σ env G H d env' r h Q q => h2 P b σ env G H d env' r h Q fun v G' H' N g r' t => ?_⟩
  obtain ⟨G2, e1, e2, n, rv, r2⟩ := r'.know t
  exact q v G2 H' ⟨g.g.trans e1, g.h, fun a ha hn => n a ha (g.n a ha hn)⟩ r2 rv
/-- a flat answer, by who changes nothing: all of one's own is seen -/
def mLend (m : Mo D) : Mo D := fun env => match m (lendE env) with | some (d, _) => if flatD d = true then some (d, env) else none | none => none
theorem Rep.ofLend {P : Addr → Prop} {b : Bs} {G H G' H' : Hp} {σ : L2.St} {env : DEnv} (r : Rep P b G H σ env) (g : Gr (fun a => H a = none) H H G' H') (s : Ex G' H') : Gr P G H G H' ∧ Rep P b G H' σ env ∧ Ex H H' := by
  have hx : Ex H H' := g.g.trans s
  have pu : Pu G H G H' := ⟨Ex.refl G, hx, r.sub.trans hx, fun _ _ n => n⟩
  exact ⟨pu.gr r.fresh, r.pu pu, hx⟩
theorem den_lend {X : Cx} {e : Expr} {F : Mo D} (h : DenE X e F) : DenE X e (mLend F) := by
  obtain ⟨t, h1, h2⟩ := h
  refine ⟨t, h1, fun P b σ env G H d env' r h Q q => ?_⟩
  unfold mLend at h
  split at h
  · rename_i d' e1 hd
    split at h
    · rename_i hf
      cases h
      refine h2 _ b σ _ H H d e1 r.lend hd Q fun v G' H' g r' rv => ?_
      obtain ⟨g2, r2, _⟩ := r.ofLend g r'.sub
      exact q v G H' g2 r2 (rv.flat hf)
    · cases h
  · cases h
def mLendT (m : Mo Bool) : Mo Bool := fun env => match m (lendE env) with | some (d, _) => some (d, env) | none => none
theorem dent_lend {X : Cx} {e : Expr} {F : Mo Bool} (h : DenT X e F) : DenT X e (mLendT F) := by
  obtain ⟨t, h1, h2⟩ := h
  refine ⟨t, h1, fun P b σ env G H d env' r h Q q => ?_⟩
  unfold mLendT at h
  split at h
  · rename_i d' e1 hd
    cases h
    refine h2 _ b σ _ H H d e1 r.lend hd Q fun G' H' g r' => ?_
    obtain ⟨g2, r2, _⟩ := r.ofLend g r'.sub
    exact q G H' g2 r2
  · cases h
section
variable {X : Cx} {a b c e : Expr} {pos : Pos}
theorem den_var (i : Nat) {x : Str} (hN : X.N[i]? = some x) (hv : Vis X.env.scope x) (hd : (x == ("__debug__" : Str)) = false := by decide) (hcd : (x == ("__classdict__" : Str)) = false := by decide) : DenE X (.Name x pos) (mVar i) := by
  refine ⟨_, pe_var hN hv hd hcd, fun P b σ env G H d env' r h Q q => ?_⟩
  unfold mVar at h
  split at h
  · rename_i d' he
    cases h
    obtain ⟨v, h1, h2⟩ := r.fz i d he
    exact ⟨v, h1, q v G H Gr.refl r h2⟩
  · cases h
theorem den_const {v : V} {d : D} (h : PE X e (tC v)) (hr : ∀ G : Hp, Rp G v d) : DenE X e (mRet d) := by
  refine ⟨_, h, fun P b σ env G H d env' r h Q q => ?_⟩
  obtain ⟨rfl, rfl⟩ := mRet_some h
  exact q v G H Gr.refl r (hr G)
theorem den_int {i : Int} {j : Nat} : DenE X (.Constant (.int i) j pos) (mRet (.int i)) := den_const pe_int fun _ => .int i
theorem den_bl {i : Bool} {j : Nat} : DenE X (.Constant (.bool i) j pos) (mRet (.bool i)) := den_const pe_bl fun _ => .bl i
theorem den_non {j : Nat} : DenE X (.Constant .none j pos) (mRet .none) := den_const pe_non fun _ => .non
def OpD (X : Cx) (f : Value → Value → Sem Value) (g : D → D → Option D) : Prop :=
  ∃ r : R2, OpR X f r ∧ ∀ (G H : Hp) (x y : V) (d e z : D), Ex G H → Rp G x d → Rp G y e → g d e = some z → ∀ Q : VK, (∀ v G' H', Pu G H G' H' → Rp G' v z → Q v H') → r x y H Q
theorem OpD.or {f : Value → Value → Sem Value} {g g' : D → D → Option D} (h : OpD X f g) (h' : OpD X f g') : OpD X f (fun d e => match g d e with | some z => some z | none => g' d e) := by
  obtain ⟨r, h1, h2⟩ := h
  obtain ⟨r', h1', h2'⟩ := h'
  refine ⟨_, h1.or h1', fun G H x y d e z s rx ry hg Q q => ?_⟩
  cases k : g d e with
  | some w =>
    simp only [k] at hg
    cases hg
    exact .inl (h2 G H x y d e z s rx ry k Q q)
  | none =>
    simp only [k] at hg
    exact .inr (h2' G H x y d e z s rx ry hg Q q)
def mBin (g : D → D → Option D) (m n : Mo D) : Mo D := mBind m fun x => mBind n fun y => mLift (g x y)
/-- the second operand read -/
theorem two {t u : TE} {F F' : Mo D} (h1 : ∀ (P : Addr → Prop) (b : Bs) (σ : L2.St) (env : DEnv) (G H : Hp) (d : D) (env' : DEnv), Rep P b G H σ env → F env = some (d, env') →
    ∀ Q : VK, (∀ v G' H', Gr P G H G' H' → Rep P b G' H' σ env' → Rp G' v d → Q v H') → t σ H Q)
    (h2 : ∀ (P : Addr → Prop) (b : Bs) (σ : L2.St) (env : DEnv) (G H : Hp) (d : D) (env' : DEnv), Rep P b G H σ env → F' env = some (d, env') →
    ∀ Q : VK, (∀ v G' H', Gr P G H G' H' → Rep P b G' H' σ env' → Rp G' v d → Q v H') → u σ H Q)
    {P : Addr → Prop} {b : Bs} {σ : L2.St} {env e1 e2 : DEnv} {G H : Hp} {x y : D} (r : Rep P b G H σ env) (hx : F env = some (x, e1)) (hy : F' e1 = some (y, e2)) {R : V → V → Hp → Prop}
    (q : ∀ v w G' H', Gr P G H G' H' → Rep P b G' H' σ e2 → Rp G' v x → Rp G' w y → R v w H') : t σ H fun v H1 => u σ H1 fun w H2 => R v w H2 :=
  h1 P b σ env G H x e1 r hx _ fun v G1 H1 g1 r1 p1 => h2 P b σ e1 G1 H1 y e2 r1 hy _ fun w G2 H2 g2 r2 p2 => q v w G2 H2 (g1.trans g2) r2 (p1.mono g2.g) p2
theorem den_bin {op : Operator} {g : D → D → Option D} {F F' : Mo D} (ho : OpD X (binaryOp op) g) (ha : DenE X a F) (hb : DenE X b F') : DenE X (.BinOp a op b pos) (mBin g F F') := by
  obtain ⟨t, h1, h2⟩ := ha
  obtain ⟨u, k1, k2⟩ := hb
  obtain ⟨r, o1, o2⟩ := ho
  refine ⟨_, pe_op o1 h1 k1, fun P b σ env G H d env' rr h Q q => ?_⟩
  obtain ⟨x, e1, hx, h⟩ := mBind_some h
  obtain ⟨y, e2, hy, h⟩ := mBind_some h
  obtain ⟨hg, rfl⟩ := mLift_some h
  exact two h2 k2 rr hx hy fun v w G' H' g r' p1 p2 => o2 G' H' v w x y d r'.sub p1 p2 hg Q fun z G2 H2 pu pz => q z G2 H2 (g.trans (pu.gr r'.fresh)) (r'.pu pu) pz
def gInt (f : Int → Int → Option Int) : D → D → Option D
  | .int i, .int j => (f i j).map .int
  | _, _ => none
theorem opD_int {f : Value → Value → Sem Value} {C : Int → Int → Prop} {k : Int → Int → Int} {g : Int → Int → Option Int} (h : OpR X f (rI C fun i j => .int (k i j))) (hc : ∀ i j z, g i j = some z → C i j ∧ z = k i j) : OpD X f (gInt g) := by
  refine ⟨_, h, fun G H x y d e z s rx ry hg Q q => ?_⟩
  unfold gInt at hg
  split at hg
  · rename_i i j
    cases w : g i j with
    | none => rw [w] at hg; cases hg
    | some u =>
      rw [w] at hg
      cases hg
      obtain ⟨h1, rfl⟩ := hc i j u w
      rw [rx.inv_int, ry.inv_int]
      exact ⟨i, j, rfl, rfl, h1, q _ G H (Pu.refl s) (.int _)⟩
  · cases hg
theorem opD_int0 {f : Value → Value → Sem Value} {k : Int → Int → Int} (h : OpR X f (rI0 fun i j => .int (k i j))) : OpD X f (gInt fun i j => some (k i j)) := by
  refine ⟨_, h, fun G H x y d e z s rx ry hg Q q => ?_⟩
  unfold gInt at hg
  split at hg
  · rename_i i j
    cases hg
    rw [rx.inv_int, ry.inv_int]
    exact ⟨i, j, rfl, rfl, q _ G H (Pu.refl s) (.int _)⟩
  · cases hg
/-- lists, tuples put together -/
def gCat : D → D → Option D
  | .list xs, .list ys => if xs.length + ys.length ≤ 100000 then some (.list (xs ++ ys)) else none
  | _, _ => none
def gCatT : D → D → Option D
  | .tuple xs, .tuple ys => if xs.length + ys.length ≤ 100000 then some (.tuple (xs ++ ys)) else none
  | _, _ => none
theorem line_of {n : Nat} (h : n ≤ 100000) : n ≤ sizeLine := Nat.le_trans h (by decide)
theorem line_lt {n : Nat} (h : n < 100000) : n < sizeLine := Nat.lt_of_lt_of_le h (by decide)
/-- a new object, known -/
theorem fin_new {G H : Hp} {Q : VK} {z : D} {o : HO} (s : Ex G H) (q : ∀ v G' H', Pu G H G' H' → Rp G' v z → Q v H') {p : Addr} (hp : H p = none) (hz : Ex G (upd G p o) → Rp (upd G p o) (.ref p) z) : Q (.ref p) (upd H p o) :=
  q _ _ _ (Pu.new s hp) (hz (Ex.new (fresh_back s hp)))
theorem opD_cat : OpD X (binaryOp .Add) gCat := by
  refine ⟨_, op_cat, fun G H x y d e z s rx ry hg Q q => ?_⟩
  unfold gCat at hg
  split at hg
  · rename_i xs ys
    split at hg
    · rename_i hl
      cases hg
      obtain ⟨a, vs, rfl, ha, r1⟩ := rx.inv_list
      obtain ⟨c, ws, rfl, hc, r2⟩ := ry.inv_list
      exact ⟨a, c, vs, ws, rfl, rfl, s _ _ ha, s _ _ hc, by rw [r1.length, r2.length]; exact line_of hl, fun p hp => fin_new s q hp fun ex => .lst upd_same ((r1.append r2).mono ex)⟩
    · cases hg
  · cases hg
theorem opD_catT : OpD X (binaryOp .Add) gCatT := by
  refine ⟨_, op_catS, fun G H x y d e z s rx ry hg Q q => ?_⟩
  unfold gCatT at hg
  split at hg
  · rename_i xs ys
    split at hg
    · rename_i hl
      cases hg
      obtain ⟨a, vs, rfl, ha, r1⟩ := rx.inv_tup
      obtain ⟨c, ws, rfl, hc, r2⟩ := ry.inv_tup
      refine ⟨a, c, vs, ws, rfl, rfl, ha.sq s, hc.sq s, by rw [r1.length, r2.length]; exact line_of hl, fun hv => ?_, fun hv hw => ?_, fun hv hw p o hp ho => fin_new s q hp fun ex => .tup (.new ho) ((r1.append r2).mono ex)⟩
      · subst hv
        cases r1
        exact q _ G H (Pu.refl s) (.tup hc r2)
      · subst hw
        cases r2
        refine q _ G H (Pu.refl s) ?_
        rw [List.append_nil]
        exact .tup ha r1
    · cases hg
  · cases hg
/-- xs * k -/
def gRep : D → D → Option D
  | .list xs, .int k => if k ≤ 1000 ∧ -1000 ≤ k ∧ xs.length ≤ 1000 then some (.list (List.replicate k.toNat xs).flatten) else none
  | _, _ => none
theorem RpAll.rep {G : Hp} {vs : List V} {ds : List D} (h : RpAll G vs ds) : ∀ k : Nat, RpAll G (List.replicate k vs).flatten (List.replicate k ds).flatten
  | 0 => .nil
  | k + 1 => by
    rw [List.replicate_succ, List.replicate_succ, List.flatten_cons, List.flatten_cons]
    exact h.append (RpAll.rep h k)
theorem opD_rep : OpD X (binaryOp .Mult) gRep := by
  refine ⟨_, op_rep, fun G H x y d e z s rx ry hg Q q => ?_⟩
  unfold gRep at hg
  split at hg
  · rename_i xs k
    split at hg
    · rename_i hl
      cases hg
      obtain ⟨a, vs, rfl, ha, r1⟩ := rx.inv_list
      rw [ry.inv_int]
      refine ⟨a, k, vs, rfl, rfl, s _ _ ha, by omega, by omega, ?_, fun p hp => fin_new s q hp fun ex => .lst upd_same ((r1.rep _).mono ex)⟩
      rw [r1.length]
      exact Nat.le_trans (Nat.mul_le_mul hl.2.2 (show k.toNat ≤ 1000 by omega)) (by decide)
    · cases hg
  · cases hg
/-- + of ints, lists, tuples; * of ints, of a list -/
def gAdd : D → D → Option D := fun d e => match gInt (fun i j => some (i + j)) d e with | some z => some z | none => (match gCat d e with | some z => some z | none => gCatT d e)
theorem opD_add : OpD X (binaryOp .Add) gAdd := (opD_int0 op_add).or (opD_cat.or opD_catT)
def gSub : D → D → Option D := gInt fun i j => some (i - j)
theorem opD_sub : OpD X (binaryOp .Sub) gSub := opD_int0 op_sub
def gMod : D → D → Option D := gInt fun i j => if 0 < j then some (i % j) else none
theorem opD_mod : OpD X (binaryOp .Mod) gMod := opD_int op_mod fun i j z h => by
  split at h
  · rename_i hc; cases h; exact ⟨hc, rfl⟩
  · cases h
def gPow : D → D → Option D := gInt fun i j => if 0 ≤ j ∧ j ≤ 64 ∧ i.natAbs < 2 ^ 64 then some (i ^ j.toNat) else none
theorem opD_pow : OpD X (binaryOp .Pow) gPow := opD_int op_pow fun i j z h => by
  split at h
  · rename_i hc; cases h; exact ⟨⟨hc.1, by omega, hc.2.2⟩, rfl⟩
  · cases h
def gCmp (p : Int → Int → Bool) : D → D → Option D
  | .int i, .int j => some (.bool (p i j))
  | _, _ => none
theorem opD_cmp {f : Value → Value → Sem Value} {p : Int → Int → Bool} (h : OpR X f (rI0 fun i j => .bl (p i j))) : OpD X f (gCmp p) := by
  refine ⟨_, h, fun G H x y d e z s rx ry hg Q q => ?_⟩
  unfold gCmp at hg
  split at hg
  · rename_i i j
    cases hg
    rw [rx.inv_int, ry.inv_int]
    exact ⟨i, j, rfl, rfl, q _ G H (Pu.refl s) (.bl _)⟩
  · cases hg
theorem opD_le : OpD X (compareOp .LtE) (gCmp fun i j => decide (i ≤ j)) := opD_cmp op_le
theorem opD_gt : OpD X (compareOp .Gt) (gCmp fun i j => decide (j < i)) := opD_cmp op_gt
theorem opD_ge : OpD X (compareOp .GtE) (gCmp fun i j => decide (j ≤ i)) := opD_cmp op_ge
/-- == of data -/
def gEq : D → D → Option D := fun d e => if SeqAt.shaped d && SeqAt.shaped e then some (.bool (PyData.eqv d e)) else none
def gNe : D → D → Option D := fun d e => if SeqAt.shaped d && SeqAt.shaped e then some (.bool (!PyData.eqv d e)) else none
theorem opD_eq (hu : X.A.units + 64 < cLine) : OpD X (compareOp .Eq) gEq := by
  refine ⟨_, op_eqD hu, fun G H x y d e z s rx ry hg Q q => ?_⟩
  unfold gEq at hg
  split at hg
  · rename_i hs
    cases hg
    rw [Bool.and_eq_true] at hs
    exact ⟨d, e, rx.dp s (SeqAt.canLay_of_shaped hs.1), ry.dp s (SeqAt.canLay_of_shaped hs.2), hs.1, hs.2, q _ G H (Pu.refl s) (.bl _)⟩
  · cases hg
theorem opD_ne (hu : X.A.units + 64 < cLine) : OpD X (compareOp .NotEq) gNe := by
  refine ⟨_, op_neD hu, fun G H x y d e z s rx ry hg Q q => ?_⟩
  unfold gNe at hg
  split at hg
  · rename_i hs
    cases hg
    rw [Bool.and_eq_true] at hs
    exact ⟨d, e, rx.dp s (SeqAt.canLay_of_shaped hs.1), ry.dp s (SeqAt.canLay_of_shaped hs.2), hs.1, hs.2, q _ G H (Pu.refl s) (.bl _)⟩
  · cases hg
end
end Dn
namespace Dn
open PySem PySem.Spec PyProof.Rows L2
open Evl (Ex fresh_back)
def gB : D → Option Bool
  | .bool k => some k
  | _ => none
/-- truth -/
def gTru : D → Option Bool
  | .bool k => some k
  | .none => some false
  | .int i => some (i != 0)
  | .list xs => some (!xs.isEmpty)
  | .tuple xs => some (!xs.isEmpty)
  | _ => none
def mMap {α β : Type} (g : α → Option β) (m : Mo α) : Mo β := mBind m fun x => mLift (g x)
def mIf {α : Type} (c : Mo Bool) (m n : Mo α) : Mo α := mBind c fun k => if k = true then m else n
def mAnd (m n : Mo Bool) : Mo Bool := mBind m fun k => if k = true then n else mRet false
def mOr (m n : Mo Bool) : Mo Bool := mBind m fun k => if k = true then mRet true else n
def mNot (m : Mo Bool) : Mo Bool := mBind m fun k => mRet (!k)
def mCons {α : Type} (m : Mo α) (n : Mo (List α)) : Mo (List α) := mBind m fun x => mBind n fun xs => mRet (x :: xs)
theorem gB_some {d : D} {k : Bool} (h : gB d = some k) : d = .bool k := by
  unfold gB at h
  split at h
  · cases h; rfl
  · cases h
theorem mMap_some {α β : Type} {g : α → Option β} {m : Mo α} {env env' : DEnv} {z : β} (h : mMap g m env = some (z, env')) : ∃ a, m env = some (a, env') ∧ g a = some z := by
  obtain ⟨a, e1, h1, h2⟩ := mBind_some h
  obtain ⟨h3, h4⟩ := mLift_some h2
  subst h4
  exact ⟨a, h1, h3⟩
theorem RpAll.isEmpty {G : Hp} {vs : List V} {ds : List D} (r : RpAll G vs ds) : vs.isEmpty = ds.isEmpty := by cases r <;> rfl
section
variable {X : Cx} {a b c e : Expr} {pos : Pos}
theorem den_cmp {op : CmpOp} {g : D → D → Option D} {F F' : Mo D} (ho : OpD X (compareOp op) g) (ha : DenE X a F) (hb : DenE X b F') (hm : behindInMarks op b = false := by first | exact nomark _ | rfl) : DenE X (.Compare a [op] [b] pos) (mBin g F F') := by
  obtain ⟨t, h1, h2⟩ := ha
  obtain ⟨u, k1, k2⟩ := hb
  obtain ⟨r, o1, o2⟩ := ho
  refine ⟨_, pe_cmpR o1 h1 k1 hm, fun P b σ env G H d env' rr h Q q => ?_⟩
  obtain ⟨x, e1, hx, h⟩ := mBind_some h
  obtain ⟨y, e2, hy, h⟩ := mBind_some h
  obtain ⟨hg, rfl⟩ := mLift_some h
  exact two h2 k2 rr hx hy fun v w G' H' g r' p1 p2 => o2 G' H' v w x y d r'.sub p1 p2 hg Q fun z G2 H2 pu pz => q z G2 H2 (g.trans (pu.gr r'.fresh)) (r'.pu pu) pz
/-- the same as a test -/
theorem dent_cmp {op : CmpOp} {g : D → D → Option D} {F F' : Mo D} (ho : OpD X (compareOp op) g) (ha : DenE X a F) (hb : DenE X b F') (hm : behindInMarks op b = false := by first | exact nomark _ | rfl) : DenT X (.Compare a [op] [b] pos) (mMap gB (mBin g F F')) := by
  obtain ⟨t, h1, h2⟩ := ha
  obtain ⟨u, k1, k2⟩ := hb
  obtain ⟨r, o1, o2⟩ := ho
  refine ⟨_, pt_cmpR o1 h1 k1 hm, fun P b σ env G H d env' rr h Q q => ?_⟩
  obtain ⟨z, h, hz⟩ := mMap_some h
  have hz := gB_some hz
  subst hz
  obtain ⟨x, e1, hx, h⟩ := mBind_some h
  obtain ⟨y, e2, hy, h⟩ := mBind_some h
  obtain ⟨hg, rfl⟩ := mLift_some h
  exact two h2 k2 rr hx hy fun v w G' H' g r' p1 p2 => o2 G' H' v w x y _ r'.sub p1 p2 hg _ fun z G2 H2 pu pz => ⟨d, pz.inv_bl, q G2 H2 (g.trans (pu.gr r'.fresh)) (r'.pu pu)⟩
def mChain (g g' : D → D → Option D) (m n l : Mo D) : Mo Bool := mBind m fun x => mBind n fun y => mBind (mMap gB (mLift (g x y))) fun k => if k = true then mBind l fun z => mMap gB (mLift (g' y z)) else mRet false
theorem den_chain {op op' : CmpOp} {g g' : D → D → Option D} {F F' F'' : Mo D} (ho : OpD X (compareOp op) g) (ho' : OpD X (compareOp op') g') (ha : DenE X a F) (hb : DenE X b F') (hc : DenE X c F'')
    (hm : lastMarks [op, op'] [b, c] = false := by with_unfolding_all rfl) : DenE X (.Compare a [op, op'] [b, c] pos) (mMap (fun k => some (.bool k)) (mChain g g' F F' F'')) ∧ DenT X (.Compare a [op, op'] [b, c] pos) (mChain g g' F F' F'') := by
  obtain ⟨t, h1, h2⟩ := ha
  obtain ⟨u, k1, k2⟩ := hb
  obtain ⟨v, l1, l2⟩ := hc
  obtain ⟨r, o1, o2⟩ := ho
  obtain ⟨r', o1', o2'⟩ := ho'
  have core : ∀ (P : Addr → Prop) (b : Bs) (σ : L2.St) (env : DEnv) (G H : Hp) (d : Bool) (env' : DEnv), Rep P b G H σ env → mChain g g' F F' F'' env = some (d, env') →
    ∀ Q : VK, (∀ v G' H', Gr P G H G' H' → Rep P b G' H' σ env' → v = .bl d → Q v H') → tChain r r' t u v σ H Q := by
    intro P b σ env G H d env' rr h Q q
    obtain ⟨x, e1, hx, h⟩ := mBind_some h
    obtain ⟨y, e2, hy, h⟩ := mBind_some h
    obtain ⟨k, e3, hk, h⟩ := mBind_some h
    obtain ⟨kd, hk1, hk2⟩ := mMap_some hk
    obtain ⟨hg, rfl⟩ := mLift_some hk1
    have hk3 := gB_some hk2
    subst hk3
    refine two h2 k2 rr hx hy fun v w G' H' gr r' p1 p2 => o2 G' H' v w x y _ r'.sub p1 p2 hg _ fun z G2 H2 pu pz => ⟨k, pz.inv_bl, ?_⟩
    have R2 := r'.pu pu
    have g2 := gr.trans (pu.gr r'.fresh)
    cases k with
    | true =>
      rw [if_pos rfl] at h ⊢
      obtain ⟨z', e5, hz', h⟩ := mBind_some h
      obtain ⟨kd, hk4, hk5⟩ := mMap_some h
      obtain ⟨hg', rfl⟩ := mLift_some hk4
      have hk6 := gB_some hk5
      subst hk6
      exact l2 P b σ _ G2 H2 z' _ R2 hz' _ fun v3 G3 H3 g3 R3 p3 => o2' G3 H3 w v3 y z' _ R3.sub ((p2.mono pu.g).mono g3.g) p3 hg' _ fun z4 G4 H4 pu4 pz4 => q _ G4 H4 ((g2.trans g3).trans (pu4.gr R3.fresh)) (R3.pu pu4) pz4.inv_bl
    | false =>
      rw [if_neg (by decide)] at h ⊢
      obtain ⟨rfl, rfl⟩ := mRet_some h
      exact q _ G2 H2 g2 R2 rfl
  refine ⟨⟨_, pe_chain o1 o1' h1 k1 l1 hm, fun P b σ env G H d env' rr h Q q => ?_⟩, ⟨_, pt_chain o1 o1' h1 k1 l1 hm, fun P b σ env G H d env' rr h Q q => core P b σ env G H d env' rr h _ fun v G' H' g r p => ⟨d, p, q G' H' g r⟩⟩⟩
  obtain ⟨k, e1, hk, h⟩ := mBind_some h
  obtain ⟨hd, rfl⟩ := mLift_some h
  cases hd
  exact core P b σ env G H k _ rr hk _ fun v G' H' g r p => q v G' H' g r (by rw [p]; exact .bl k)
theorem dent_val {F : Mo D} (h : DenE X e F) (he : ∀ whole, isTrue e X.env whole = (do let v ← whole; standAt e.pos; holding [v] (truthy v)) := by intro _; rfl) : DenT X e (mMap gTru F) := by
  obtain ⟨t, h1, h2⟩ := h
  refine ⟨_, pt_truth h1 he, fun P b σ env G H d env' rr h Q q => ?_⟩
  obtain ⟨z, h, hz⟩ := mMap_some h
  refine h2 P b σ env G H z _ rr h _ fun v G' H' g r p => ⟨d, ?_, q G' H' g r⟩
  unfold gTru at hz
  cases p with
  | non => cases hz; rfl
  | bl k => cases hz; rfl
  | int i => cases hz; rfl
  | str x => cases hz
  | lst ha ra => cases hz; exact .inl ⟨_, .of (r.sub _ _ ha), by rw [ra.isEmpty]⟩
  | tup ha ra => cases hz; exact .inr (.inl ⟨_, ha.sq r.sub, by rw [ra.isEmpty]⟩)
  | dK _ _ _ => cases hz
  | dT _ _ _ => cases hz
  | dP _ _ _ => cases hz
  | scr _ _ => cases hz
  | rng _ => cases hz
  | dN _ _ _ => cases hz
theorem dent_not {F : Mo Bool} (h : DenT X a F) : DenT X (.UnaryOp .Not a pos) (mNot F) := by
  obtain ⟨t, h1, h2⟩ := h
  refine ⟨_, pt_not h1, fun P b σ env G H d env' rr h Q q => ?_⟩
  obtain ⟨k, e1, hk, h⟩ := mBind_some h
  obtain ⟨rfl, rfl⟩ := mRet_some h
  exact h2 P b σ env G H k _ rr hk _ fun G' H' g r => q G' H' g r
theorem denw_and1 {F : Mo Bool} (h : DenT X a F) : DenW X (.BoolOp .And [a] pos) F := by
  obtain ⟨t, h1, h2⟩ := h
  exact ⟨_, pw_and1 h1, h2⟩
theorem denw_or1 {F : Mo Bool} (h : DenT X a F) : DenW X (.BoolOp .Or [a] pos) F := by
  obtain ⟨t, h1, h2⟩ := h
  exact ⟨_, pw_or1 h1, h2⟩
theorem denw_and {rest : List Expr} {F F' : Mo Bool} (h : DenT X a F) (hb : DenW X (.BoolOp .And (b :: rest) pos) F') : DenW X (.BoolOp .And (a :: b :: rest) pos) (mAnd F F') := by
  obtain ⟨t, h1, h2⟩ := h
  obtain ⟨u, k1, k2⟩ := hb
  refine ⟨_, pw_and h1 k1, fun P b σ env G H d env' rr h Q q => ?_⟩
  obtain ⟨k, e1, hk, h⟩ := mBind_some h
  refine h2 P b σ env G H k _ rr hk _ fun G' H' g r => ?_
  cases k with
  | true =>
    rw [if_pos rfl] at h ⊢
    exact k2 P b σ _ G' H' d _ r h _ fun G2 H2 g2 r2 => q G2 H2 (g.trans g2) r2
  | false =>
    rw [if_neg (by decide)] at h ⊢
    obtain ⟨rfl, rfl⟩ := mRet_some h
    exact q G' H' g r
theorem denw_or {rest : List Expr} {F F' : Mo Bool} (h : DenT X a F) (hb : DenW X (.BoolOp .Or (b :: rest) pos) F') : DenW X (.BoolOp .Or (a :: b :: rest) pos) (mOr F F') := by
  obtain ⟨t, h1, h2⟩ := h
  obtain ⟨u, k1, k2⟩ := hb
  refine ⟨_, pw_or h1 k1, fun P b σ env G H d env' rr h Q q => ?_⟩
  obtain ⟨k, e1, hk, h⟩ := mBind_some h
  refine h2 P b σ env G H k _ rr hk _ fun G' H' g r => ?_
  cases k with
  | false =>
    rw [if_neg (by decide)] at h ⊢
    exact k2 P b σ _ G' H' d _ r h _ fun G2 H2 g2 r2 => q G2 H2 (g.trans g2) r2
  | true =>
    rw [if_pos rfl] at h ⊢
    obtain ⟨rfl, rfl⟩ := mRet_some h
    exact q G' H' g r
theorem dent_w {F : Mo Bool} (h : DenW X e F) : DenT X e F := by
  obtain ⟨t, h1, h2⟩ := h
  exact ⟨_, h1.pt, h2⟩
/-- and, or, not as values (all True or False) -/
def mAndV (m n : Mo D) : Mo D := mBind (mMap gB m) fun k => if k = true then n else mRet (.bool false)
theorem den_one {op : PySem.BoolOp} {F : Mo D} (h : DenE X a F) : DenE X (.BoolOp op [a] pos) F := by
  obtain ⟨t, h1, h2⟩ := h
  exact ⟨_, pe_one h1, h2⟩
theorem den_and {rest : List Expr} {F F' : Mo D} (h : DenE X a F) (hb : DenE X (.BoolOp .And (b :: rest) pos) F') : DenE X (.BoolOp .And (a :: b :: rest) pos) (mAndV F F') := by
  obtain ⟨t, h1, h2⟩ := h
  obtain ⟨u, k1, k2⟩ := hb
  refine ⟨_, pe_and h1 k1, fun P b σ env G H d env' rr h Q q => ?_⟩
  obtain ⟨k, e1, hk, h⟩ := mBind_some h
  obtain ⟨z, hk, hz⟩ := mMap_some hk
  have hz := gB_some hz
  subst hz
  refine h2 P b σ env G H _ _ rr hk _ fun v G' H' g r p => ⟨k, p.inv_bl, ?_⟩
  cases k with
  | true =>
    rw [if_pos rfl] at h ⊢
    exact k2 P b σ _ G' H' d _ r h _ fun v G2 H2 g2 r2 p => q v G2 H2 (g.trans g2) r2 p
  | false =>
    rw [if_neg (by decide)] at h ⊢
    obtain ⟨rfl, rfl⟩ := mRet_some h
    exact q _ G' H' g r (.bl _)
theorem den_not {F : Mo D} (h : DenE X a F) : DenE X (.UnaryOp .Not a pos) (mMap (fun k => some (.bool (!k))) (mMap gB F)) := by
  obtain ⟨t, h1, h2⟩ := h
  refine ⟨_, pe_not h1, fun P b σ env G H d env' rr h Q q => ?_⟩
  obtain ⟨k, e1, hk, h⟩ := mBind_some h
  obtain ⟨hd, rfl⟩ := mLift_some h
  cases hd
  obtain ⟨z, hk, hz⟩ := mMap_some hk
  have hz := gB_some hz
  subst hz
  exact h2 P b σ env G H _ _ rr hk _ fun v G' H' g r p => ⟨k, p.inv_bl, q _ G' H' g r (.bl _)⟩
theorem den_if {Fc : Mo Bool} {F F' : Mo D} (hc : DenT X c Fc) (ha : DenE X a F) (hb : DenE X b F') : DenE X (.IfExp c a b pos) (mIf Fc F F') := by
  obtain ⟨t, h1, h2⟩ := hc
  obtain ⟨u, k1, k2⟩ := ha
  obtain ⟨w, l1, l2⟩ := hb
  refine ⟨_, pe_ifExp h1 k1 l1, fun P b σ env G H d env' rr h Q q => ?_⟩
  obtain ⟨k, e1, hk, h⟩ := mBind_some h
  refine h2 P b σ env G H k _ rr hk _ fun G' H' g r => ?_
  cases k with
  | true =>
    rw [if_pos rfl] at h ⊢
    exact k2 P b σ _ G' H' d _ r h _ fun v G2 H2 g2 r2 p => q v G2 H2 (g.trans g2) r2 p
  | false =>
    rw [if_neg (by decide)] at h ⊢
    exact l2 P b σ _ G' H' d _ r h _ fun v G2 H2 g2 r2 p => q v G2 H2 (g.trans g2) r2 p
/-- -a -/
def gNeg : D → Option D
  | .int i => some (.int (-i))
  | _ => none
theorem den_neg {F : Mo D} (h : DenE X a F) : DenE X (.UnaryOp .USub a pos) (mMap gNeg F) := by
  obtain ⟨t, h1, h2⟩ := h
  refine ⟨_, pe_un un_neg h1, fun P b σ env G H d env' rr h Q q => ?_⟩
  obtain ⟨z, hk, hz⟩ := mMap_some h
  unfold gNeg at hz
  split at hz
  · rename_i i
    cases hz
    exact h2 P b σ env G H _ _ rr hk _ fun v G' H' g r p => ⟨i, p.inv_int, q _ G' H' g r (.int _)⟩
  · cases hz
/-- is None, is not None -/
def gIsN : D → Option D
  | .none => some (.bool true)
  | _ => some (.bool false)
def gNotN : D → Option D
  | .none => some (.bool false)
  | _ => some (.bool true)
theorem Rp.isN {G : Hp} {v : V} {d : D} (h : Rp G v d) : gIsN d = some (.bool (decide (v = .non))) ∧ gNotN d = some (.bool (!decide (v = .non))) := by
  cases h <;> exact ⟨rfl, rfl⟩
theorem den_isN {F : Mo D} {j : Nat} {p' : Pos} (h : DenE X a F) : DenE X (.Compare a [.Is] [.Constant .none j p'] pos) (mMap gIsN F) ∧ DenT X (.Compare a [.Is] [.Constant .none j p'] pos) (mMap gB (mMap gIsN F)) := by
  obtain ⟨t, h1, h2⟩ := h
  refine ⟨⟨_, pe_cmp (pc_isN h1) rfl, fun P b σ env G H d env' rr h Q q => ?_⟩, ⟨_, pt_cmp (pc_isN h1) rfl, fun P b σ env G H d env' rr h Q q => ?_⟩⟩
  · obtain ⟨z, hk, hz⟩ := mMap_some h
    refine h2 P b σ env G H _ _ rr hk _ fun v G' H' g r p => q _ G' H' g r ?_
    rw [p.isN.1] at hz
    cases hz
    exact .bl _
  · obtain ⟨w, h, hw⟩ := mMap_some h
    have hw := gB_some hw
    subst hw
    obtain ⟨z, hk, hz⟩ := mMap_some h
    refine h2 P b σ env G H _ _ rr hk _ fun v G' H' g r p => ⟨_, rfl, ?_⟩
    rw [p.isN.1] at hz
    cases hz
    exact q G' H' g r
theorem den_notN {F : Mo D} {j : Nat} {p' : Pos} (h : DenE X a F) : DenE X (.Compare a [.IsNot] [.Constant .none j p'] pos) (mMap gNotN F) ∧ DenT X (.Compare a [.IsNot] [.Constant .none j p'] pos) (mMap gB (mMap gNotN F)) := by
  obtain ⟨t, h1, h2⟩ := h
  refine ⟨⟨_, pe_cmp (pc_notN h1) rfl, fun P b σ env G H d env' rr h Q q => ?_⟩, ⟨_, pt_cmp (pc_notN h1) rfl, fun P b σ env G H d env' rr h Q q => ?_⟩⟩
  · obtain ⟨z, hk, hz⟩ := mMap_some h
    refine h2 P b σ env G H _ _ rr hk _ fun v G' H' g r p => q _ G' H' g r ?_
    rw [p.isN.2] at hz
    cases hz
    exact .bl _
  · obtain ⟨w, h, hw⟩ := mMap_some h
    have hw := gB_some hw
    subst hw
    obtain ⟨z, hk, hz⟩ := mMap_some h
    refine h2 P b σ env G H _ _ rr hk _ fun v G' H' g r p => ⟨_, rfl, ?_⟩
    rw [p.isN.2] at hz
    cases hz
    exact q G' H' g r
theorem dena_nil : DenA X [] (mRet []) := by
  refine ⟨_, pa_nil, fun P b σ env G H d env' r h Q q => ?_⟩
  obtain ⟨rfl, rfl⟩ := mRet_some h
  exact q [] G H Gr.refl r .nil
theorem dena_cons {es : List Expr} {F : Mo D} {F' : Mo (List D)} (ha : DenE X a F) (hr : DenA X es F') (hs : starEach (a :: es) X.env = (false, eval a X.env) :: starEach es X.env := by rfl) : DenA X (a :: es) (mCons F F') := by
  obtain ⟨t, h1, h2⟩ := ha
  obtain ⟨u, k1, k2⟩ := hr
  refine ⟨_, pa_cons h1 k1 hs, fun P b σ env G H d env' rr h Q q => ?_⟩
  obtain ⟨x, e1, hx, h⟩ := mBind_some h
  obtain ⟨y, e2, hy, h⟩ := mBind_some h
  obtain ⟨rfl, rfl⟩ := mRet_some h
  exact h2 P b σ env G H x e1 rr hx _ fun v G1 H1 g1 r1 p1 => k2 P b σ e1 G1 H1 y _ r1 hy _ fun w G2 H2 g2 r2 p2 => q _ G2 H2 (g1.trans g2) r2 (.cons (p1.mono g2.g) p2)
def gTup (xs : List D) : Option D := if xs.length ≤ 100000 then some (.tuple xs) else none
def gLst (xs : List D) : Option D := if xs.length ≤ 100000 then some (.list xs) else none
theorem den_tup {es : List Expr} {k : Nat} {F : Mo (List D)} (h : DenA X es F) : DenE X (.Tuple es k pos) (mMap gTup F) := by
  obtain ⟨t, h1, h2⟩ := h
  refine ⟨_, pe_tupS h1, fun P b σ env G H d env' rr h Q q => ?_⟩
  obtain ⟨z, hk, hz⟩ := mMap_some h
  unfold gTup at hz
  split at hz
  · rename_i hl
    cases hz
    refine h2 P b σ env G H _ _ rr hk _ fun v G' H' g r p => ⟨by rw [p.length]; exact line_of hl, fun x o hx ho => ?_⟩
    have pu := Pu.new (o := .frz o (.tup v)) r.sub hx
    exact q _ _ _ (g.trans (pu.gr r.fresh)) (r.pu pu) (.tup (.new ho) (p.mono pu.g))
  · cases hz
theorem den_lst {es : List Expr} {F : Mo (List D)} (h : DenA X es F) : DenE X (.List es pos) (mMap gLst F) := by
  obtain ⟨t, h1, h2⟩ := h
  refine ⟨_, pe_lst h1, fun P b σ env G H d env' rr h Q q => ?_⟩
  obtain ⟨z, hk, hz⟩ := mMap_some h
  unfold gLst at hz
  split at hz
  · rename_i hl
    cases hz
    refine h2 P b σ env G H _ _ rr hk _ fun v G' H' g r p => ⟨by rw [p.length]; exact line_of hl, fun x hx => ?_⟩
    have pu := Pu.new (o := .lst v) r.sub hx
    exact q _ _ _ (g.trans (pu.gr r.fresh)) (r.pu pu) (.lst upd_same (p.mono pu.g))
  · cases hz
def gIx : D → D → Option D
  | .list xs, .int i => atI xs i
  | .tuple xs, .int i => atI xs i
  | _, _ => none
theorem gIx_some {x y d : D} (h : gIx x y = some d) : ∃ xs i, (x = .list xs ∨ x = .tuple xs) ∧ y = .int i ∧ atI xs i = some d := by
  unfold gIx at h
  split at h
  · exact ⟨_, _, .inl rfl, rfl, h⟩
  · exact ⟨_, _, .inr rfl, rfl, h⟩
  · cases h
theorem RpAll.atI {G : Hp} {vs : List V} {ds : List D} (r : RpAll G vs ds) {i : Int} {d : D} (h : L2.atI ds i = some d) : ∃ v, L2.atI vs i = some v ∧ Rp G v d := by
  unfold L2.atI at h ⊢
  rw [r.length]
  cases k : ixN ds.length i with
  | none => rw [k] at h; cases h
  | some j =>
    rw [k] at h
    exact r.get h
theorem den_ix {F F' : Mo D} (ha : DenE X a F) (hb : DenE X b F') (hs : PlainIx b := by exact fun _ _ => rfl) : DenE X (.Subscript a b pos) (mBin gIx F F') := by
  obtain ⟨t, h1, h2⟩ := ha
  obtain ⟨u, k1, k2⟩ := hb
  refine ⟨_, pe_ix (ix_list.or ix_tup) h1 k1 hs, fun P b σ env G H d env' rr h Q q => ?_⟩
  obtain ⟨x, e1, hx, h⟩ := mBind_some h
  obtain ⟨y, e2, hy, h⟩ := mBind_some h
  obtain ⟨hg, rfl⟩ := mLift_some h
  refine two h2 k2 rr hx hy fun v w G' H' g r' p1 p2 => ?_
  obtain ⟨xs, i, hxs, rfl, hi⟩ := gIx_some hg
  rcases hxs with rfl | rfl
  · obtain ⟨p, vs, rfl, hp, rp⟩ := p1.inv_list
    obtain ⟨z, hz, rz⟩ := rp.atI hi
    exact .inl ⟨p, vs, i, z, rfl, p2.inv_int, .of (r'.sub _ _ hp), hz, q z G' H' g r' rz⟩
  · obtain ⟨p, vs, rfl, hp, rp⟩ := p1.inv_tup
    obtain ⟨z, hz, rz⟩ := rp.atI hi
    exact .inr ⟨p, vs, i, z, rfl, p2.inv_int, hp.sq r'.sub, hz, q z G' H' g r' rz⟩
end
end Dn
namespace Dn
open PySem PySem.Spec PyProof.Rows L2
open Evl (Ex fresh_back)
def cutD (xs : List D) (lo hi : Option Int) : List D := (xs.drop (HT.sIx xs.length 0 lo)).take (HT.sIx xs.length xs.length hi - HT.sIx xs.length 0 lo)
theorem RpAll.cut {G : Hp} {vs : List V} {ds : List D} (r : RpAll G vs ds) (lo hi : Option Int) : RpAll G (cutV vs lo hi) (cutD ds lo hi) := by
  unfold cutV cutD
  rw [r.length]
  exact (r.drop _).take _
def gI : D → Option Int
  | .int i => some i
  | _ => none
theorem gI_some {d : D} {i : Int} (h : gI d = some i) : d = .int i := by
  unfold gI at h
  split at h
  · cases h; rfl
  · cases h
def DenO (X : Cx) (e : Option Expr) (F : Mo (Option Int)) : Prop :=
  ∃ t : TO, PO X e t ∧ ∀ (P : Addr → Prop) (b : Bs) (σ : L2.St) (env : DEnv) (G H : Hp) (d : Option Int) (env' : DEnv), Rep P b G H σ env → F env = some (d, env') →
    ∀ Q : Option Int → Hp → Prop, (∀ G' H', Gr P G H G' H' → Rep P b G' H' σ env' → Q d H') → t σ H Q
section
variable {X : Cx} {a b c e : Expr} {pos : Pos}
theorem deno_none : DenO X none (mRet none) := by
  refine ⟨_, po_none, fun P b σ env G H d env' r h Q q => ?_⟩
  obtain ⟨rfl, rfl⟩ := mRet_some h
  exact q G H Gr.refl r
theorem deno_some {F : Mo D} (h : DenE X e F) : DenO X (some e) (mMap (fun d => (gI d).map some) F) := by
  obtain ⟨t, h1, h2⟩ := h
  refine ⟨_, po_some h1, fun P b σ env G H d env' rr h Q q => ?_⟩
  obtain ⟨z, hk, hz⟩ := mMap_some h
  cases w : gI z with
  | none => rw [w] at hz; cases hz
  | some i =>
    rw [w] at hz
    cases hz
    have := gI_some w
    subst this
    exact h2 P b σ env G H _ _ rr hk _ fun v G' H' g r p => ⟨i, p.inv_int, q G' H' g r⟩
def gSl (x : D) (lo hi : Option Int) : Option D :=
  match x with
  | .list xs => some (.list (cutD xs lo hi))
  | .tuple xs => some (.tuple (cutD xs lo hi))
  | .dict [(.none, .list xs)] => some (.list (cutD xs lo hi))
  | _ => none
def mSl (m : Mo D) (l h : Mo (Option Int)) : Mo D := mBind m fun x => mBind l fun lo => mBind h fun hi => mLift (gSl x lo hi)
theorem cutD_whole {xs : List D} {lo hi : Option Int} (h : HT.sIx xs.length 0 lo = 0 ∧ HT.sIx xs.length xs.length hi = xs.length) : cutD xs lo hi = xs := by
  unfold cutD
  rw [h.1, h.2]
  simp
theorem den_slice {lo hi : Option Expr} {p2 : Pos} {F : Mo D} {Fl Fh : Mo (Option Int)} (ha : DenE X a F) (hl : DenO X lo Fl) (hh : DenO X hi Fh) : DenE X (.Subscript a (.Slice lo hi none p2) pos) (mSl F Fl Fh) := by
  obtain ⟨t, h1, h2⟩ := ha
  obtain ⟨u, k1, k2⟩ := hl
  obtain ⟨w, l1, l2⟩ := hh
  refine ⟨_, pe_slice (sl_list.or sl_tupS) h1 k1 l1, fun P b σ env G H d env' rr h Q q => ?_⟩
  obtain ⟨x, e1, hx, hA⟩ := mBind_some h
  obtain ⟨lo', e2, hlo, hB⟩ := mBind_some hA
  obtain ⟨hi', e3, hhi, hC⟩ := mBind_some hB
  obtain ⟨hg, rfl⟩ := mLift_some hC
  refine h2 P b σ env G H x e1 rr hx _ fun v G1 H1 g1 r1 p1 => k2 P b σ e1 G1 H1 lo' e2 r1 hlo _ fun G2 H2 g2 r2 => l2 P b σ e2 G2 H2 hi' _ r2 hhi _ fun G3 H3 g3 r3 => ?_
  have gg := (g1.trans g2).trans g3
  have p3 := (p1.mono g2.g).mono g3.g
  unfold gSl at hg
  cases p3 with
  | lst ha ra =>
    rename_i pa pxs pds
    cases hg
    refine .inl ⟨_, _, rfl, .of (r3.sub _ _ ha), fun y hy => ?_⟩
    have pu := Pu.new (o := .lst (cutV pxs lo' hi')) r3.sub hy
    exact q _ _ _ (gg.trans (pu.gr r3.fresh)) (r3.pu pu) (.lst upd_same ((ra.cut lo' hi').mono pu.g))
  | tup ha ra =>
    rename_i pa pxs pds
    cases hg
    refine .inr ⟨_, _, rfl, ha.sq r3.sub, fun hw => ?_, fun hw y o hy ho => ?_⟩
    · rw [ra.length] at hw
      rw [cutD_whole hw] at q
      exact q _ _ _ gg r3 (.tup ha ra)
    · have pu := Pu.new (o := .frz o (.tup (cutV pxs lo' hi'))) r3.sub hy
      exact q _ _ _ (gg.trans (pu.gr r3.fresh)) (r3.pu pu) (.tup (.new ho) ((ra.cut lo' hi').mono pu.g))
  | scr ha ra =>
    rename_i pa po pxs pds
    cases hg
    refine .inl ⟨_, _, rfl, .inl (.inr ⟨_, r3.sub _ _ ha⟩), fun y hy => ?_⟩
    have pu := Pu.new (o := .lst (cutV pxs lo' hi')) r3.sub hy
    exact q _ _ _ (gg.trans (pu.gr r3.fresh)) (r3.pu pu) (.lst upd_same ((ra.cut lo' hi').mono pu.g))
  | dK ha hl ra =>
    rename_i pa ks xs ds
    exfalso
    cases ks with
    | nil => cases hg
    | cons k ks =>
      cases ds with
      | nil => cases hg
      | cons d ds => cases k <;> cases ks <;> cases ds <;> cases d <;> cases hg
  | dT ha hl ra =>
    rename_i pa rows ds
    exfalso
    cases rows with
    | nil => cases hg
    | cons k ks =>
      cases ds with
      | nil => cases hg
      | cons d ds => cases ks <;> cases ds <;> cases d <;> cases hg
  | _ => cases hg
def CallD (X : Cx) (f : Value) (g : List D → Option D) : Prop :=
  ∃ r : List V → Hp → VK → Prop, CallR X f r ∧ ∀ (G H : Hp) (vs : List V) (ds : List D) (z : D), Ex G H → RpAll G vs ds → g ds = some z → ∀ Q : VK, (∀ v G' H', Pu G H G' H' → Rp G' v z → Q v H') → r vs H Q
theorem den_callB {x : Str} {id : String} {p : Pos} {es : List Expr} {g : List D → Option D} {F : Mo (List D)} (hc : CallD X (.builtin id) g) (hg : Gl X x) (hm : X.mg x = none) (hv : bootBuiltins x = some (.builtin id)) (ha : DenA X (e :: es) F)
    (hn : x ≠ "__name__" := by decide) (hdb : (x == ("__debug__" : Str)) = false := by decide) (he : starEach (e :: es) X.env = (false, eval e X.env) :: starEach es X.env := by rfl) (hpl : (backTo pos (starEach es X.env)).any (·.1) = false := by rfl) :
    DenE X (.Call (.Name x p) (e :: es) [] pos) (mMap g F) := by
  obtain ⟨t, h1, h2⟩ := ha
  obtain ⟨r, o1, o2⟩ := hc
  refine ⟨_, pe_callB o1 hg hm hv h1 hn hdb he hpl, fun P b σ env G H d env' rr h Q q => ?_⟩
  obtain ⟨z, hk, hz⟩ := mMap_some h
  exact h2 P b σ env G H _ _ rr hk _ fun v G' H' g r p => o2 G' H' v z d r.sub p hz _ fun w G2 H2 pu pw => q w G2 H2 (g.trans (pu.gr r.fresh)) (r.pu pu) pw
theorem den_callTy {x : Str} {T : String} {p : Pos} {es : List Expr} {g : List D → Option D} {F : Mo (List D)} (hc : CallD X (.type T) g) (hg : Gl X x) (hm : X.mg x = none) (hv : bootBuiltins x = some (.type T)) (ha : DenA X (e :: es) F)
    (hn : x ≠ "__name__" := by decide) (hdb : (x == ("__debug__" : Str)) = false := by decide) (he : starEach (e :: es) X.env = (false, eval e X.env) :: starEach es X.env := by rfl) (hpl : (backTo pos (starEach es X.env)).any (·.1) = false := by rfl) :
    DenE X (.Call (.Name x p) (e :: es) [] pos) (mMap g F) := by
  obtain ⟨t, h1, h2⟩ := ha
  obtain ⟨r, o1, o2⟩ := hc
  refine ⟨_, pe_callTy o1 hg hm hv h1 hn hdb he hpl, fun P b σ env G H d env' rr h Q q => ?_⟩
  obtain ⟨z, hk, hz⟩ := mMap_some h
  exact h2 P b σ env G H _ _ rr hk _ fun v G' H' g r p => o2 G' H' v z d r.sub p hz _ fun w G2 H2 pu pw => q w G2 H2 (g.trans (pu.gr r.fresh)) (r.pu pu) pw
end
end Dn
namespace Dn
open PySem PySem.Spec PyProof.Rows L2
open Evl (Ex fresh_back)
inductive Fl where
  | nx (env : DEnv) | rt (d : D) (env : DEnv) | bk (env : DEnv) | ct (env : DEnv)
abbrev So := DEnv → Option Fl
/-- what is wanted behind, by how the statement ends -/
def PostS (P : Addr → Prop) (b : Bs) (G H : Hp) (r : Fl) (Dd : Ends) : Prop :=
  match r with
  | .nx env' => ∀ σ' G' H', Gr P G H G' H' → Rep P b G' H' σ' env' → Dd.nx σ' H'
  | .rt d env' => ∀ v σ' G' H', Gr P G H G' H' → Rep P b G' H' σ' env' → Rp G' v d → Dd.rt v H'
  | .bk env' => ∀ σ' G' H', Gr P G H G' H' → Rep P b G' H' σ' env' → Dd.bk σ' H'
  | .ct env' => ∀ σ' G' H', Gr P G H G' H' → Rep P b G' H' σ' env' → Dd.ct σ' H'
theorem PostS.gr {P : Addr → Prop} {b : Bs} {G H G1 H1 : Hp} {r : Fl} {Dd : Ends} (h : PostS P b G H r Dd) (g : Gr P G H G1 H1) : PostS P b G1 H1 r Dd := by
  cases r with
  | nx env => exact fun σ' G' H' g' r' => h σ' G' H' (g.trans g') r'
  | rt d env => exact fun v σ' G' H' g' r' p => h v σ' G' H' (g.trans g') r' p
  | bk env => exact fun σ' G' H' g' r' => h σ' G' H' (g.trans g') r'
  | ct env => exact fun σ' G' H' g' r' => h σ' G' H' (g.trans g') r'
def RunS (t : TS) (F : So) : Prop := ∀ (P : Addr → Prop) (b : Bs) (σ : L2.St) (env : DEnv) (G H : Hp) (r : Fl), Rep P b G H σ env → F env = some r → ∀ Dd : Ends, PostS P b G H r Dd → t Dd σ H
def DenS (X : Cx) (st : Stmt) (F : So) : Prop := ∃ t : TS, PS X st t ∧ RunS t F
def DenSs (X : Cx) (st : List Stmt) (F : So) : Prop := ∃ t : TS, PSs X st t ∧ RunS t F
def sNil : So := fun env => some (.nx env)
def sSeq (F F' : So) : So := fun env =>
  match F env with
  | some (.nx e1) => F' e1
  | r => r
def sNone : So := fun _ => none
def sRet (m : Mo D) : So := fun env =>
  match m env with
  | some (d, e1) => some (.rt d e1)
  | none => none
def sDrop {α : Type} (m : Mo α) : So := fun env =>
  match m env with
  | some (_, e1) => some (.nx e1)
  | none => none
def sIf (c : Mo Bool) (F F' : So) : So := fun env =>
  match c env with
  | some (k, e1) => if k = true then F e1 else F' e1
  | none => none
/-- x = e -/
def sSet (i : Nat) (m : Mo D) : So := fun env =>
  match m env with
  | some (d, e1) => some (.nx (e1.set i (some (SV.fz d))))
  | none => none
section
variable {X : Cx} {st : Stmt} {rest : List Stmt} {a c e : Expr} {pos : Pos}
theorem denss_nil : DenSs X [] sNil := ⟨_, pss_nil, fun P b σ env G H r rr h Dd q => by
  cases h
  exact q σ G H Gr.refl rr⟩
theorem denss_cons {F F' : So} (h1 : DenS X st F) (h2 : DenSs X rest F') : DenSs X (st :: rest) (sSeq F F') := by
  obtain ⟨t, h1, h2'⟩ := h1
  obtain ⟨u, k1, k2⟩ := h2
  refine ⟨_, pss_cons h1 k1, fun P b σ env G H r rr h Dd q => ?_⟩
  unfold sSeq at h
  cases w : F env with
  | none => rw [w] at h; cases h
  | some r1 =>
    rw [w] at h
    refine h2' P b σ env G H r1 rr w { Dd with nx := u Dd } ?_
    cases r1 with
    | nx e1 => exact fun σ' G' H' g r' => k2 P b σ' e1 G' H' r r' h Dd (q.gr g)
    | rt d e1 => cases h; exact q
    | bk e1 => cases h; exact q
    | ct e1 => cases h; exact q
/-- what is not spoken of -/
theorem dens_never : DenS X st sNone := ⟨_, ps_never, fun P b σ env G H r rr h Dd q => by cases h⟩
theorem dens_break : DenS X (.Break pos) (fun env => some (.bk env)) := ⟨_, ps_break, fun P b σ env G H r rr h Dd q => by
  cases h
  exact q σ G H Gr.refl rr⟩
theorem dens_ret {F : Mo D} (h : DenE X e F) : DenS X (.Return (some e) pos) (sRet F) := by
  obtain ⟨t, h1, h2⟩ := h
  refine ⟨_, ps_ret h1, fun P b σ env G H r rr h Dd q => ?_⟩
  unfold sRet at h
  split at h
  · rename_i d e1 hd
    cases h
    exact h2 P b σ env G H d e1 rr hd _ fun v G' H' g r' p => q v σ G' H' g r' p
  · cases h
theorem dens_expr {F : Mo D} (h : DenE X e F) (hs : swapsWith e none pos.line X.env = pure false := by rfl) : DenS X (.Expr e pos) (sDrop F) := by
  obtain ⟨t, h1, h2⟩ := h
  refine ⟨_, ps_expr h1 hs, fun P b σ env G H r rr h Dd q => ?_⟩
  unfold sDrop at h
  split at h
  · rename_i d e1 hd
    cases h
    exact h2 P b σ env G H d e1 rr hd _ fun v G' H' g r' p => q σ G' H' g r'
  · cases h
theorem dens_if {u v : List Stmt} {Fc : Mo Bool} {F F' : So} (hc : DenT X c Fc) (h1 : DenSs X u F) (h2 : DenSs X v F') : DenS X (.If c u v pos) (sIf Fc F F') := by
  obtain ⟨t, c1, c2⟩ := hc
  obtain ⟨t1, h1, h1'⟩ := h1
  obtain ⟨t2, h2, h2'⟩ := h2
  refine ⟨_, ps_if c1 h1 h2, fun P b σ env G H r rr h Dd q => ?_⟩
  unfold sIf at h
  split at h
  · rename_i k e1 hk
    refine c2 P b σ env G H k e1 rr hk _ fun G' H' g r' => ?_
    cases k with
    | true =>
      rw [if_pos rfl] at h ⊢
      exact h1' P b σ e1 G' H' r r' h Dd (q.gr g)
    | false =>
      rw [if_neg (by decide)] at h ⊢
      exact h2' P b σ e1 G' H' r r' h Dd (q.gr g)
  · cases h
theorem dens_set (i : Nat) {x : Str} {pos' : Pos} {F : Mo D} (hN : X.N.Nodup) (hi : X.N[i]? = some x) (hx : Loc X.env.scope x) (he : DenE X e F) (hs : swapsWith e (some (.Name x pos')) pos.line X.env = pure false := by rfl)
    (hf : X.fn x = true ∨ X.env.scope.names.lookup x = some .local := by first | exact .inl rfl | exact .inr rfl | assumption) : DenS X (.Assign [.Name x pos'] e pos) (sSet i F) := by
  obtain ⟨t, h1, h2⟩ := he
  refine ⟨_, ps_set hN hi hx h1 hs hf, fun P b σ env G H r rr h Dd q => ?_⟩
  unfold sSet at h
  split at h
  · rename_i d e1 hd
    cases h
    exact h2 P b σ env G H d e1 rr hd _ fun v G' H' g r' p => q _ G' H' g (r'.set p)
  · cases h
end
def envOf (N : List Str) (ds : List D) : DEnv := ds.map (fun d => some (SV.fz d)) ++ List.replicate (N.length - ds.length) none
def outF : Option Fl → Option D
  | some (.rt d _) => some d
  | some (.nx _) => some .none
  | _ => none
/-- a def that changes nothing -/
def spF (n : Nat) (F : List D → Option D) : Sp := fun vs H Q _ => ∃ (G : Hp) (ds : List D) (d : D), Ex G H ∧ RpAll G vs ds ∧ ds.length = n ∧ F ds = some d ∧ ∀ v G' H', Pu G H G' H' → Rp G' v d → Q v H'
structure Fd (P : Program) (w : World) (K : PySem.W.Frag) (mg : Str → Option Value) (base : Heap) (x : Str) (k n : Nat) (F : List D → Option D) : Prop where
  ex : ∃ (f : Addr) (fd : FuncData) (ps : List Str), mg x = some (.ref f) ∧ PySem.W.keepIn K (.ref f) = true ∧ Binds K fd ps [] ∧ ps.length = n ∧ FnOk P w K mg base CX0 k f fd ps (spF n F)
theorem envOf_get {N : List Str} {ds : List D} {i : Nat} {s : SV} (h : (envOf N ds)[i]? = some (some s)) : ∃ d, s = .fz d ∧ ds[i]? = some d := by
  unfold envOf at h
  by_cases hi : i < ds.length
  · rw [List.getElem?_append_left (by simpa using hi), List.getElem?_map, List.getElem?_eq_getElem hi] at h
    cases h
    exact ⟨_, rfl, List.getElem?_eq_getElem hi⟩
  · rw [List.getElem?_append_right (by simpa using hi)] at h
    obtain ⟨h1, h2⟩ := List.getElem?_eq_some_iff.mp h
    rw [List.getElem_replicate] at h2
    cases h2
theorem start_rep {N : List Str} {G H : Hp} {vs : List V} {ds : List D} {P : Addr → Prop} {b : Bs} (s : Ex G H) (f : ∀ p, H p = none → P p) (r : RpAll G vs ds) : Rep P b G H (L2.start N vs) (envOf N ds) where
  len := by
    unfold L2.start envOf
    simp [r.length]
  sub := s
  fresh := f
  rep := by
    refine ⟨fun _ => none, (fun a p h => by cases h), fun i sv h => ?_⟩
    obtain ⟨d', e, hd⟩ := envOf_get h
    subst e
    obtain ⟨v, hv, rv⟩ := r.get hd
    refine ⟨v, ?_, rv⟩
    unfold L2.start
    have hi : i < vs.length := (List.getElem?_eq_some_iff.mp hv).1
    rw [List.getElem?_append_left (by simpa using hi), List.getElem?_map, hv]
    rfl
section
variable {P : Program} {w : World} {K : PySem.W.Frag} {mg : Str → Option Value} {base : Heap}
theorem Fd.mk' {x qual : Str} {st : Stmt} {f : Addr} {fd : FuncData} {N ps : List Str} {k : Nat} {B : So} (F : Fun K x qual st f fd) (S : FnScope N ps (defScope st)) (hg : mg x = some (.ref f)) (hb : Binds K fd ps [])
    (body : ∀ (cdv : Value) (A : Around) (outer : List Env) (s : Shared) (H : Hp) (E : XK), Room k (A.deeper (envOfC qual (defScope st) s.heap.objs.size f cdv)) → DenSs (cxOf CX0 P w K mg base N qual (defScope st) f cdv A outer s H E).nox (defBody st) B) :
    Fd P w K mg base x (k + 1) ps.length (fun ds => outF (B (envOf N ds))) := by
  refine ⟨f, fd, ps, hg, F.kp, hb, rfl, F.ok S (fun vs H Q E h => ?_) fun cdv A outer s H vs Q E hr h => ?_⟩
  · obtain ⟨G, ds, d, _, r, hl, _⟩ := h
    rw [r.length, hl]
  · obtain ⟨G, ds, d, hs, r, hl, hF, q⟩ := h
    obtain ⟨t, h1, h2⟩ := body cdv A outer s H E hr
    refine ⟨t, h1, ?_⟩
    have rep : Rep (fun a => H a = none) (fun _ => 0) G H (L2.start N vs) (envOf N ds) := start_rep hs (fun _ h => h) r
    have pu : ∀ {σ' : L2.St} {env' : DEnv} {G' H' : Hp}, Gr (fun a => H a = none) G H G' H' → Rep (fun a => H a = none) (fun _ => 0) G' H' σ' env' → Pu G H G' H' := fun g r => ⟨g.g, fun a o e => g.h a o e (some_ne e), r.sub, fun a h n => g.n a h n⟩
    cases hB : B (envOf N ds) with
    | none => simp only [hB] at hF; cases hF
    | some r1 =>
      simp only [hB] at hF
      refine h2 _ (fun _ => 0) _ _ G H r1 rep hB _ ?_
      cases r1 with
      | nx e1 =>
        cases hF
        exact fun σ' G' H' g r' => q _ G' H' (pu g r') .non
      | rt d' e1 =>
        cases hF
        exact fun v σ' G' H' g r' p => q v G' H' (pu g r') p
      | bk e1 => cases hF
      | ct e1 => cases hF
theorem Fd.imp {x : Str} {k n : Nat} {F F' : List D → Option D} (h : Fd P w K mg base x k n F) (hi : ∀ ds d, F' ds = some d → F ds = some d) : Fd P w K mg base x k n F' := by
  obtain ⟨f, fd, ps, h1, h2, h3, h4, h5⟩ := h.ex
  exact ⟨f, fd, ps, h1, h2, h3, h4, h5.imp fun vs H Q E ⟨G, ds, d, a, b, c, e, q⟩ => ⟨G, ds, d, a, b, c, hi _ _ e, q⟩⟩
theorem Fd.mono {x : Str} {j k n : Nat} {F : List D → Option D} (h : Fd P w K mg base x j n F) (hk : j ≤ k) : Fd P w K mg base x k n F := by
  obtain ⟨f, fd, ps, h1, h2, h3, h4, h5⟩ := h.ex
  exact ⟨f, fd, ps, h1, h2, h3, h4, h5.mono hk⟩
end
section
variable {X : Cx} {e : Expr} {pos : Pos}
def lenIs (n : Nat) (F : List D → Option D) : List D → Option D := fun ds => if ds.length = n then F ds else none
theorem den_call {x : Str} {k n : Nat} {p : Pos} {es : List Expr} {F : List D → Option D} {m : Mo (List D)} (h : Fd X.prog X.w X.K X.mg X.base x k n F) (hr : Room k X.A) (hg : Gl X x) (ha : DenA X (e :: es) m) (hdb : (x == ("__debug__" : Str)) = false := by decide)
    (he : starEach (e :: es) X.env = (false, eval e X.env) :: starEach es X.env := by rfl) (hpl : (backTo pos (starEach es X.env)).any (·.1) = false := by rfl) : DenE X (.Call (.Name x p) (e :: es) [] pos) (mMap (lenIs n F) m) := by
  obtain ⟨f, fd, ps, h1, h2, h3, h4, h5⟩ := h.ex
  obtain ⟨t, a1, a2⟩ := ha
  refine ⟨_, pe_call h5 hr hg h1 h2 h3 .nil pass0 a1 hdb he hpl, fun P b σ env G H d env' rr h Q q => ?_⟩
  obtain ⟨ds, hds, hF⟩ := mMap_some h
  unfold lenIs at hF
  split at hF
  · rename_i hl
    refine a2 P b σ env G H _ _ rr hds _ fun vs G' H' g r p => ?_
    show spF n F (vs ++ []) H' Q _
    rw [List.append_nil]
    exact ⟨G', ds, d, r.sub, p, hl, hF, fun v G2 H2 pu pv => q v G2 H2 (g.trans (pu.gr r.fresh)) (r.pu pu) pv⟩
  · cases hF
end
end Dn
namespace Dn
open PySem PySem.Spec PyProof.Rows L2
open Evl (Ex fresh_back)
/-- a tuple that stands, of which no more is known -/
def WkT (G : Hp) (v : V) (d : D) : Prop := ∃ (a : Addr) (xs : List V) (ds : List D), v = .ref a ∧ d = .tuple ds ∧ G a = some (.tup xs) ∧ RpAll G xs ds
def isTupE : Expr → Bool
  | .Tuple _ _ _ => true
  | _ => false
/-- what a target is given: to a tuple of targets it may be any tuple -/
def RpT (tg : Expr) (G : Hp) (v : V) (d : D) : Prop := Rp G v d ∨ (isTupE tg = true ∧ WkT G v d)
theorem RpT.of {tg : Expr} {G : Hp} {v : V} {d : D} (h : Rp G v d) : RpT tg G v d := .inl h
/-- ts: the slots it stores -/
def DenG (X : Cx) (tg : Expr) (ts : List Nat) (B : D → DEnv → Option DEnv) : Prop :=
  ∃ g : TG, PG X tg g ∧ ∀ (P : Addr → Prop) (b : Bs) (σ : L2.St) (env : DEnv) (G H : Hp) (v : V) (d : D) (env' : DEnv), Rep P b G H σ env → RpT tg G v d → B d env = some env' →
    ∀ Q : L2.St → Hp → Prop, (∀ σ' : L2.St, Rep P b G H σ' env' → σ'.length = σ.length → (∀ j : Nat, j ∉ ts → σ'[j]? = σ[j]?) → Q σ' H) → g v σ H Q
def DenGs (X : Cx) (es : List Expr) (ts : List Nat) (B : List D → DEnv → Option DEnv) : Prop :=
  ∃ g : TGs, PGs X es g ∧ ∀ (P : Addr → Prop) (b : Bs) (σ : L2.St) (env : DEnv) (G H : Hp) (v : List V) (d : List D) (env' : DEnv), Rep P b G H σ env → RpAll G v d → B d env = some env' →
    ∀ Q : L2.St → Hp → Prop, (∀ σ' : L2.St, Rep P b G H σ' env' → σ'.length = σ.length → (∀ j : Nat, j ∉ ts → σ'[j]? = σ[j]?) → Q σ' H) → g v σ H Q
def gNm (i : Nat) : D → DEnv → Option DEnv := fun d env => some (env.set i (some (SV.fz d)))
def gsNil : List D → DEnv → Option DEnv
  | [], env => some env
  | _, _ => none
def gsCons (B : D → DEnv → Option DEnv) (Bs : List D → DEnv → Option DEnv) : List D → DEnv → Option DEnv
  | d :: ds, env => (match B d env with | some e1 => Bs ds e1 | none => none)
  | _, _ => none
def gTu (n : Nat) (Bs : List D → DEnv → Option DEnv) : D → DEnv → Option DEnv
  | .tuple ds, env => if ds.length = n then Bs ds env else none
  | _, _ => none
section
variable {X : Cx} {pos : Pos}
theorem deng_name (i : Nat) {x : Str} (hN : X.N.Nodup) (hi : X.N[i]? = some x) (hx : Loc X.env.scope x) (hf : X.fn x = true ∨ X.env.scope.names.lookup x = some .local := by first | exact .inl rfl | exact .inr rfl | assumption) : DenG X (.Name x pos) [i] (gNm i) := by
  refine ⟨_, pg_name hN hi hx hf, fun P b σ env G H v d env' r rv h Q q => ?_⟩
  cases h
  have rv : Rp G v d := by
    rcases rv with rv | ⟨z, _⟩
    · exact rv
    · cases z
  refine q _ (r.set rv) (by simp) fun j hj => ?_
  rw [List.getElem?_set_ne]
  intro e
  exact hj (by simp [e])
theorem dengs_nil : DenGs X [] [] gsNil := by
  refine ⟨_, pgs_nil, fun P b σ env G H v d env' r rv h Q q => ?_⟩
  cases rv with
  | nil =>
    cases h
    exact ⟨rfl, q σ r rfl fun _ _ => rfl⟩
  | cons _ _ => cases h
theorem dengs_cons {e : Expr} {es : List Expr} {ts us : List Nat} {B : D → DEnv → Option DEnv} {Bs : List D → DEnv → Option DEnv} (h1 : DenG X e ts B) (h2 : DenGs X es us Bs)
    (hs : (assignEach (e :: es) X.env).map (·.2) = assign e X.env :: (assignEach es X.env).map (·.2) := by rfl) : DenGs X (e :: es) (ts ++ us) (gsCons B Bs) := by
  obtain ⟨g, h1, h1'⟩ := h1
  obtain ⟨u, k1, k2⟩ := h2
  refine ⟨_, pgs_cons h1 k1 hs, fun P b σ env G H v d env' r rv h Q q => ?_⟩
  cases rv with
  | nil => cases h
  | cons hv hr =>
    rename_i v vs d ds
    unfold gsCons at h
    cases w : B d env with
    | none => simp only [w] at h; cases h
    | some e1 =>
      simp only [w] at h
      refine ⟨v, vs, rfl, h1' P b σ env G H v d e1 r (.of hv) w _ fun σ1 r1 l1 o1 => k2 P b σ1 e1 G H vs ds env' r1 hr h _ fun σ2 r2 l2 o2 => q σ2 r2 (l2.trans l1) fun j hj => ?_⟩
      rw [List.mem_append, not_or] at hj
      rw [o2 j hj.2, o1 j hj.1]
theorem deng_tup {es : List Expr} {k n : Nat} {ts : List Nat} {Bs : List D → DEnv → Option DEnv} (hc : X.calm = true) (h : DenGs X es ts Bs)
    (hn : (assignEach es X.env).length = n := by rfl) (hst : (assignEach es X.env).findIdx? (·.1) = none := by rfl) : DenG X (.Tuple es k pos) ts (gTu n Bs) := by
  obtain ⟨g, h1, h2⟩ := h
  refine ⟨_, pg_tup hc h1 hn hst, fun P b σ env G H v d env' r rv h Q q => ?_⟩
  rcases rv with rv | ⟨_, a, xs, ds, rfl, rfl, ha, ra⟩
  · cases rv with
    | tup ha ra =>
      rename_i a xs ds
      simp only [gTu] at h
      split at h
      · rename_i hl
        exact ⟨a, xs, rfl, ha.sq r.sub, by rw [ra.length]; exact hl, h2 P b σ env G H xs ds env' r ra h Q q⟩
      · cases h
    | _ => cases h
  · simp only [gTu] at h
    split at h
    · rename_i hl
      exact ⟨a, xs, rfl, .of (r.sub _ _ ha), by rw [ra.length]; exact hl, h2 P b σ env G H xs ds env' r ra h Q q⟩
    · cases h
theorem dens_asg {tg e : Expr} {ts : List Nat} {B : D → DEnv → Option DEnv} {F : Mo D} (he : DenE X e F) (hg : DenG X tg ts B) (hs : swapsWithSole [tg] e pos.line X.env = pure false := by rfl) (hw : swappedStores [tg] e X.env = pure none := by rfl)
    (h1 : (assignEach [tg] X.env).map (·.2) = [assign tg X.env] := by rfl) : DenS X (.Assign [tg] e pos) (fun env => match F env with | some (d, e1) => (B d e1).map .nx | none => none) := by
  obtain ⟨t, k1, k2⟩ := he
  obtain ⟨g, g1, g2⟩ := hg
  refine ⟨_, ps_asg k1 g1 hs hw h1, fun P b σ env G H r rr h Dd q => ?_⟩
  cases w : F env with
  | none => simp only [w] at h; cases h
  | some p =>
    obtain ⟨d, e1⟩ := p
    simp only [w] at h
    cases w2 : B d e1 with
    | none => rw [w2] at h; cases h
    | some e2 =>
      rw [w2] at h
      cases h
      exact k2 P b σ env G H d e1 rr w _ fun v G' H' g r' p => g2 P b σ e1 G' H' v d e2 r' (.of p) w2 _ fun σ' r2 _ _ => q σ' G' H' g r2
end
def Yields (tg : Expr) (J : It) (G : Hp) (ds : List D) : Prop := ∀ (i : Nat) (G1 H : Hp), Ex G G1 → Ex G1 H →
  (ds.length ≤ i → J.stop i H) ∧ ∀ d, ds[i]? = some d → J.go i H ∧ ∀ x H', J.yld i H x H' → ∃ G2, Pu G1 H G2 H' ∧ RpT tg G2 x d
def DenI (X : Cx) (tg iter : Expr) (F : Mo (List D)) : Prop :=
  ∃ wi : TI, PI X tg iter wi ∧ ∀ (P : Addr → Prop) (b : Bs) (σ : L2.St) (env : DEnv) (G H : Hp) (ds : List D) (env' : DEnv), Rep P b G H σ env → F env = some (ds, env') →
    ∀ R : It → Hp → Prop, (∀ J G' H', Gr P G H G' H' → Rep P b G' H' σ env' → Yields tg J G' ds → R J H') → wi σ H R
def gLs : D → Option (List D)
  | .list xs => some xs
  | _ => none
section
variable {X : Cx} {tg e : Expr} {pos : Pos}
theorem deni_list {F : Mo D} (h : DenE X e F) : DenI X tg e (mMap gLs F) := by
  obtain ⟨t, h1, h2⟩ := h
  refine ⟨_, pi_list h1, fun P b σ env G H ds env' rr h R q => ?_⟩
  obtain ⟨z, hk, hz⟩ := mMap_some h
  refine h2 P b σ env G H z env' rr hk _ fun v G' H' g r p => ?_
  cases p with
  | lst ha ra =>
    rename_i a xs es
    cases hz
    refine ⟨a, rfl, ⟨xs, .of (r.sub _ _ ha)⟩, q _ G' H' g r fun i G1 H1 e1 e2 => ⟨fun hi => ⟨xs, .of (e2 _ _ (e1 _ _ ha)), by rw [ra.length]; exact hi⟩, fun d hd => ?_⟩⟩
    obtain ⟨v, hv, rv⟩ := ra.get hd
    refine ⟨⟨xs, v, .of (e2 _ _ (e1 _ _ ha)), hv⟩, fun x H' y => ?_⟩
    obtain ⟨rfl, y⟩ := y
    have := y xs (.of (e2 _ _ (e1 _ _ ha)))
    rw [hv] at this
    cases this
    exact ⟨G1, Pu.refl e2, .of (rv.mono e1)⟩
  | _ => cases hz
def rangeD (lo : Int) (n : Nat) : List D := (List.range n).map fun (i : Nat) => PyData.int (lo + i)
theorem rangeD_get {lo : Int} {n i : Nat} {d : D} (h : (rangeD lo n)[i]? = some d) : i < n ∧ d = .int (lo + i) := by
  unfold rangeD at h
  rw [List.getElem?_map] at h
  by_cases hi : i < n
  · rw [List.getElem?_range hi] at h
    cases h
    exact ⟨hi, rfl⟩
  · rw [List.getElem?_eq_none (by simpa using hi)] at h
    cases h
theorem rangeD_len (lo : Int) (n : Nat) : (rangeD lo n).length = n := by unfold rangeD; simp
theorem yields_range {tg : Expr} {G : Hp} (lo : Int) (n : Nat) : Yields tg (Itr lo n) G (rangeD lo n) := fun i G1 H e1 e2 =>
  ⟨fun hi => by rw [rangeD_len] at hi; exact hi, fun d hd => by
    obtain ⟨h1, rfl⟩ := rangeD_get hd
    exact ⟨h1, fun x H' y => by
      obtain ⟨rfl, rfl⟩ := y
      exact ⟨G1, Pu.refl e2, .of (.int _)⟩⟩⟩
def gRg1 : List D → Option (List D)
  | [.int j] => if -(2 ^ 62) ≤ j ∧ j < 2 ^ 62 then some (rangeD 0 j.toNat) else none
  | _ => none
def gRg2 : List D → Option (List D)
  | [.int i, .int j] => if -(2 ^ 62) ≤ i ∧ i < 2 ^ 62 ∧ -(2 ^ 62) ≤ j ∧ j < 2 ^ 62 then some (rangeD i (j - i).toNat) else none
  | _ => none
theorem RpAll.inv1 {G : Hp} {vs : List V} {d : D} (h : RpAll G vs [d]) : ∃ v, vs = [v] ∧ Rp G v d := by
  cases h with | cons a r => cases r; exact ⟨_, rfl, a⟩
theorem RpAll.inv2 {G : Hp} {vs : List V} {d e : D} (h : RpAll G vs [d, e]) : ∃ v w, vs = [v, w] ∧ Rp G v d ∧ Rp G w e := by
  cases h with | cons a r => obtain ⟨w, rfl, b⟩ := r.inv1; exact ⟨_, _, rfl, a, b⟩
theorem deni_range1 {a : Expr} {p : Pos} {F : Mo (List D)} (hg : Gl X "range") (hm : X.mg "range" = none) (ha : DenA X [a] F) (hs : starEach [a] X.env = [(false, eval a X.env)] := by rfl) : DenI X tg (.Call (.Name "range" p) [a] [] pos) (mMap gRg1 F) := by
  obtain ⟨t, h1, h2⟩ := ha
  refine ⟨_, pi_range1 hg hm h1 hs, fun P b σ env G H ds env' rr h R q => ?_⟩
  obtain ⟨z, hk, hz⟩ := mMap_some h
  refine h2 P b σ env G H z env' rr hk _ fun v G' H' g r p => ?_
  unfold gRg1 at hz
  split at hz
  · rename_i j
    split at hz
    · rename_i hj
      cases hz
      obtain ⟨w, rfl, hw⟩ := p.inv1
      exact ⟨j, by rw [hw.inv_int], hj.1, hj.2, q _ G' H' g r (yields_range 0 _)⟩
    · cases hz
  · cases hz
theorem deni_range2 {a b : Expr} {p : Pos} {F : Mo (List D)} (hg : Gl X "range") (hm : X.mg "range" = none) (ha : DenA X [a, b] F) (hs : starEach [a, b] X.env = [(false, eval a X.env), (false, eval b X.env)] := by rfl) (hs2 : starEach [b] X.env = [(false, eval b X.env)] := by rfl) :
    DenI X tg (.Call (.Name "range" p) [a, b] [] pos) (mMap gRg2 F) := by
  obtain ⟨t, h1, h2⟩ := ha
  refine ⟨_, pi_range2 hg hm h1 hs hs2, fun P b σ env G H ds env' rr h R q => ?_⟩
  obtain ⟨z, hk, hz⟩ := mMap_some h
  refine h2 P b σ env G H z env' rr hk _ fun v G' H' g r p => ?_
  unfold gRg2 at hz
  split at hz
  · rename_i i j
    split at hz
    · rename_i hj
      cases hz
      obtain ⟨w, u, rfl, hw, hu⟩ := p.inv2
      exact ⟨i, j, by rw [hw.inv_int, hu.inv_int], hj, q _ G' H' g r (yields_range i _)⟩
    · cases hz
  · cases hz
end
def forGo (tgt : D → DEnv → Option DEnv) (body : So) : List D → DEnv → Option Fl
  | [], e => some (.nx e)
  | d :: ds, e =>
    match tgt d e with
    | none => none
    | some e1 =>
      match body e1 with
      | none => none
      | some (.nx e2) => forGo tgt body ds e2
      | some (.ct e2) => forGo tgt body ds e2
      | some (.bk e2) => some (.nx e2)
      | some (.rt d e2) => some (.rt d e2)
def sFor (items : Mo (List D)) (tgt : D → DEnv → Option DEnv) (body : So) : So := fun env =>
  match items env with
  | some (ds, e1) => forGo tgt body ds e1
  | none => none
section
variable {X : Cx} {tg e iter : Expr} {pos : Pos} {body : List Stmt}
theorem dens_for {ts : List Nat} {Fi : Mo (List D)} {B : D → DEnv → Option DEnv} {Fb : So} (hp : PassesOwn (model X.prog X.w) X.A X.env X.xe) (hc : X.calm = true) (hi : DenI X tg iter Fi) (hg : DenG X tg ts B) (hb : DenSs X body Fb)
    (hs : ∀ x, foldedSetIterable iter X.env x = pure x := by intro _; rfl) : DenS X (.For tg iter body [] pos) (sFor Fi B Fb) := by
  obtain ⟨wi, i1, i2⟩ := hi
  obtain ⟨g, g1, g2⟩ := hg
  obtain ⟨tb, b1, b2⟩ := hb
  refine ⟨_, ps_for hp hc i1 g1 b1 hs, fun P b σ env G H r rr h Dd q => ?_⟩
  unfold sFor at h
  split at h
  · rename_i ds e1 hd
    refine i2 P b σ env G H ds e1 rr hd _ fun J G1 H1 gr1 r1 hy => ?_
    refine ⟨fun i m σ' H' => m = ds.length - i ∧ i ≤ ds.length ∧ ∃ e G', Gr P G1 H1 G' H' ∧ Rep P b G' H' σ' e ∧ forGo B Fb (ds.drop i) e = some r, ⟨_, rfl, Nat.zero_le _, e1, G1, Gr.refl, r1, by rw [List.drop_zero]; exact h⟩, ?_⟩
    rintro i m σ' H' ⟨rfl, hi, e, G', gr, r', hf⟩
    by_cases hlt : i < ds.length
    · have hdi : ds[i]? = some ds[i] := List.getElem?_eq_getElem hlt
      obtain ⟨go, yl⟩ := (hy i G' H' gr.g r'.sub).2 _ hdi
      refine .inr ⟨go, fun σ2 H2 => i + 1 ≤ ds.length ∧ ∃ e G2, Gr P G1 H1 G2 H2 ∧ Rep P b G2 H2 σ2 e ∧ forGo B Fb (ds.drop (i + 1)) e = some r, fun σ2 H2 h2 => ⟨ds.length - (i + 1), by omega, rfl, h2⟩, fun x H2 y => ?_⟩
      obtain ⟨G2, pu, rx⟩ := yl x H2 y
      rw [List.drop_eq_getElem_cons hlt] at hf
      unfold forGo at hf
      cases w : B ds[i] e with
      | none => simp only [w] at hf; cases hf
      | some e2 =>
        simp only [w] at hf
        have gr2 := gr.trans (pu.gr r'.fresh)
        refine g2 P b σ' e G2 H2 x _ e2 (r'.pu pu) rx w _ fun σ2 r2 _ _ => ?_
        cases w2 : Fb e2 with
        | none => simp only [w2] at hf; cases hf
        | some r3 =>
          simp only [w2] at hf
          refine b2 P b σ2 e2 G2 H2 r3 r2 w2 _ ?_
          cases r3 with
          | nx e3 => exact fun σ3 G3 H3 g3 r3 => ⟨hlt, e3, G3, gr2.trans g3, r3, hf⟩
          | ct e3 => exact fun σ3 G3 H3 g3 r3 => ⟨hlt, e3, G3, gr2.trans g3, r3, hf⟩
          | bk e3 =>
            cases hf
            exact fun σ3 G3 H3 g3 r3 => q σ3 G3 H3 ((gr1.trans gr2).trans g3) r3
          | rt d e3 =>
            cases hf
            exact fun v σ3 G3 H3 g3 r3 p => q v σ3 G3 H3 ((gr1.trans gr2).trans g3) r3 p
    · have e0 : i = ds.length := by omega
      subst e0
      rw [List.drop_length] at hf
      cases hf
      exact .inl ⟨(hy _ G' H' gr.g r'.sub).1 (Nat.le_refl _), q σ' G' H' (gr1.trans gr) r'⟩
  · cases h
end
end Dn
namespace Dn
open PySem PySem.Spec PyProof.Rows L2
open Evl (Ex fresh_back)
def wipeGo (vs : List Nat) : Nat → DEnv → DEnv
  | _, [] => []
  | k, s :: e => (if vs.contains k then none else s) :: wipeGo vs (k + 1) e
def wipeD (e : DEnv) (vs : List Nat) : DEnv := wipeGo vs 0 e
def restGo (vs : List Nat) : Nat → DEnv → DEnv → DEnv
  | k, s :: e1, t :: e2 => (if vs.contains k then s else t) :: restGo vs (k + 1) e1 e2
  | _, _, _ => []
/-- e2, the names at vs as in e1 -/
def restD (e1 e2 : DEnv) (vs : List Nat) : DEnv := restGo vs 0 e1 e2
def fzOnly : Option SV → Bool
  | some (SV.ow _ _ _) => false
  | _ => true
def okW (e : DEnv) (vs : List Nat) : Bool := vs.all fun i => fzOnly (e[i]?.getD none)
theorem wipeGo_get (vs : List Nat) : ∀ (e : DEnv) (k i : Nat), (wipeGo vs k e)[i]? = if vs.contains (k + i) then (e[i]?).map (fun _ => none) else e[i]?
  | [], k, i => by simp [wipeGo]
  | s :: e, k, 0 => by
    simp only [wipeGo, List.getElem?_cons_zero, Nat.add_zero]
    split <;> simp_all
  | s :: e, k, i + 1 => by
    simp only [wipeGo, List.getElem?_cons_succ]
    rw [wipeGo_get vs e (k + 1) i, show k + 1 + i = k + (i + 1) by omega]
theorem wipeD_get (e : DEnv) (vs : List Nat) (i : Nat) : (wipeD e vs)[i]? = if vs.contains i then (e[i]?).map (fun _ => none) else e[i]? := by
  unfold wipeD
  rw [wipeGo_get, Nat.zero_add]
theorem wipeGo_len (vs : List Nat) : ∀ (e : DEnv) (k : Nat), (wipeGo vs k e).length = e.length
  | [], _ => rfl
  | s :: e, k => by simp [wipeGo, wipeGo_len vs e (k + 1)]
theorem wipeD_len (e : DEnv) (vs : List Nat) : (wipeD e vs).length = e.length := wipeGo_len vs e 0
theorem restGo_get (vs : List Nat) : ∀ (e1 e2 : DEnv) (k i : Nat), e1.length = e2.length → (restGo vs k e1 e2)[i]? = if vs.contains (k + i) then e1[i]? else e2[i]?
  | [], [], k, i, _ => by simp [restGo]
  | s :: e1, t :: e2, k, 0, _ => by
    simp only [restGo, List.getElem?_cons_zero, Nat.add_zero]
    split <;> rfl
  | s :: e1, t :: e2, k, i + 1, h => by
    simp only [restGo, List.getElem?_cons_succ]
    rw [restGo_get vs e1 e2 (k + 1) i (by simpa using h), show k + 1 + i = k + (i + 1) by omega]
theorem restD_get (e1 e2 : DEnv) (vs : List Nat) (i : Nat) (h : e1.length = e2.length) : (restD e1 e2 vs)[i]? = if vs.contains i then e1[i]? else e2[i]? := by
  unfold restD
  rw [restGo_get _ _ _ _ _ h, Nat.zero_add]
theorem restGo_len (vs : List Nat) : ∀ (e1 e2 : DEnv) (k : Nat), e1.length = e2.length → (restGo vs k e1 e2).length = e2.length
  | [], [], _, _ => rfl
  | s :: e1, t :: e2, k, h => by simp [restGo, restGo_len vs e1 e2 (k + 1) (by simpa using h)]
theorem contains_iff {vs : List Nat} {i : Nat} : vs.contains i = true ↔ i ∈ vs := by simp
theorem wipe_in {σ : L2.St} {i : Nat} : ∀ {vs : List Nat}, i ∈ vs → i < σ.length → (wipe σ vs)[i]? = some none
  | v :: vs, hi, hl => by
    unfold wipe
    by_cases hv : v = i
    · subst hv
      rw [List.getElem?_set_self (by rw [wipe_length]; exact hl)]
    · rw [List.getElem?_set_ne hv]
      refine wipe_in ?_ hl
      rcases List.mem_cons.mp hi with e | e
      · exact absurd e.symm hv
      · exact e
theorem wipe_eq {σ σ2 : L2.St} {ts vs : List Nat} (hl : σ2.length = (wipe σ vs).length) (ho : ∀ j : Nat, j ∉ ts → σ2[j]? = (wipe σ vs)[j]?) (hs : ∀ j ∈ ts, j ∈ vs) : wipe σ2 vs = wipe σ vs := by
  rw [wipe_length] at hl
  refine List.ext_getElem? fun j => ?_
  by_cases hj : j ∈ vs
  · by_cases hlt : j < σ.length
    · rw [wipe_in hj hlt, wipe_in hj (by omega)]
    · rw [List.getElem?_eq_none (by rw [wipe_length]; omega), List.getElem?_eq_none (by rw [wipe_length]; omega)]
  · rw [wipe_out hj, ho j fun h => hj (hs j h)]
section
variable {P : Addr → Prop} {b : Bs} {G H : Hp} {σ : L2.St} {env : DEnv}
theorem wipeD_some {e : DEnv} {vs : List Nat} {i : Nat} {s : SV} (h : (wipeD e vs)[i]? = some (some s)) : i ∉ vs ∧ e[i]? = some (some s) := by
  rw [wipeD_get] at h
  split at h
  · cases w : e[i]? with
    | none => rw [w] at h; cases h
    | some z => rw [w] at h; cases h
  · rename_i hc
    exact ⟨fun m => hc (contains_iff.mpr m), h⟩
theorem Rep.wipe (r : Rep P b G H σ env) (vs : List Nat) : Rep P b G H (wipe σ vs) (wipeD env vs) := by
  obtain ⟨L, hL, hr⟩ := r.rep
  refine ⟨by rw [wipe_length, wipeD_len]; exact r.len, r.sub, r.fresh, L, hL, fun i s h => ?_⟩
  obtain ⟨hi, h⟩ := wipeD_some h
  rw [wipe_out hi]
  exact hr i s h
/-- the names as they were, the lists of one's own as they are -/
theorem Rep.back {P' : Addr → Prop} {G1 H1 : Hp} {e1 e2 : DEnv} {vs : List Nat} (r1 : Rep P b G1 H1 σ e1) (r2 : Rep P' b G H (L2.wipe σ vs) e2) (hg : Ex G1 G) (ok : okW e1 vs = true) : Rep P' b G H σ (restD e1 e2 vs) := by
  have hl : e1.length = e2.length := by
    rw [← r1.len, ← r2.len, wipe_length]
  have okv : ∀ (i : Nat) (s : SV), i ∈ vs → e1[i]? = some (some s) → ∃ d, s = .fz d := fun i s hi h => by
    have := List.all_eq_true.mp ok i hi
    rw [h] at this
    cases s with
    | fz d => exact ⟨d, rfl⟩
    | ow _ _ ds => cases this
  obtain ⟨L, hL, hr⟩ := r2.rep
  refine ⟨?_, r2.sub, r2.fresh, L, hL, fun i s h => ?_⟩
  · show σ.length = (restGo vs 0 e1 e2).length
    rw [restGo_len _ _ _ _ hl, ← hl, r1.len]
  · rw [restD_get _ _ _ _ hl] at h
    split at h
    · rename_i hc
      have hi := contains_iff.mp hc
      obtain ⟨d, rfl⟩ := okv i s hi h
      obtain ⟨v, h1, h2⟩ := r1.fz i d h
      exact ⟨v, h1, h2.mono hg⟩
    · rename_i hc
      obtain ⟨v, h1, h2⟩ := hr i s h
      rw [wipe_out (fun m => hc (contains_iff.mpr m))] at h1
      exact ⟨v, h1, h2⟩
end
def lcGo (tgt : D → DEnv → Option DEnv) (test : Mo Bool) (elt : Mo D) (vs : List Nat) : List D → DEnv → Option (List D × DEnv)
  | [], e => some ([], e)
  | d :: ds, e =>
    match tgt d e with
    | none => none
    | some e1 =>
      match test e1 with
      | none => none
      | some (k, e2) =>
        if k = true then
          match elt e2 with
          | none => none
          | some (y, e3) =>
            match lcGo tgt test elt vs ds (wipeD e3 vs) with
            | none => none
            | some (ys, e4) => some (y :: ys, e4)
        else lcGo tgt test elt vs ds (wipeD e2 vs)
def mLc (items : Mo (List D)) (tgt : D → DEnv → Option DEnv) (test : Mo Bool) (elt : Mo D) (vs : List Nat) : Mo (List D) := fun env =>
  match items env with
  | none => none
  | some (ds, e1) =>
    if decide (ds.length ≤ 100000) && okW e1 vs then
      match lcGo tgt test elt vs ds (wipeD e1 vs) with
      | none => none
      | some (ys, e2) => some (ys, restD e1 e2 vs)
    else none
def DenTs (X : Cx) (ifs : List Expr) (F : Mo Bool) : Prop :=
  ∃ t : TT, PTs X ifs t ∧ ∀ (P : Addr → Prop) (b : Bs) (σ : L2.St) (env : DEnv) (G H : Hp) (d : Bool) (env' : DEnv), Rep P b G H σ env → F env = some (d, env') →
    ∀ Q : Bool → Hp → Prop, (∀ G' H', Gr P G H G' H' → Rep P b G' H' σ env' → Q d H') → t σ H Q
theorem dents_nil {X : Cx} : DenTs X [] (mRet true) := by
  refine ⟨_, pts_nil, fun P b σ env G H d env' r h Q q => ?_⟩
  obtain ⟨rfl, rfl⟩ := mRet_some h
  exact q G H Gr.refl r
theorem dents_one {X : Cx} {c : Expr} {F : Mo Bool} (h : DenT X c F) : DenTs X [c] F := by
  obtain ⟨t, h1, h2⟩ := h
  exact ⟨_, pts_one h1, h2⟩
section
variable {X : Cx} {tg e iter elt : Expr} {pos : Pos} {ifs : List Expr} {scope : Scope}
theorem lc_run {ts vs : List Nat} {Fi : Mo (List D)} {B : D → DEnv → Option DEnv} {Ft : Mo Bool} {Fe : Mo D} {wi : TI} {g : TG} {tt : TT} {te : TE}
    (i2 : ∀ (P : Addr → Prop) (b : Bs) (σ : L2.St) (env : DEnv) (G H : Hp) (ds : List D) (env' : DEnv), Rep P b G H σ env → Fi env = some (ds, env') →
      ∀ R : It → Hp → Prop, (∀ J G' H', Gr P G H G' H' → Rep P b G' H' σ env' → Yields tg J G' ds → R J H') → wi σ H R)
    (g2 : ∀ (P : Addr → Prop) (b : Bs) (σ : L2.St) (env : DEnv) (G H : Hp) (v : V) (d : D) (env' : DEnv), Rep P b G H σ env → RpT tg G v d → B d env = some env' →
      ∀ Q : L2.St → Hp → Prop, (∀ σ' : L2.St, Rep P b G H σ' env' → σ'.length = σ.length → (∀ j : Nat, j ∉ ts → σ'[j]? = σ[j]?) → Q σ' H) → g v σ H Q)
    (t2 : ∀ (P : Addr → Prop) (b : Bs) (σ : L2.St) (env : DEnv) (G H : Hp) (d : Bool) (env' : DEnv), Rep P b G H σ env → Ft env = some (d, env') →
      ∀ Q : Bool → Hp → Prop, (∀ G' H', Gr P G H G' H' → Rep P b G' H' σ env' → Q d H') → tt σ H Q)
    (e2 : ∀ (P : Addr → Prop) (b : Bs) (σ : L2.St) (env : DEnv) (G H : Hp) (d : D) (env' : DEnv), Rep P b G H σ env → Fe env = some (d, env') →
      ∀ Q : VK, (∀ v G' H', Gr P G H G' H' → Rep P b G' H' σ env' → Rp G' v d → Q v H') → te σ H Q)
    (hts : ∀ j ∈ ts, j ∈ vs) {P : Addr → Prop} {b : Bs} {σ : L2.St} {env : DEnv} {G H : Hp} {out : List D} {env' : DEnv} (rr : Rep P b G H σ env) (h : mLc Fi B Ft Fe vs env = some (out, env')) (Q : VK)
    (q : ∀ p vs G' H', Gr P G H G' H' → Rep (fun a => P a ∧ a ≠ p) b G' H' σ env' → P p → G' p = none → H' p = some (.lst vs) → RpAll G' vs out → Q (.ref p) H') : tLc wi g tt te vs σ H Q := by
  unfold mLc at h
  cases w : Fi env with
  | none => rw [w] at h; cases h
  | some pr =>
    obtain ⟨ds, e1⟩ := pr
    simp only [w] at h
    split at h
    · rename_i hc
      rw [Bool.and_eq_true, decide_eq_true_eq] at hc
      obtain ⟨hlen, hok⟩ := hc
      cases w2 : lcGo B Ft Fe vs ds (wipeD e1 vs) with
      | none => simp only [w2] at h; cases h
      | some pr2 =>
        obtain ⟨ys, ef⟩ := pr2
        simp only [w2] at h
        cases h
        refine i2 P b σ env G H ds e1 rr w _ fun J G1 H1 gr1 r1 hy Dl hD => ?_
        have hPD : P Dl := r1.fresh Dl hD
        have hGD : G1 Dl = none := fresh_back r1.sub hD
        have start0 : Rep (fun a => P a ∧ a ≠ Dl) b G1 (upd H1 Dl (.lst [])) (wipe σ vs) (wipeD e1 vs) := (r1.wipe vs).newH hD
        have gr0 : Gr P G1 H1 G1 (upd H1 Dl (.lst [])) := ⟨Ex.refl _, fun a o ha n => by
          rw [upd_ne (ne_of_none ha hD)]
          exact ha, fun _ _ n => n⟩
        refine ⟨fun i m H' => m = ds.length - i ∧ i ≤ ds.length ∧ ∃ e G' acc accd zs, Gr P G1 H1 G' H' ∧ Rep (fun a => P a ∧ a ≠ Dl) b G' H' (wipe σ vs) e ∧ H' Dl = some (.lst acc) ∧ G' Dl = none ∧ RpAll G' acc accd ∧ acc.length ≤ i ∧
          lcGo B Ft Fe vs (ds.drop i) e = some (zs, ef) ∧ accd ++ zs = out, ⟨_, rfl, Nat.zero_le _, _, G1, [], [], out, gr0, start0, upd_same, hGD, .nil, Nat.zero_le _, by rw [List.drop_zero]; exact w2, rfl⟩, ?_⟩
        rintro i m H' ⟨rfl, hi, e, G', acc, accd, zs, gr, r', hacc, hGn, ra, hal, hf, hout⟩
        by_cases hlt : i < ds.length
        · have hdi : ds[i]? = some ds[i] := List.getElem?_eq_getElem hlt
          obtain ⟨go, yl⟩ := (hy i G' H' gr.g r'.sub).2 _ hdi
          refine .inr ⟨go, fun H2 => i + 1 ≤ ds.length ∧ ∃ e G' acc accd zs, Gr P G1 H1 G' H2 ∧ Rep (fun a => P a ∧ a ≠ Dl) b G' H2 (wipe σ vs) e ∧ H2 Dl = some (.lst acc) ∧ G' Dl = none ∧ RpAll G' acc accd ∧ acc.length ≤ i + 1 ∧
            lcGo B Ft Fe vs (ds.drop (i + 1)) e = some (zs, ef) ∧ accd ++ zs = out, fun H2 h2 => ⟨ds.length - (i + 1), by omega, rfl, h2⟩, fun x H2 y => ?_⟩
          obtain ⟨G2, pu, rx⟩ := yl x H2 y
          rw [List.drop_eq_getElem_cons hlt] at hf
          unfold lcGo at hf
          have r2 := r'.pu pu
          have nP : ¬ (P Dl ∧ Dl ≠ Dl) := fun z => z.2 rfl
          have wk : ∀ {Ga Ha Gb Hb : Hp}, Gr (fun a => P a ∧ a ≠ Dl) Ga Ha Gb Hb → Gr P Ga Ha Gb Hb := fun g => g.wk fun x h => h.1
          have grA : Gr P G1 H1 G2 H2 := gr.trans (wk (pu.gr r'.fresh))
          have accA : H2 Dl = some (.lst acc) := pu.h _ _ hacc
          have gnA : G2 Dl = none := pu.n Dl (some_ne hacc) hGn
          cases w3 : B ds[i] e with
          | none => simp only [w3] at hf; cases hf
          | some eb =>
            simp only [w3] at hf
            refine g2 _ b (wipe σ vs) e G2 H2 x _ eb r2 rx w3 _ fun σ2 r3 l3 o3 => ⟨wipe_eq l3 o3 hts, ?_⟩
            have ew : wipe σ2 vs = wipe σ vs := wipe_eq l3 o3 hts
            cases w4 : Ft eb with
            | none => simp only [w4] at hf; cases hf
            | some pr4 =>
              obtain ⟨k, et⟩ := pr4
              simp only [w4] at hf
              refine t2 _ b σ2 eb G2 H2 k et r3 w4 _ fun G3 H3 g3 r4 => ?_
              have accB : H3 Dl = some (.lst acc) := g3.h _ _ accA nP
              have gnB : G3 Dl = none := g3.n Dl nP gnA
              cases k with
              | false =>
                simp only [if_neg (show ¬ (false = true) by decide)] at hf ⊢
                refine ⟨hlt, wipeD et vs, G3, acc, accd, zs, grA.trans (wk g3), ?_, accB, gnB, (ra.mono pu.g).mono g3.g, Nat.le_succ_of_le hal, hf, hout⟩
                rw [← ew]
                exact r4.wipe vs
              | true =>
                simp only [if_pos (show true = true from rfl)] at hf ⊢
                cases w5 : Fe et with
                | none => simp only [w5] at hf; cases hf
                | some pr5 =>
                  obtain ⟨yd, ee⟩ := pr5
                  simp only [w5] at hf
                  cases w6 : lcGo B Ft Fe vs (ds.drop (i + 1)) (wipeD ee vs) with
                  | none => simp only [w6] at hf; cases hf
                  | some pr6 =>
                    obtain ⟨ys6, e6⟩ := pr6
                    simp only [w6] at hf
                    cases hf
                    refine e2 _ b σ2 et G3 H3 yd ee r4 w5 _ fun v G4 H4 g4 r5 pv => ?_
                    have accC : H4 Dl = some (.lst acc) := g4.h _ _ accB nP
                    have gnC : G4 Dl = none := g4.n Dl nP gnB
                    refine ⟨acc, accC, line_lt (by omega), hlt, wipeD ee vs, G4, acc ++ [v], accd ++ [yd], ys6, ?_, ?_, upd_same, gnC, (((ra.mono pu.g).mono g3.g).mono g4.g).append (.cons pv .nil), by rw [List.length_append]; simpa using hal, w6, by rw [List.append_assoc]; exact hout⟩
                    · have gg := (grA.trans (wk g3)).trans (wk g4)
                      exact ⟨gg.g, fun a o ha n => by
                        rw [upd_ne (show a ≠ Dl from fun z => n (by rw [z]; exact hPD))]
                        exact gg.h a o ha n, gg.n⟩
                    · rw [← ew]
                      exact (r5.wipe vs).updH nP gnC
        · have e0 : i = ds.length := by omega
          subst e0
          rw [List.drop_length] at hf
          cases hf
          rw [List.append_nil] at hout
          subst hout
          exact .inl ⟨(hy _ G' H' gr.g r'.sub).1 (Nat.le_refl _), q Dl acc G' H' (gr1.trans gr) (r1.back r' gr.g hok) hPD hGn hacc ra⟩
    · cases h
def cE (F : Mo D) : TE := fun σ H Q => ∃ (P : Addr → Prop) (b : Bs) (env : DEnv) (G : Hp) (d : D) (env' : DEnv), Rep P b G H σ env ∧ F env = some (d, env') ∧ ∀ v G' H', Gr P G H G' H' → Rep P b G' H' σ env' → Rp G' v d → Q v H'
def cTs (F : Mo Bool) : TT := fun σ H Q => ∃ (P : Addr → Prop) (b : Bs) (env : DEnv) (G : Hp) (d : Bool) (env' : DEnv), Rep P b G H σ env ∧ F env = some (d, env') ∧ ∀ G' H', Gr P G H G' H' → Rep P b G' H' σ env' → Q d H'
def cG (tg : Expr) (ts : List Nat) (B : D → DEnv → Option DEnv) : TG := fun v σ H Q => ∃ (P : Addr → Prop) (b : Bs) (env : DEnv) (G : Hp) (d : D) (env' : DEnv), Rep P b G H σ env ∧ RpT tg G v d ∧ B d env = some env' ∧
  ∀ σ' : L2.St, Rep P b G H σ' env' → σ'.length = σ.length → (∀ j : Nat, j ∉ ts → σ'[j]? = σ[j]?) → Q σ' H
theorem DenE.pe {X : Cx} {e : Expr} {F : Mo D} (h : DenE X e F) : PE X e (cE F) := by
  obtain ⟨t, h1, h2⟩ := h
  exact ⟨fun pins s σ H Q I ⟨P, b, env, G, d, env', r, hF, q⟩ => h1.run pins s σ H Q I (h2 P b σ env G H d env' r hF Q q)⟩
theorem DenTs.pe {X : Cx} {e : List Expr} {F : Mo Bool} (h : DenTs X e F) : PTs X e (cTs F) := by
  obtain ⟨t, h1, h2⟩ := h
  exact ⟨fun pins s σ H Q I ⟨P, b, env, G, d, env', r, hF, q⟩ => h1.run pins s σ H Q I (h2 P b σ env G H d env' r hF Q q)⟩
theorem DenG.pe {X : Cx} {e : Expr} {ts : List Nat} {B : D → DEnv → Option DEnv} (h : DenG X e ts B) : PG X e (cG e ts B) := by
  obtain ⟨t, h1, h2⟩ := h
  exact ⟨fun pins s σ H v u Q I rv ⟨P, b, env, G, d, env', r, hv, hB, q⟩ => h1.run pins s σ H v u Q I rv (h2 P b σ env G H v d env' r hv hB Q q)⟩
theorem cE_run {F : Mo D} {P : Addr → Prop} {b : Bs} {σ : L2.St} {env : DEnv} {G H : Hp} {d : D} {env' : DEnv} (r : Rep P b G H σ env) (h : F env = some (d, env')) (Q : VK) (q : ∀ v G' H', Gr P G H G' H' → Rep P b G' H' σ env' → Rp G' v d → Q v H') : cE F σ H Q := ⟨P, b, env, G, d, env', r, h, q⟩
theorem cTs_run {F : Mo Bool} {P : Addr → Prop} {b : Bs} {σ : L2.St} {env : DEnv} {G H : Hp} {d : Bool} {env' : DEnv} (r : Rep P b G H σ env) (h : F env = some (d, env')) (Q : Bool → Hp → Prop) (q : ∀ G' H', Gr P G H G' H' → Rep P b G' H' σ env' → Q d H') : cTs F σ H Q := ⟨P, b, env, G, d, env', r, h, q⟩
theorem cG_run {tg : Expr} {ts : List Nat} {B : D → DEnv → Option DEnv} {P : Addr → Prop} {b : Bs} {σ : L2.St} {env : DEnv} {G H : Hp} {v : V} {d : D} {env' : DEnv} (r : Rep P b G H σ env) (rv : RpT tg G v d) (h : B d env = some env') (Q : L2.St → Hp → Prop)
    (q : ∀ σ' : L2.St, Rep P b G H σ' env' → σ'.length = σ.length → (∀ j : Nat, j ∉ ts → σ'[j]? = σ[j]?) → Q σ' H) : cG tg ts B v σ H Q := ⟨P, b, env, G, d, env', r, rv, h, q⟩
/-- a comprehension: its target, tests and element are spoken of in every block that it may run in -/
theorem denn_lc (own : List (Str × Nat)) {ts vs : List Nat} {Fi : Mo (List D)} {B : D → DEnv → Option DEnv} {Ft : Mo Bool} {Fe : Mo D} (hc : X.calm = true) (hN : X.N.Nodup) (hi : DenI X tg iter Fi) (ok : BlkOk X.N X.env.scope scope own)
    (hg : ∀ (s : Shared) (H : Hp) (C : Addr) (cl : List (Str × Addr)) (fp : List Addr), DenG (X.blk s H scope (compEnvC scope cl C X.env) fp) tg ts B)
    (ht : ∀ (s : Shared) (H : Hp) (C : Addr) (cl : List (Str × Addr)) (fp : List Addr), DenTs (X.blk s H scope (compEnvC scope cl C X.env) fp) ifs Ft)
    (he : ∀ (s : Shared) (H : Hp) (C : Addr) (cl : List (Str × Addr)) (fp : List Addr), DenE (X.blk s H scope (compEnvC scope cl C X.env) fp) elt Fe)
    (hvs : own.map (·.2) = vs := by rfl) (hts : ∀ j ∈ ts, j ∈ vs := by decide) (hs : ∀ x, foldedSetIterable iter X.env x = pure x := by intro _; rfl) :
    DenN X (.ListComp elt [⟨tg, iter, ifs, 0⟩] scope pos) 1 (mMap (fun ds => some (.list ds)) (mLc Fi B Ft Fe vs)) := by
  obtain ⟨wi, i1, i2⟩ := hi
  subst hvs
  exact ⟨_, pe_lc hc hN i1 ok (fun s H C cl fp => (hg s H C cl fp).pe) (fun s H C cl fp => (ht s H C cl fp).pe) (fun s H C cl fp => (he s H C cl fp).pe) hs, fun P b σ env G H out env' rr h Q q => by
    obtain ⟨ds, hd, hz⟩ := mMap_some h
    cases hz
    exact lc_run i2 (fun P b σ env G H v d env' r rv hB Q q => cG_run r rv hB Q q) (fun P b σ env G H d env' r hF Q q => cTs_run r hF Q q) (fun P b σ env G H d env' r hF Q q => cE_run r hF Q q) hts rr hd Q fun p vs G' H' g r hP hg hh ra => q _ G' H' (fun a => a = p) g r (Tree.one hP hg hh ra)⟩
end
end Dn
namespace Dn
open PySem PySem.Spec PyProof.Rows L2
open Evl (Ex fresh_back)
open Classical in
section
variable {P : Addr → Prop} {bs : Bs} {G H : Hp} {σ : L2.St} {env : DEnv}
theorem Rep.own1 (r : Rep P bs G H σ env) {i : Nat} {io : Bool} {ds : List D} (hi : env[i]? = some (some (SV.ow io 0 (.list ds)))) :
    ∃ a vs, σ[i]? = some (some (V.ref a)) ∧ H a = some (.lst vs) ∧ RpAll G vs ds ∧ ∀ ws es, RpAll G ws es → Gr P G H G (upd H a (.lst ws)) ∧ Rep P bs G (upd H a (.lst ws)) σ (env.set i (some (.ow io 0 (.list es)))) := by
  obtain ⟨N, v, hv, t, r', hio⟩ := r.take hi
  obtain ⟨a, vs, rfl, hN, hP, hG, ha, ra⟩ := t.list1 rfl
  refine ⟨a, vs, hv, ha, ra, fun ws es rw' => ⟨⟨Ex.refl G, fun c o hc n => ?_, fun _ _ n => n⟩, ?_⟩⟩
  · rw [upd_ne (show c ≠ a from fun z => n (by rw [z]; exact hP))]
    exact hc
  · have := (r'.updH (o := .lst ws) (fun z => z.2 hN) hG).put (t.set1 rw') hv hio
    rwa [set_set_env] at this
end
def ownAt (env : DEnv) (i : Nat) : Option (Bool × List D) :=
  match env[i]? with
  | some (some (SV.ow io 0 (.list ds))) => some (io, ds)
  | _ => none
theorem ownAt_some {env : DEnv} {i : Nat} {p : Bool × List D} (h : ownAt env i = some p) : env[i]? = some (some (SV.ow p.1 0 (.list p.2))) := by
  unfold ownAt at h
  split at h
  · cases h; assumption
  · cases h
def sSetN (i k : Nat) (m : Mo D) : So := fun env =>
  match m env with
  | some (d, e1) => some (.nx (e1.set i (some (SV.ow false k d))))
  | none => none
/-- the name's list is not changed from here on -/
def sFrz (i : Nat) (F : So) : So := fun env =>
  match env[i]? with
  | some (some (SV.ow _ _ d)) => F (env.set i (some (.fz d)))
  | _ => none
def sApp (i : Nat) (m : Mo D) : So := fun env =>
  match ownAt env i with
  | none => none
  | some _ =>
    match m env with
    | some (d, e1) => (match ownAt e1 i with | some (io, ds) => if ds.length < 100000 then some (.nx (e1.set i (some (.ow io 0 (.list (ds ++ [d])))))) else none | none => none)
    | none => none
/-- x[k] = e -/
def sPut (i : Nat) (k m : Mo D) : So := fun env =>
  match m env with
  | none => none
  | some (d, e1) =>
    match ownAt e1 i with
    | none => none
    | some _ =>
      match k e1 with
      | some (.int j, e2) => (match ownAt e2 i with | some (io, ds) => (match ixN ds.length j with | some n => some (.nx (e2.set i (some (.ow io 0 (.list (ds.set n d)))))) | none => none) | none => none)
      | _ => none
section
variable {X : Cx} {e k : Expr} {pos : Pos} {x : Str}
/-- [a, b, ..] as a new list -/
theorem denn_lst {es : List Expr} {F : Mo (List D)} (h : DenA X es F) : DenN X (.List es pos) 1 (mMap gLst F) := by
  obtain ⟨t, h1, h2⟩ := h
  refine ⟨_, pe_lst h1, fun P b σ env G H d env' rr h Q q => ?_⟩
  obtain ⟨z, hk, hz⟩ := mMap_some h
  unfold gLst at hz
  split at hz
  · rename_i hl
    cases hz
    refine h2 P b σ env G H _ _ rr hk _ fun v G' H' g r p => ⟨by rw [p.length]; exact line_of hl, fun y hy => ?_⟩
    have hPy := r.fresh y hy
    exact q (.ref y) G' (upd H' y (.lst v)) (fun a => a = y) ⟨g.g, fun a o ha n => by
      rw [upd_ne (show a ≠ y from fun z => n (by rw [z]; exact hPy))]
      exact g.h a o ha n, g.n⟩ (r.newH hy) (Tree.one hPy (fresh_back r.sub hy) upd_same p)
  · cases hz
/-- an operation, a call that makes a new list -/
theorem dens_setN (i k : Nat) {pos' : Pos} {F : Mo D} (hN : X.N.Nodup) (hi : X.N[i]? = some x) (hx : Loc X.env.scope x) (he : DenN X e (k + 1) F) (hs : swapsWith e (some (.Name x pos')) pos.line X.env = pure false := by rfl)
    (hf : X.fn x = true ∨ X.env.scope.names.lookup x = some .local := by first | exact .inl rfl | exact .inr rfl | assumption) : DenS X (.Assign [.Name x pos'] e pos) (sSetN i k F) := by
  obtain ⟨t, h1, h2⟩ := he
  refine ⟨_, ps_set hN hi hx h1 hs hf, fun P b σ env G H r rr h Dd q => ?_⟩
  unfold sSetN at h
  split at h
  · rename_i d e1 hd
    cases h
    exact h2 P b σ env G H d e1 rr hd _ fun v G' H' N g r' t => q _ G' H' g (r'.ownNew t i)
  · cases h
theorem denss_frz (i : Nat) {st : List Stmt} {F : So} (h : DenSs X st F) : DenSs X st (sFrz i F) := by
  obtain ⟨t, h1, h2⟩ := h
  refine ⟨_, h1, fun P b σ env G H r rr h Dd q => ?_⟩
  unfold sFrz at h
  split at h
  · rename_i io k d hd
    obtain ⟨G', g, s, n, r'⟩ := rr.ownKnow hd
    exact h2 P b σ _ G' H r r' h Dd (q.gr ⟨g, fun _ _ h _ => h, n⟩)
  · cases h
theorem dens_app (i : Nat) {F : Mo D} {p1 p2 p3 : Pos} (hi : X.N[i]? = some x) (hv : Vis X.env.scope x) (he : DenE X e F) (hd : (x == ("__debug__" : Str)) = false := by decide) (hcd : (x == ("__classdict__" : Str)) = false := by decide)
    (hs : swapsWith (.Call (.Attribute (.Name x p1) "append" p2) [e] [] p3) none pos.line X.env = pure false := by rfl)
    (hbase : attributeBase (.Name x p1) "append" X.env (eval (.Name x p1) X.env) = eval (.Name x p1) X.env := by rfl)
    (hfew : ((backTo p3 (starEach [e] X.env)).all (fun x => !x.1) && (backToKw p3 (keywordEach [] X.env)).all (fun x => x.1.isSome)
      && decide ([e].length + ([] : List Keyword).length + (if ([] : List Keyword).isEmpty then 0 else 1) < 30)) = true := by rfl)
    (hline : (p2.endLine == p3.line) = true := by rfl) (hst : starEach [e] X.env = (false, eval e X.env) :: starEach [] X.env := by rfl) (hplain : (backTo p3 (starEach [] X.env)).any (·.1) = false := by rfl) :
    DenS X (.Expr (.Call (.Attribute (.Name x p1) "append" p2) [e] [] p3) pos) (sApp i F) := by
  obtain ⟨t, h1, h2⟩ := he
  refine ⟨_, ps_expr (pe_bm PySem.F.plainAttrs_list PySem.F.slot_list_append PySem.F.type_list_append mt_append (pe_var hi hv hd hcd) (pa_cons h1 pa_nil hst) hbase hfew hline hst hplain) hs, fun P b σ env G H r rr h Dd q => ?_⟩
  unfold sApp at h
  cases w0 : ownAt env i with
  | none => simp only [w0] at h; cases h
  | some ds0 =>
    simp only [w0] at h
    obtain ⟨a, vs0, ha, hh0, _⟩ := rr.own1 (ownAt_some w0)
    cases w : F env with
    | none => rw [w] at h; cases h
    | some pr =>
      obtain ⟨d, e1⟩ := pr
      simp only [w] at h
      cases w2 : ownAt e1 i with
      | none => simp only [w2] at h; cases h
      | some ds =>
        obtain ⟨io, ds⟩ := ds
        simp only [w2] at h
        split at h
        · rename_i hl
          cases h
          refine ⟨_, ha, .inl ⟨rfl, _, .of hh0⟩, h2 P b σ env G H d e1 rr w _ fun v G' H' g r' p => ?_⟩
          obtain ⟨a', vs, ha', hh, ra, fin⟩ := r'.own1 (ownAt_some w2)
          rw [ha] at ha'
          cases ha'
          obtain ⟨g2, r2⟩ := fin (vs ++ [v]) (ds ++ [d]) (ra.append (.cons p .nil))
          exact ⟨a, vs, v, rfl, rfl, hh, by rw [ra.length]; exact line_lt hl, q σ G' _ (g.trans g2) r2⟩
        · cases h
theorem dens_put (i : Nat) {F Fk : Mo D} {p1 p2 : Pos} (hi : X.N[i]? = some x) (hv : Vis X.env.scope x) (he : DenE X e F) (hk : DenE X k Fk) (hd : (x == ("__debug__" : Str)) = false := by decide) (hcd : (x == ("__classdict__" : Str)) = false := by decide)
    (hs : swapsWithSole [.Subscript (.Name x p1) k p2] e pos.line X.env = pure false := by rfl) (hw : swappedStores [.Subscript (.Name x p1) k p2] e X.env = pure none := by rfl)
    (h1 : (assignEach [.Subscript (.Name x p1) k p2] X.env).map (·.2) = [assign (.Subscript (.Name x p1) k p2) X.env] := by rfl)
    (ha : ∀ v, assign (.Subscript (.Name x p1) k p2) X.env v = (do
      let ov ← holding [v] (eval (.Name x p1) X.env)
      let iv ← holding [v, ov] (eval k X.env)
      standAt p2
      holding [v, ov, iv] (setItem ov iv v)
      release [v, ov, iv] []) := by intro _; rfl) :
    DenS X (.Assign [.Subscript (.Name x p1) k p2] e pos) (sPut i Fk F) := by
  obtain ⟨t, h1', h2⟩ := he
  obtain ⟨u, k1, k2⟩ := hk
  refine ⟨_, ps_asg h1' (pg_sub (pe_var hi hv hd hcd) k1 set_list ha) hs hw h1, fun P b σ env G H r rr h Dd q => ?_⟩
  unfold sPut at h
  cases w : F env with
  | none => rw [w] at h; cases h
  | some pr =>
    obtain ⟨d, e1⟩ := pr
    simp only [w] at h
    cases w0 : ownAt e1 i with
    | none => simp only [w0] at h; cases h
    | some ds0 =>
      simp only [w0] at h
      cases w2 : Fk e1 with
      | none => simp only [w2] at h; cases h
      | some pr2 =>
        obtain ⟨kd, e2⟩ := pr2
        cases kd with
        | int j =>
          simp only [w2] at h
          cases w3 : ownAt e2 i with
          | none => simp only [w3] at h; cases h
          | some ds =>
            obtain ⟨io, ds⟩ := ds
            simp only [w3] at h
            cases w4 : ixN ds.length j with
            | none => simp only [w4] at h; cases h
            | some n =>
              simp only [w4] at h
              cases h
              refine h2 P b σ env G H d e1 rr w _ fun v G1 H1 g1 r1 p1 => ?_
              obtain ⟨a, vs0, ha0, hh0, _⟩ := r1.own1 (ownAt_some w0)
              refine ⟨_, ha0, k2 P b σ e1 G1 H1 _ e2 r1 w2 _ fun kv G2 H2 g2 r2 p2 => ?_⟩
              obtain ⟨a', vs, ha', hh, ra, fin⟩ := r2.own1 (ownAt_some w3)
              rw [ha0] at ha'
              cases ha'
              obtain ⟨g3, r3⟩ := fin (vs.set n v) (ds.set n d) (ra.set (p1.mono g2.g) n)
              exact ⟨a, vs, j, n, rfl, p2.inv_int, hh, by rw [ra.length]; exact w4, q σ G2 _ ((g1.trans g2).trans g3) r3⟩
        | _ => simp only [w2] at h; cases h
end
end Dn
namespace Dn
open PySem PySem.Spec PyProof.Rows L2
open Evl (Ex fresh_back)
def gLen : List D → Option D
  | [.list xs] => some (.int xs.length)
  | [.tuple xs] => some (.int xs.length)
  | _ => none
def gMax2 : List D → Option D
  | [.int i, .int j] => some (.int (if j > i then j else i))
  | _ => none
def gMin2 : List D → Option D
  | [.int i, .int j] => some (.int (if j < i then j else i))
  | _ => none
/-- a list of ints, of truths -/
def intsOf : List D → Option (List Int)
  | [] => some []
  | .int i :: ds => (intsOf ds).map (i :: ·)
  | _ :: _ => none
def blsOf : List D → Option (List Bool)
  | [] => some []
  | .bool i :: ds => (blsOf ds).map (i :: ·)
  | _ :: _ => none
theorem intsOf_some : ∀ {ds : List D} {ns : List Int}, intsOf ds = some ns → ds = ns.map PyData.int
  | [], ns, h => by cases h; rfl
  | d :: ds, ns, h => by
    cases d with
    | int i =>
      simp only [intsOf] at h
      cases w : intsOf ds with
      | none => rw [w] at h; cases h
      | some ms =>
        rw [w] at h
        cases h
        rw [intsOf_some w]
        rfl
    | _ => simp only [intsOf] at h; cases h
theorem blsOf_some : ∀ {ds : List D} {ns : List Bool}, blsOf ds = some ns → ds = ns.map PyData.bool
  | [], ns, h => by cases h; rfl
  | d :: ds, ns, h => by
    cases d with
    | bool i =>
      simp only [blsOf] at h
      cases w : blsOf ds with
      | none => rw [w] at h; cases h
      | some ms =>
        rw [w] at h
        cases h
        rw [blsOf_some w]
        rfl
    | _ => simp only [blsOf] at h; cases h
theorem RpAll.ints {G : Hp} : ∀ {ns : List Int} {vs : List V}, RpAll G vs (ns.map PyData.int) → vs = ns.map V.int
  | [], vs, h => by cases h; rfl
  | n :: ns, vs, h => by
    cases h with
    | cons a r => rw [a.inv_int, RpAll.ints r]; rfl
theorem RpAll.ofInts {G : Hp} : ∀ (ns : List Int), RpAll G (ns.map V.int) (ns.map PyData.int)
  | [] => .nil
  | n :: ns => .cons (.int n) (RpAll.ofInts ns)
theorem RpAll.bls {G : Hp} : ∀ {ns : List Bool} {vs : List V}, RpAll G vs (ns.map PyData.bool) → vs = ns.map V.bl
  | [], vs, h => by cases h; rfl
  | n :: ns, vs, h => by
    cases h with
    | cons a r => rw [a.inv_bl, RpAll.bls r]; rfl
def gSum : List D → Option D
  | [.list xs] => (intsOf xs).map fun ns => .int ns.sum
  | _ => none
def gAll : List D → Option D
  | [.list xs] => (blsOf xs).map fun bs => .bool (bs.all id)
  | _ => none
def gTuple : List D → Option D
  | [.list xs] => some (.tuple xs)
  | [.tuple xs] => some (.tuple xs)
  | _ => none
def gList : List D → Option D
  | [.list xs] => some (.list xs)
  | [.tuple xs] => some (.list xs)
  | _ => none
/-- the greatest, the least of some numbers -/
def lmax : List Int → Int
  | [] => 0
  | [x] => x
  | x :: xs => max x (lmax xs)
def lmin : List Int → Int
  | [] => 0
  | [x] => x
  | x :: xs => min x (lmin xs)
theorem lmax_spec : ∀ {ns : List Int}, ns ≠ [] → lmax ns ∈ ns ∧ ∀ y ∈ ns, y ≤ lmax ns
  | [x], _ => ⟨by simp [lmax], fun y hy => by simp at hy; simp [lmax, hy]⟩
  | x :: y :: r, _ => by
    have ih := lmax_spec (ns := y :: r) (by simp)
    have e : lmax (x :: y :: r) = max x (lmax (y :: r)) := rfl
    rw [e]
    refine ⟨?_, fun z hz => ?_⟩
    · by_cases h : x ≤ lmax (y :: r)
      · rw [Int.max_eq_right h]; exact List.mem_cons_of_mem _ ih.1
      · rw [Int.max_eq_left (by omega)]; exact List.mem_cons_self
    · rcases List.mem_cons.mp hz with e | e
      · rw [e]; exact Int.le_max_left _ _
      · exact Int.le_trans (ih.2 z e) (Int.le_max_right _ _)
theorem lmin_spec : ∀ {ns : List Int}, ns ≠ [] → lmin ns ∈ ns ∧ ∀ y ∈ ns, lmin ns ≤ y
  | [x], _ => ⟨by simp [lmin], fun y hy => by simp at hy; simp [lmin, hy]⟩
  | x :: y :: r, _ => by
    have ih := lmin_spec (ns := y :: r) (by simp)
    have e : lmin (x :: y :: r) = min x (lmin (y :: r)) := rfl
    rw [e]
    refine ⟨?_, fun z hz => ?_⟩
    · by_cases h : x ≤ lmin (y :: r)
      · rw [Int.min_eq_left h]; exact List.mem_cons_self
      · rw [Int.min_eq_right (by omega)]; exact List.mem_cons_of_mem _ ih.1
    · rcases List.mem_cons.mp hz with e | e
      · rw [e]; exact Int.min_le_left _ _
      · exact Int.le_trans (Int.min_le_right _ _) (ih.2 z e)
def gMaxL : List D → Option D
  | [.list xs] => (intsOf xs).bind fun ns => if ns = [] then none else some (.int (lmax ns))
  | _ => none
def gMinL : List D → Option D
  | [.list xs] => (intsOf xs).bind fun ns => if ns = [] then none else some (.int (lmin ns))
  | _ => none
/-- insertion -/
def ins (x : Int) : List Int → List Int
  | [] => [x]
  | y :: ys => if x ≤ y then x :: y :: ys else y :: ins x ys
def isort : List Int → List Int
  | [] => []
  | x :: xs => ins x (isort xs)
theorem ins_perm (x : Int) : ∀ ys : List Int, (ins x ys).Perm (x :: ys)
  | [] => .refl _
  | y :: ys => by
    unfold ins
    split
    · exact .refl _
    · exact ((ins_perm x ys).cons y).trans (.swap x y ys)
theorem isort_perm : ∀ ys : List Int, (isort ys).Perm ys
  | [] => .refl _
  | y :: ys => (ins_perm y (isort ys)).trans ((isort_perm ys).cons y)
theorem ins_sorted (x : Int) : ∀ ys : List Int, ys.Pairwise (· ≤ ·) → (ins x ys).Pairwise (· ≤ ·)
  | [], _ => by simp [ins]
  | y :: ys, h => by
    unfold ins
    rw [List.pairwise_cons] at h
    split
    · rename_i hx
      rw [List.pairwise_cons]
      refine ⟨fun z hz => ?_, List.pairwise_cons.mpr h⟩
      rcases List.mem_cons.mp hz with e | e
      · rw [e]; exact hx
      · exact Int.le_trans hx (h.1 z e)
    · rename_i hx
      rw [List.pairwise_cons]
      refine ⟨fun z hz => ?_, ins_sorted x ys h.2⟩
      rcases List.mem_cons.mp ((ins_perm x ys).mem_iff.mp hz) with e | e
      · rw [e]; omega
      · exact h.1 z e
theorem isort_sorted : ∀ ys : List Int, (isort ys).Pairwise (· ≤ ·)
  | [] => .nil
  | y :: ys => ins_sorted y _ (isort_sorted ys)
theorem sorted_uniq : ∀ {l m : List Int}, l.Perm m → l.Pairwise (· ≤ ·) → m.Pairwise (· ≤ ·) → l = m
  | [], m, p, _, _ => (List.nil_perm.mp p).symm
  | x :: l, m, p, h1, h2 => by
    cases m with
    | nil => exact absurd (List.perm_nil.mp p) (by simp)
    | cons y m =>
      rw [List.pairwise_cons] at h1 h2
      have e : x = y := by
        have hx : x ∈ y :: m := p.mem_iff.mp List.mem_cons_self
        have hy : y ∈ x :: l := p.mem_iff.mpr List.mem_cons_self
        rcases List.mem_cons.mp hx with e | e
        · exact e
        · rcases List.mem_cons.mp hy with e' | e'
          · exact e'.symm
          · exact Int.le_antisymm (h1.1 y e') (h2.1 x e)
      subst e
      rw [sorted_uniq (List.Perm.cons_inv p) h1.2 h2.2]
section
variable {X : Cx}
theorem callD_len : CallD X (.builtin "len") gLen := by
  refine ⟨_, call_len_seq, fun G H vs ds z s r hg Q q => ?_⟩
  unfold gLen at hg
  split at hg
  · cases hg
    obtain ⟨v, rfl, h⟩ := r.inv1
    obtain ⟨a, ws, rfl, ha, ra⟩ := h.inv_list
    exact ⟨a, ws, rfl, .inl (.of (s _ _ ha)), by rw [ra.length]; exact q _ G H (Pu.refl s) (.int _)⟩
  · cases hg
    obtain ⟨v, rfl, h⟩ := r.inv1
    obtain ⟨a, ws, rfl, ha, ra⟩ := h.inv_tup
    exact ⟨a, ws, rfl, .inr (ha.sq s), by rw [ra.length]; exact q _ G H (Pu.refl s) (.int _)⟩
  · cases hg
theorem callD_max2 (hc : X.calm = true) : CallD X (.builtin "max") gMax2 := by
  refine ⟨_, call_max2 hc, fun G H vs ds z s r hg Q q => ?_⟩
  unfold gMax2 at hg
  split at hg
  · rename_i i j
    cases hg
    obtain ⟨v, w, rfl, h1, h2⟩ := r.inv2
    exact ⟨i, j, by rw [h1.inv_int, h2.inv_int], q _ G H (Pu.refl s) (.int _)⟩
  · cases hg
theorem callD_min2 (hc : X.calm = true) : CallD X (.builtin "min") gMin2 := by
  refine ⟨_, call_min2 hc, fun G H vs ds z s r hg Q q => ?_⟩
  unfold gMin2 at hg
  split at hg
  · rename_i i j
    cases hg
    obtain ⟨v, w, rfl, h1, h2⟩ := r.inv2
    exact ⟨i, j, by rw [h1.inv_int, h2.inv_int], q _ G H (Pu.refl s) (.int _)⟩
  · cases hg
theorem ints_in {G H : Hp} {vs : List V} {xs : List D} {ns : List Int} (s : Ex G H) (r : RpAll G vs [.list xs]) (h : intsOf xs = some ns) : ∃ a, vs = [.ref a] ∧ H a = some (.lst (ns.map V.int)) := by
  obtain ⟨v, rfl, h1⟩ := r.inv1
  obtain ⟨a, ws, rfl, ha, ra⟩ := h1.inv_list
  have := intsOf_some h
  subst this
  have := ra.ints
  subst this
  exact ⟨a, rfl, s _ _ ha⟩
theorem bls_in {G H : Hp} {vs : List V} {xs : List D} {ns : List Bool} (s : Ex G H) (r : RpAll G vs [.list xs]) (h : blsOf xs = some ns) : ∃ a, vs = [.ref a] ∧ H a = some (.lst (ns.map V.bl)) := by
  obtain ⟨v, rfl, h1⟩ := r.inv1
  obtain ⟨a, ws, rfl, ha, ra⟩ := h1.inv_list
  have := blsOf_some h
  subst this
  have := ra.bls
  subst this
  exact ⟨a, rfl, s _ _ ha⟩
theorem callD_sum (hc : X.calm = true) : CallD X (.builtin "sum") gSum := by
  refine ⟨_, cr_sum hc, fun G H vs ds z s r hg Q q => ?_⟩
  unfold gSum at hg
  split at hg
  · rename_i xs
    cases w : intsOf xs with
    | none => rw [w] at hg; cases hg
    | some ns =>
      rw [w] at hg
      cases hg
      obtain ⟨a, rfl, ha⟩ := ints_in s r w
      exact ⟨a, ns, rfl, .of ha, q _ G H (Pu.refl s) (.int _)⟩
  · cases hg
theorem callD_all (hc : X.calm = true) : CallD X (.builtin "all") gAll := by
  refine ⟨_, cr_all hc, fun G H vs ds z s r hg Q q => ?_⟩
  unfold gAll at hg
  split at hg
  · rename_i xs
    cases w : blsOf xs with
    | none => rw [w] at hg; cases hg
    | some ns =>
      rw [w] at hg
      cases hg
      obtain ⟨a, rfl, ha⟩ := bls_in s r w
      exact ⟨a, ns, rfl, .of ha, q _ G H (Pu.refl s) (.bl _)⟩
  · cases hg
theorem callD_maxL (hc : X.calm = true) : CallD X (.builtin "max") gMaxL := by
  refine ⟨_, cr_max hc, fun G H vs ds z s r hg Q q => ?_⟩
  unfold gMaxL at hg
  split at hg
  · rename_i xs
    cases w : intsOf xs with
    | none => rw [w] at hg; cases hg
    | some ns =>
      simp only [w, Option.bind_some] at hg
      split at hg
      · cases hg
      · rename_i hne
        cases hg
        obtain ⟨a, rfl, ha⟩ := ints_in s r w
        refine ⟨a, ns, rfl, .of ha, List.length_pos_iff.mpr hne, fun m h1 h2 => ?_⟩
        have h3 := lmax_spec hne
        have e : m = lmax ns := Int.le_antisymm (h3.2 m h1) (h2 _ h3.1)
        rw [e]
        exact q _ G H (Pu.refl s) (.int _)
  · cases hg
theorem callD_minL (hc : X.calm = true) : CallD X (.builtin "min") gMinL := by
  refine ⟨_, cr_min hc, fun G H vs ds z s r hg Q q => ?_⟩
  unfold gMinL at hg
  split at hg
  · rename_i xs
    cases w : intsOf xs with
    | none => rw [w] at hg; cases hg
    | some ns =>
      simp only [w, Option.bind_some] at hg
      split at hg
      · cases hg
      · rename_i hne
        cases hg
        obtain ⟨a, rfl, ha⟩ := ints_in s r w
        refine ⟨a, ns, rfl, .of ha, List.length_pos_iff.mpr hne, fun m h1 h2 => ?_⟩
        have h3 := lmin_spec hne
        have e : m = lmin ns := Int.le_antisymm (h2 _ h3.1) (h3.2 m h1)
        rw [e]
        exact q _ G H (Pu.refl s) (.int _)
  · cases hg
theorem callD_tuple : CallD X (.type "tuple") gTuple := by
  refine ⟨_, call_tupleS, fun G H vs ds z s r hg Q q => ?_⟩
  unfold gTuple at hg
  split at hg
  · cases hg
    obtain ⟨v, rfl, h⟩ := r.inv1
    obtain ⟨a, ws, rfl, ha, ra⟩ := h.inv_list
    exact ⟨a, ws, rfl, .inl ⟨.of (s _ _ ha), fun p o hp ho => fin_new s q hp fun ex => .tup (.new ho) (ra.mono ex)⟩⟩
  · cases hg
    obtain ⟨v, rfl, h⟩ := r.inv1
    obtain ⟨a, ws, rfl, ha, ra⟩ := h.inv_tup
    exact ⟨a, ws, rfl, .inr ⟨ha.sq s, q _ G H (Pu.refl s) (.tup ha ra)⟩⟩
  · cases hg
end
end Dn
namespace Dn
open PySem PySem.Spec PyProof.Rows L2
open Evl (Ex fresh_back)
/-- a list or a tuple walked -/
def gSeq : D → Option (List D)
  | .list xs => some xs
  | .tuple xs => some xs
  | _ => none
/-- x op= e -/
def sAug (i : Nat) (g : D → D → Option D) (m : Mo D) : So := fun env =>
  match env[i]? with
  | some (some (SV.fz x)) =>
    (match m env with
    | some (y, e1) => (match g x y with | some z => some (.nx (e1.set i (some (.fz z)))) | none => none)
    | none => none)
  | _ => none
/-- x, y = a, b -/
def sPar (i j : Nat) (m : Mo (List D)) : So := fun env =>
  match m env with
  | some ([a, b], e1) => some (.nx ((e1.set i (some (.fz a))).set j (some (.fz b))))
  | _ => none
section
variable {X : Cx} {a b e tg iter elt : Expr} {pos : Pos} {x : Str}
theorem deni_seq {F : Mo D} (h : DenE X e F) : DenI X tg e (mMap gSeq F) := by
  obtain ⟨t, h1, h2⟩ := h
  have hl := pi_list (tg := tg) h1
  have ht := pi_tup (tg := tg) h1
  refine ⟨fun σ H R => iList X.K t σ H R ∨ iTup X.K t σ H R, ⟨fun pins s σ H R I hw => hw.elim (hl.run pins s σ H R I) (ht.run pins s σ H R I)⟩, fun P b σ env G H ds env' rr h R q => ?_⟩
  obtain ⟨z, hk, hz⟩ := mMap_some h
  cases z with
  | list xs =>
    cases hz
    obtain ⟨_, _, k⟩ := deni_list (tg := tg) ⟨t, h1, h2⟩
    left
    refine h2 P b σ env G H _ env' rr hk _ fun v G' H' g r p => ?_
    obtain ⟨a, vs, rfl, ha, ra⟩ := p.inv_list
    refine ⟨a, rfl, ⟨vs, .of (r.sub _ _ ha)⟩, q _ G' H' g r fun i G1 H1 e1 e2 => ⟨fun hi => ⟨vs, .of (e2 _ _ (e1 _ _ ha)), by rw [ra.length]; exact hi⟩, fun d hd => ?_⟩⟩
    obtain ⟨v, hv, rv⟩ := ra.get hd
    refine ⟨⟨vs, v, .of (e2 _ _ (e1 _ _ ha)), hv⟩, fun x H' y => ?_⟩
    obtain ⟨rfl, y⟩ := y
    have := y vs (.of (e2 _ _ (e1 _ _ ha)))
    rw [hv] at this
    cases this
    exact ⟨G1, Pu.refl e2, .of (rv.mono e1)⟩
  | tuple xs =>
    cases hz
    right
    refine h2 P b σ env G H _ env' rr hk _ fun v G' H' g r p => ?_
    obtain ⟨a, vs, rfl, ha, ra⟩ := p.inv_tup
    refine ⟨a, rfl, ⟨vs, ha.sq r.sub⟩, q _ G' H' g r fun i G1 H1 e1 e2 => ⟨fun hi => ⟨vs, (ha.mono e1).sq e2, by rw [ra.length]; exact hi⟩, fun d hd => ?_⟩⟩
    obtain ⟨v, hv, rv⟩ := ra.get hd
    refine ⟨⟨vs, v, (ha.mono e1).sq e2, hv⟩, fun x H' y => ?_⟩
    obtain ⟨rfl, y⟩ := y
    have := y vs ((ha.mono e1).sq e2)
    rw [hv] at this
    cases this
    exact ⟨G1, Pu.refl e2, .of (rv.mono e1)⟩
  | _ => cases hz
theorem dens_aug (i : Nat) {op : Operator} {g : D → D → Option D} {F : Mo D} {pos' : Pos} (ho : OpD X (inplaceOp op) g) (hN : X.N.Nodup) (hi : X.N[i]? = some x) (hx : Loc X.env.scope x) (he : DenE X e F)
    (hf : X.fn x = true ∨ X.env.scope.names.lookup x = some .local := by first | exact .inl rfl | exact .inr rfl | assumption) : DenS X (.AugAssign (.Name x pos') op e pos) (sAug i g F) := by
  obtain ⟨t, h1, h2⟩ := he
  obtain ⟨r, o1, o2⟩ := ho
  refine ⟨_, ps_aug hN hi hx h1 (ti := r) (fun pins s σ H x y v u Q I rx ry q => o1 pins s σ H x y v u Q I rx ry q) hf, fun P b σ env G H r rr h Dd q => ?_⟩
  unfold sAug at h
  split at h
  · rename_i d hd
    cases w : F env with
    | none => rw [w] at h; cases h
    | some pr =>
      obtain ⟨y, e1⟩ := pr
      simp only [w] at h
      cases w2 : g d y with
      | none => simp only [w2] at h; cases h
      | some z =>
        simp only [w2] at h
        cases h
        obtain ⟨v, k1, k2⟩ := rr.fz i d hd
        exact ⟨v, k1, h2 P b σ env G H y e1 rr w _ fun u G' H' g r' p => o2 G' H' v u d y z r'.sub (k2.mono g.g) p w2 _ fun zv G2 H2 pu pz => q _ G2 H2 (g.trans (pu.gr r'.fresh)) ((r'.pu pu).set pz)⟩
  · cases h
theorem dens_par (i j : Nat) {y : Str} {F : Mo (List D)} {px py pt pt2 : Pos} {kt k2 : Nat} (hc : X.calm = true) (hN : X.N.Nodup) (hi : X.N[i]? = some x) (hj : X.N[j]? = some y) (hij : i ≠ j)
    (hx : X.env.scope.names.lookup x = some .local) (hy : X.env.scope.names.lookup y = some .local) (ha : DenA X [a, b] F)
    (hw : swappedStores [.Tuple [.Name x px, .Name y py] kt pt] (.Tuple [a, b] k2 pt2) X.env = pure (some [x, y]) := by rfl)
    (hs : swapsWithSole [.Tuple [.Name x px, .Name y py] kt pt] (.Tuple [a, b] k2 pt2) pos.line X.env = pure false := by rfl) :
    DenS X (.Assign [.Tuple [.Name x px, .Name y py] kt pt] (.Tuple [a, b] k2 pt2) pos) (sPar i j F) := by
  obtain ⟨t, h1, h2⟩ := ha
  refine ⟨_, ps_par hc hN hi hj hij hx hy h1 hw hs, fun P b σ env G H r rr h Dd q => ?_⟩
  unfold sPar at h
  split at h
  · rename_i u v e1 hd
    cases h
    refine h2 P b σ env G H _ e1 rr hd _ fun vs G' H' g r' p => ?_
    obtain ⟨v1, v2, rfl, p1, p2⟩ := p.inv2
    exact ⟨v1, v2, rfl, q _ G' H' g ((r'.set p1).set p2)⟩
  · cases h
theorem dens_setLc (i : Nat) {y : Str} {py spos : Pos} {ifs : List Expr} {scope : Scope} (own : List (Str × Nat)) {ts vs : List Nat} {Fi : Mo (List D)} {B : D → DEnv → Option DEnv} {Ft : Mo Bool} {Fe : Mo D} (hc : X.calm = true) (hN : X.N.Nodup) (hy : X.N[i]? = some y) (hyl : X.env.scope.names.lookup y = some .local)
    (hsw : swapsWith (.ListComp elt [⟨tg, iter, ifs, 0⟩] scope pos) (some (.Name y py)) spos.line X.env = pure true) (hi : DenI X tg iter Fi) (ok : BlkOk X.N X.env.scope scope own)
    (hg : ∀ (s : Shared) (H : Hp) (C : Addr) (cl : List (Str × Addr)) (fp : List Addr), DenG (X.blk s H scope (compEnvC scope cl C X.env) fp) tg ts B)
    (ht : ∀ (s : Shared) (H : Hp) (C : Addr) (cl : List (Str × Addr)) (fp : List Addr), DenTs (X.blk s H scope (compEnvC scope cl C X.env) fp) ifs Ft)
    (he : ∀ (s : Shared) (H : Hp) (C : Addr) (cl : List (Str × Addr)) (fp : List Addr), DenE (X.blk s H scope (compEnvC scope cl C X.env) fp) elt Fe)
    (hvs : own.map (·.2) = vs := by rfl) (hts : ∀ j ∈ ts, j ∈ vs := by decide) (hs : ∀ x, foldedSetIterable iter X.env x = pure x := by intro _; rfl) :
    DenS X (.Assign [.Name y py] (.ListComp elt [⟨tg, iter, ifs, 0⟩] scope pos) spos) (sSet i (mMap (fun ds => some (.list ds)) (mLc Fi B Ft Fe vs))) := by
  obtain ⟨wi, i1, i2⟩ := hi
  subst hvs
  have base := ps_setLc hc hN hy hyl hsw i1 ok (fun s H C cl fp => (hg s H C cl fp).pe) (fun s H C cl fp => (ht s H C cl fp).pe) (fun s H C cl fp => (he s H C cl fp).pe) hs
  refine ⟨_, base, fun P b σ env G H r rr h Dd q => ?_⟩
  unfold sSet at h
  split at h
  · rename_i d e1 hd
    cases h
    obtain ⟨ds, hds, hz⟩ := mMap_some hd
    cases hz
    refine lc_run i2 (fun P b σ env G H v d env' r rv hB Q q => cG_run r rv hB Q q) (fun P b σ env G H d env' r hF Q q => cTs_run r hF Q q) (fun P b σ env G H d env' r hF Q q => cE_run r hF Q q) hts rr hds _ fun p vs G' H' g r hP hg hh ra => ?_
    obtain ⟨G2, e1, e2, n, rv, r2⟩ := Rep.know (N := fun a => a = p) r (Tree.one hP hg hh ra)
    exact q _ G2 H' ⟨g.g.trans e1, g.h, fun a ha hn => n a ha (g.n a ha hn)⟩ (r2.set rv)
  · cases h
theorem dens_setLcN (i : Nat) {y : Str} {py spos : Pos} {ifs : List Expr} {scope : Scope} (own : List (Str × Nat)) {ts vs : List Nat} {Fi : Mo (List D)} {B : D → DEnv → Option DEnv} {Ft : Mo Bool} {Fe : Mo D} (hc : X.calm = true) (hN : X.N.Nodup) (hy : X.N[i]? = some y) (hyl : X.env.scope.names.lookup y = some .local)
    (hsw : swapsWith (.ListComp elt [⟨tg, iter, ifs, 0⟩] scope pos) (some (.Name y py)) spos.line X.env = pure true) (hi : DenI X tg iter Fi) (ok : BlkOk X.N X.env.scope scope own)
    (hg : ∀ (s : Shared) (H : Hp) (C : Addr) (cl : List (Str × Addr)) (fp : List Addr), DenG (X.blk s H scope (compEnvC scope cl C X.env) fp) tg ts B)
    (ht : ∀ (s : Shared) (H : Hp) (C : Addr) (cl : List (Str × Addr)) (fp : List Addr), DenTs (X.blk s H scope (compEnvC scope cl C X.env) fp) ifs Ft)
    (he : ∀ (s : Shared) (H : Hp) (C : Addr) (cl : List (Str × Addr)) (fp : List Addr), DenE (X.blk s H scope (compEnvC scope cl C X.env) fp) elt Fe)
    (hvs : own.map (·.2) = vs := by rfl) (hts : ∀ j ∈ ts, j ∈ vs := by decide) (hs : ∀ x, foldedSetIterable iter X.env x = pure x := by intro _; rfl) :
    DenS X (.Assign [.Name y py] (.ListComp elt [⟨tg, iter, ifs, 0⟩] scope pos) spos) (sSetN i 0 (mMap (fun ds => some (.list ds)) (mLc Fi B Ft Fe vs))) := by
  obtain ⟨wi, i1, i2⟩ := hi
  subst hvs
  have base := ps_setLc hc hN hy hyl hsw i1 ok (fun s H C cl fp => (hg s H C cl fp).pe) (fun s H C cl fp => (ht s H C cl fp).pe) (fun s H C cl fp => (he s H C cl fp).pe) hs
  refine ⟨_, base, fun P b σ env G H r rr h Dd q => ?_⟩
  unfold sSetN at h
  split at h
  · rename_i d e1 hd
    cases h
    obtain ⟨ds, hds, hz⟩ := mMap_some hd
    cases hz
    exact lc_run i2 (fun P b σ env G H v d env' r rv hB Q q => cG_run r rv hB Q q) (fun P b σ env G H d env' r hF Q q => cTs_run r hF Q q) (fun P b σ env G H d env' r hF Q q => cE_run r hF Q q) hts rr hds _ fun p vs G' H' g r hP hg hh ra => q _ G' H' g (Rep.ownNew (N := fun a => a = p) r (Tree.one hP hg hh ra) i)
  · cases h
theorem opD_iadd : OpD X (inplaceOp .Add) (gInt fun i j => some (i + j)) := opD_int0 iop_add
/-- t < u, tuples of ints -/
def gLtT : D → D → Option D
  | .tuple xs, .tuple ys => (intsOf xs).bind fun ns => (intsOf ys).map fun ms => .bool (HT.lexLt ns ms)
  | _, _ => none
theorem tup_ints {G H : Hp} {v : V} {xs : List D} {ns : List Int} (s : Ex G H) (r : Rp G v (.tuple xs)) (h : intsOf xs = some ns) : ∃ a, v = .ref a ∧ TupS H a (ns.map V.int) := by
  obtain ⟨a, ws, rfl, ha, ra⟩ := r.inv_tup
  have := intsOf_some h
  subst this
  have := ra.ints
  subst this
  exact ⟨a, rfl, ha.mono s⟩
theorem opD_ltT (hu : X.A.units < cLine) : OpD X (compareOp .Lt) gLtT := by
  refine ⟨_, op_ltT hu, fun G H x y d e z s rx ry hg Q q => ?_⟩
  unfold gLtT at hg
  split at hg
  · rename_i xs ys
    cases w : intsOf xs with
    | none => rw [w] at hg; cases hg
    | some ns =>
      cases w2 : intsOf ys with
      | none => rw [w, w2] at hg; cases hg
      | some ms =>
        rw [w, w2] at hg
        cases hg
        obtain ⟨a, rfl, ha⟩ := tup_ints s rx w
        obtain ⟨b, rfl, hb⟩ := tup_ints s ry w2
        exact ⟨a, b, ns, ms, rfl, rfl, ha.sq (Ex.refl H), hb.sq (Ex.refl H), q _ G H (Pu.refl s) (.bl _)⟩
  · cases hg
def gLt : D → D → Option D := fun d e => match gCmp (fun i j => decide (i < j)) d e with | some z => some z | none => gLtT d e
theorem opD_lt (hu : X.A.units < cLine) : OpD X (compareOp .Lt) gLt := (opD_cmp op_lt).or (opD_ltT hu)
def eqF : D → D → Bool
  | .none, .none => true
  | .bool a, .bool b => a == b
  | .bool a, .int b => (if a then 1 else 0) == b
  | .int a, .bool b => a == (if b then 1 else 0)
  | .int a, .int b => a == b
  | .str a, .str b => a == b
  | _, _ => false
theorem Rp.flatV {G : Hp} {v : V} {d : D} (h : Rp G v d) (f : flatD d = true) : flatV v = true := by
  cases h <;> first | rfl | cases f
theorem Rp.eqF {G : Hp} {v w : V} {d e : D} (h : Rp G v d) (k : Rp G w e) (f : flatD d = true) (f' : flatD e = true) : eqV v w = eqF d e := by
  cases h <;> cases k <;> first | rfl | cases f | cases f'
def gIn (neg : Bool) : D → D → Option D := fun x y =>
  match gSeq y with
  | some ys => if flatD x && ys.all flatD then some (.bool (if neg then !(ys.any fun y => eqF y x) else ys.any fun y => eqF y x)) else none
  | none => none
theorem RpAll.flatV {G : Hp} : ∀ {vs : List V} {ds : List D}, RpAll G vs ds → ds.all flatD = true → vs.all flatV = true
  | _, _, .nil, _ => rfl
  | _, _, .cons h r, f => by
    rw [List.all_cons, Bool.and_eq_true] at f ⊢
    exact ⟨h.flatV f.1, RpAll.flatV r f.2⟩
theorem RpAll.inF {G : Hp} {w : V} {e : D} (k : Rp G w e) (f : flatD e = true) : ∀ {vs : List V} {ds : List D}, RpAll G vs ds → ds.all flatD = true → inV w vs = ds.any fun y => eqF y e
  | _, _, .nil, _ => rfl
  | _, _, .cons h r, fs => by
    rw [List.all_cons, Bool.and_eq_true] at fs
    have ih := RpAll.inF k f r fs.2
    unfold inV at ih ⊢
    rw [List.any_cons, List.any_cons, ih, h.eqF k fs.1 f]
theorem opD_inN {neg : Bool} {op : CmpOp} (h : OpR X (compareOp op) (rIn X.K neg)) : OpD X (compareOp op) (gIn neg) := by
  refine ⟨_, h, fun G H x y d e z s rx ry hg Q q => ?_⟩
  unfold gIn at hg
  cases w : gSeq e with
  | none => rw [w] at hg; cases hg
  | some ys =>
    simp only [w] at hg
    split at hg
    · rename_i hf
      rw [Bool.and_eq_true] at hf
      cases hg
      have fin : ∀ (p : Addr) (vs : List V), y = .ref p → (SqL X.K H p vs ∨ SqT X.K H p vs) → RpAll G vs ys → rIn X.K neg x y H Q := fun p vs hp hs rv => by
        refine ⟨p, vs, hp, hs, rx.flatV hf.1, rv.flatV hf.2, ?_⟩
        rw [rv.inF rx hf.1 hf.2]
        exact q _ G H (Pu.refl s) (.bl _)
      cases e with
      | list xs =>
        cases w
        obtain ⟨p, vs, hp, hs, rv⟩ := ry.inv_list
        exact fin p vs hp (.inl (.of (s _ _ hs))) rv
      | tuple xs =>
        cases w
        obtain ⟨p, vs, hp, hs, rv⟩ := ry.inv_tup
        exact fin p vs hp (.inr (hs.sq s)) rv
      | _ => cases w
    · cases hg
theorem opD_in : OpD X (compareOp .In) (gIn false) := opD_inN op_in_seq
theorem opD_notIn : OpD X (compareOp .NotIn) (gIn true) := opD_inN op_notIn_seq
/-- is of truths -/
def gIsB (neg : Bool) : D → D → Option D
  | .bool a, .bool b => some (.bool (if neg then !decide (a = b) else decide (a = b)))
  | _, _ => none
theorem opD_isnotB : OpD X (compareOp .IsNot) (gIsB true) := by
  refine ⟨_, op_isnot_bl, fun G H x y d e z s rx ry hg Q q => ?_⟩
  unfold gIsB at hg
  split at hg
  · rename_i a b
    cases hg
    exact ⟨a, b, rx.inv_bl, ry.inv_bl, q _ G H (Pu.refl s) (.bl _)⟩
  · cases hg
theorem dent_isN {F : Mo D} {j : Nat} {p' : Pos} (h : DenE X a F) : DenT X (.Compare a [.Is] [.Constant .none j p'] pos) (mMap gB (mMap gIsN F)) := (den_isN h).2
theorem dene_isN {F : Mo D} {j : Nat} {p' : Pos} (h : DenE X a F) : DenE X (.Compare a [.Is] [.Constant .none j p'] pos) (mMap gIsN F) := (den_isN h).1
theorem dent_notN {F : Mo D} {j : Nat} {p' : Pos} (h : DenE X a F) : DenT X (.Compare a [.IsNot] [.Constant .none j p'] pos) (mMap gB (mMap gNotN F)) := (den_notN h).2
theorem dene_notN {F : Mo D} {j : Nat} {p' : Pos} (h : DenE X a F) : DenE X (.Compare a [.IsNot] [.Constant .none j p'] pos) (mMap gNotN F) := (den_notN h).1
theorem dent_chain {op op' : CmpOp} {c : Expr} {g g' : D → D → Option D} {F F' F'' : Mo D} (ho : OpD X (compareOp op) g) (ho' : OpD X (compareOp op') g') (ha : DenE X a F) (hb : DenE X b F') (hc : DenE X c F'')
    (hm : lastMarks [op, op'] [b, c] = false := by with_unfolding_all rfl) : DenT X (.Compare a [op, op'] [b, c] pos) (mChain g g' F F' F'') := (den_chain ho ho' ha hb hc hm).2
theorem dene_chain {op op' : CmpOp} {c : Expr} {g g' : D → D → Option D} {F F' F'' : Mo D} (ho : OpD X (compareOp op) g) (ho' : OpD X (compareOp op') g') (ha : DenE X a F) (hb : DenE X b F') (hc : DenE X c F'')
    (hm : lastMarks [op, op'] [b, c] = false := by with_unfolding_all rfl) : DenE X (.Compare a [op, op'] [b, c] pos) (mMap (fun k => some (.bool k)) (mChain g g' F F' F'')) := (den_chain ho ho' ha hb hc hm).1
end
end Dn
namespace Dn
open PySem PySem.Spec PyProof.Rows L2
open Evl (Ex fresh_back)
theorem Rep.rep' {P : Addr → Prop} {bs : Bs} {G H : Hp} {σ : L2.St} {env : DEnv} (r : Rep P bs G H σ env) :
    ∃ L : Lab, (∀ a p, L a = some p → P a ∧ G a = none ∧ H a ≠ none) ∧ ∀ (i : Nat) (s : SV), env[i]? = some (some s) → ∃ v, σ[i]? = some (some v) ∧ SRep bs L G H i v s := by
  classical
  obtain ⟨L, hL, hr⟩ := r.rep
  refine ⟨fun a => if H a = none then none else L a, fun a p h => ?_, fun i s h => ?_⟩
  · by_cases ha : H a = none
    · simp [ha] at h
    · simp [ha] at h
      exact ⟨(hL a p h).1, (hL a p h).2, ha⟩
  · obtain ⟨v, hv, hs⟩ := hr i s h
    refine ⟨v, hv, ?_⟩
    cases s with
    | fz d => exact hs
    | ow io k d =>
      refine ⟨?_, hs.2⟩
      have aux : ∀ (k : Nat) {p : List Nat} {v : V} {d : D}, OwnR L G H k p v d → OwnR (fun a => if H a = none then none else L a) G H k p v d := by
        intro k
        induction k with
        | zero => intro p v d h; exact h
        | succ k ih =>
          intro p v d h
          cases d with
          | list ds =>
            unfold OwnR at h ⊢
            obtain ⟨a, vs, rfl, ha, hl, hn, h⟩ := h
            exact ⟨a, vs, rfl, ha, by simp [ha, hl], hn, fun j w e hw he => ih (h j w e hw he)⟩
          | dict kvs =>
            cases k with
            | zero =>
              obtain ⟨a, rfl, hl, h⟩ := h
              refine ⟨a, rfl, ?_, h⟩
              have : H a ≠ none := by
                obtain ⟨_, _, e, _⟩ := h
                exact some_ne e
              simp [this, hl]
            | succ k => cases k with
              | zero =>
                obtain ⟨a, rfl, hl, h⟩ := h
                refine ⟨a, rfl, ?_, h⟩
                have : H a ≠ none := by
                  obtain ⟨_, _, e, _⟩ := h
                  exact some_ne e
                simp [this, hl]
              | succ k => unfold OwnR at h; exact h.elim
          | _ => unfold OwnR at h; exact h.elim
      exact aux _ hs.1
inductive AR where
  | fz (d : D) | io (i : Nat)
def RpAR (σ : L2.St) (G : Hp) (v : V) : AR → Prop
  | .fz d => Rp G v d
  | .io i => σ[i]? = some (some v)
def RpARs (σ : L2.St) (G : Hp) : List V → List AR → Prop
  | [], [] => True
  | v :: vs, a :: as => RpAR σ G v a ∧ RpARs σ G vs as
  | _, _ => False
theorem RpARs.length {σ : L2.St} {G : Hp} : ∀ {vs : List V} {as : List AR}, RpARs σ G vs as → vs.length = as.length
  | [], [], _ => rfl
  | v :: vs, a :: as, h => congrArg (· + 1) (RpARs.length h.2)
theorem RpARs.get {σ : L2.St} {G : Hp} : ∀ {vs : List V} {as : List AR} {j : Nat} {a : AR}, RpARs σ G vs as → as[j]? = some a → ∃ v, vs[j]? = some v ∧ RpAR σ G v a
  | [], [], _, _, _, e => by simp at e
  | v :: vs, a :: as, 0, _, h, e => by simp at e; subst e; exact ⟨v, rfl, h.1⟩
  | v :: vs, a :: as, j + 1, _, h, e => RpARs.get (j := j) h.2 (by simpa using e)
def DenR (X : Cx) (es : List Expr) (F : Mo (List AR)) : Prop :=
  ∃ t : TA, PA X es t ∧ ∀ (P : Addr → Prop) (b : Bs) (σ : L2.St) (env : DEnv) (G H : Hp) (d : List AR) (env' : DEnv), Rep P b G H σ env → F env = some (d, env') →
    ∀ Q : List V → Hp → Prop, (∀ v G' H', Gr P G H G' H' → Rep P b G' H' σ env' → RpARs σ G' v d → Q v H') → t σ H Q
section
variable {X : Cx} {a b c e : Expr} {pos : Pos}
theorem denr_nil : DenR X [] (mRet []) := by
  refine ⟨_, pa_nil, fun P b σ env G H d env' r h Q q => ?_⟩
  obtain ⟨rfl, rfl⟩ := mRet_some h
  exact q [] G H Gr.refl r trivial
theorem RpAR.mono {σ : L2.St} {G G' : Hp} (e : Ex G G') {v : V} : ∀ {a : AR}, RpAR σ G v a → RpAR σ G' v a
  | .fz _, h => Rp.mono e h
  | .io _, h => h
theorem denr_cons {es : List Expr} {F : Mo D} {F' : Mo (List AR)} (ha : DenE X a F) (hr : DenR X es F') (hs : starEach (a :: es) X.env = (false, eval a X.env) :: starEach es X.env := by rfl) : DenR X (a :: es) (mCons (mMap (fun d => some (AR.fz d)) F) F') := by
  obtain ⟨t, h1, h2⟩ := ha
  obtain ⟨u, k1, k2⟩ := hr
  refine ⟨_, pa_cons h1 k1 hs, fun P b σ env G H d env' rr h Q q => ?_⟩
  obtain ⟨x, e1, hx, h⟩ := mBind_some h
  obtain ⟨y, e2, hy, h⟩ := mBind_some h
  obtain ⟨rfl, rfl⟩ := mRet_some h
  obtain ⟨x', hx', hz⟩ := mMap_some hx
  cases hz
  exact h2 P b σ env G H x' e1 rr hx' _ fun v G1 H1 g1 r1 p1 => k2 P b σ e1 G1 H1 y _ r1 hy _ fun w G2 H2 g2 r2 p2 => q _ G2 H2 (g1.trans g2) r2 ⟨Rp.mono g2.g p1, p2⟩
def mIo (i : Nat) (F' : Mo (List AR)) : Mo (List AR) := fun env => match env[i]? with | some (some (SV.ow _ _ _)) => mCons (mRet (AR.io i)) F' env | _ => none
theorem denr_io (i : Nat) {x : Str} {p1 : Pos} {es : List Expr} {F' : Mo (List AR)} (hi : X.N[i]? = some x) (hv : Vis X.env.scope x) (hr : DenR X es F') (hd : (x == ("__debug__" : Str)) = false := by decide) (hcd : (x == ("__classdict__" : Str)) = false := by decide)
    (hs : starEach (.Name x p1 :: es) X.env = (false, eval (.Name x p1) X.env) :: starEach es X.env := by rfl) : DenR X (.Name x p1 :: es) (mIo i F') := by
  obtain ⟨u, k1, k2⟩ := hr
  refine ⟨_, pa_cons (pe_var hi hv hd hcd) k1 hs, fun P b σ env G H d env' rr h Q q => ?_⟩
  unfold mIo at h
  split at h
  · rename_i io k dd w
    obtain ⟨x0, e1, hx, hA⟩ := mBind_some h
    obtain ⟨y, e2, hy, hB⟩ := mBind_some hA
    obtain ⟨rfl, rfl⟩ := mRet_some hx
    obtain ⟨rfl, rfl⟩ := mRet_some hB
    obtain ⟨v, hv, _⟩ := rr.own w
    exact ⟨v, hv, k2 P b σ _ G H y _ rr hy _ fun w G2 H2 g2 r2 p2 => q _ G2 H2 g2 r2 ⟨hv, p2⟩⟩
  · cases h
end
abbrev Ms := List (Option Nat)
def argEnv : Ms → List D → DEnv
  | none :: ms, d :: ds => some (.fz d) :: argEnv ms ds
  | some k :: ms, d :: ds => some (.ow true k d) :: argEnv ms ds
  | _, _ => []
def outEnv : Ms → List D → DEnv
  | none :: ms, outs => none :: outEnv ms outs
  | some k :: ms, o :: outs => some (.ow true k o) :: outEnv ms outs
  | some _ :: ms, [] => none :: outEnv ms []
  | [], _ => []
def outsOf : Ms → DEnv → Option (List D)
  | [], _ => some []
  | none :: ms, _ :: e => outsOf ms e
  | some k :: ms, some (.ow true k' d) :: e => if k' = k then (outsOf ms e).map (d :: ·) else none
  | _, _ => none
theorem outsOf_get : ∀ {ms : Ms} {e : DEnv} {outs : List D}, outsOf ms e = some outs → ∀ {i : Nat} {s : SV}, (outEnv ms outs)[i]? = some (some s) → e[i]? = some (some s) ∧ ∃ k o, s = .ow true k o
  | [], _, _, _, i, s, h => by simp [outEnv] at h
  | none :: ms, [], _, he, i, s, h => by simp [outsOf] at he
  | none :: ms, x :: e, outs, he, 0, s, h => by simp [outEnv] at h
  | none :: ms, x :: e, outs, he, i + 1, s, h => outsOf_get (ms := ms) (e := e) (i := i) he h
  | some k :: ms, e, outs, he, i, s, h => by
    unfold outsOf at he
    split at he
    · rename_i h1; cases h1
    · rename_i h1; cases h1
    · rename_i k0 ms0 k' d e0 h1
      cases h1
      split at he
      · rename_i hk
        subst hk
        cases w : outsOf ms e0 with
        | none => rw [w] at he; cases he
        | some os =>
          rw [w] at he
          cases he
          cases i with
          | zero =>
            simp [outEnv] at h
            subst h
            exact ⟨rfl, _, _, rfl⟩
          | succ i => exact outsOf_get (ms := ms) (e := e0) w (i := i) h
      · cases he
    · cases he
theorem outEnv_len : ∀ (ms : Ms) (outs : List D), (outEnv ms outs).length = ms.length
  | [], _ => rfl
  | none :: ms, outs => congrArg (· + 1) (outEnv_len ms outs)
  | some k :: ms, o :: outs => congrArg (· + 1) (outEnv_len ms outs)
  | some k :: ms, [] => congrArg (· + 1) (outEnv_len ms [])
theorem argEnv_len : ∀ {ms : Ms} {ds : List D}, ds.length = ms.length → (argEnv ms ds).length = ms.length
  | [], _, _ => by simp [argEnv]
  | none :: ms, d :: ds, h => congrArg (· + 1) (argEnv_len (by simpa using h))
  | some k :: ms, d :: ds, h => congrArg (· + 1) (argEnv_len (by simpa using h))
  | none :: ms, [], h => by cases h
  | some k :: ms, [], h => by cases h
/-- a def that changes what it is handed -/
def spIO (ms : Ms) (F : List D → Option (D × List D)) : Sp := fun vs H Q _ => ∃ (P : Addr → Prop) (bs : Bs) (G : Hp) (ds : List D) (d : D) (outs : List D),
  Rep P bs G H (vs.map some) (argEnv ms ds) ∧ ds.length = ms.length ∧ F ds = some (d, outs) ∧ ∀ v G' H', Gr P G H G' H' → Rep P bs G' H' (vs.map some) (outEnv ms outs) → Rp G' v d → Q v H'
structure FdIO (P : Program) (w : World) (K : PySem.W.Frag) (mg : Str → Option Value) (base : Heap) (x : Str) (k : Nat) (ms : Ms) (F : List D → Option (D × List D)) : Prop where
  ex : ∃ (f : Addr) (fd : FuncData) (ps : List Str), mg x = some (.ref f) ∧ PySem.W.keepIn K (.ref f) = true ∧ Binds K fd ps [] ∧ ps.length = ms.length ∧ FnOk P w K mg base CX0 k f fd ps (spIO ms F)
def envIO (N : List Str) (ms : Ms) (ds : List D) : DEnv := argEnv ms ds ++ List.replicate (N.length - ds.length) none
def outIO (ms : Ms) : Option Fl → Option (D × List D)
  | some (.rt d e) => (outsOf ms e).map fun o => (d, o)
  | some (.nx e) => (outsOf ms e).map fun o => (.none, o)
  | _ => none
section
variable {P : Program} {w : World} {K : PySem.W.Frag} {mg : Str → Option Value} {base : Heap}
theorem Rep.ext {P : Addr → Prop} {bs : Bs} {G H : Hp} {σ : L2.St} {env : DEnv} (r : Rep P bs G H σ env) (n : Nat) : Rep P bs G H (σ ++ List.replicate n none) (env ++ List.replicate n none) := by
  obtain ⟨L, hL, hr⟩ := r.rep
  refine ⟨by simp [r.len], r.sub, r.fresh, L, hL, fun i s h => ?_⟩
  by_cases hi : i < env.length
  · rw [List.getElem?_append_left hi] at h
    obtain ⟨v, hv, hs⟩ := hr i s h
    exact ⟨v, by rw [List.getElem?_append_left (by rw [r.len]; exact hi)]; exact hv, hs⟩
  · rw [List.getElem?_append_right (by omega)] at h
    obtain ⟨h1, h2⟩ := List.getElem?_eq_some_iff.mp h
    rw [List.getElem_replicate] at h2
    cases h2
theorem FdIO.mk' {x qual : Str} {st : Stmt} {f : Addr} {fd : FuncData} {N ps : List Str} {k : Nat} {ms : Ms} {B : So} (F : Fun K x qual st f fd) (S : FnScope N ps (defScope st)) (hg : mg x = some (.ref f)) (hb : Binds K fd ps []) (hl : ps.length = ms.length)
    (body : ∀ (cdv : Value) (A : Around) (outer : List Env) (s : Shared) (H : Hp) (E : XK), Room k (A.deeper (envOfC qual (defScope st) s.heap.objs.size f cdv)) → DenSs (cxOf CX0 P w K mg base N qual (defScope st) f cdv A outer s H E).nox (defBody st) B) :
    FdIO P w K mg base x (k + 1) ms (fun ds => outIO ms (B (envIO N ms ds))) := by
  refine ⟨f, fd, ps, hg, F.kp, hb, hl, F.ok S (fun vs H Q E h => ?_) fun cdv A outer s H vs Q E hr h => ?_⟩
  · obtain ⟨P0, bs, G, ds, d, outs, r, hd, _, _⟩ := h
    have := r.len
    rw [List.length_map, argEnv_len hd] at this
    rw [this, hl]
  · obtain ⟨P0, bs, G, ds, d, outs, r, hd, hF, q⟩ := h
    obtain ⟨t, h1, h2⟩ := body cdv A outer s H E hr
    refine ⟨t, h1, ?_⟩
    have hvl : vs.length = ds.length := by
      have := r.len
      rw [List.length_map, argEnv_len hd] at this
      rw [this, hd]
    have rep : Rep P0 bs G H (L2.start N vs) (envIO N ms ds) := by
      unfold L2.start envIO
      rw [hvl]
      exact r.ext _
    have fin : ∀ {σ' : L2.St} {env' : DEnv} {G' H' : Hp} {v : V} {d' : D}, Gr P0 G H G' H' → Rep P0 bs G' H' σ' env' → Rp G' v d' → (outsOf ms env').map (fun o => (d', o)) = some (d, outs) → Q v H' := fun {σ' env' G' H' v d'} g r' p he => by
      cases wo : outsOf ms env' with
      | none => rw [wo] at he; cases he
      | some o =>
        rw [wo] at he
        cases he
        refine q v G' H' g ?_ p
        obtain ⟨L, hL, hr'⟩ := r'.rep
        obtain ⟨_, _, hr0⟩ := r.rep
        refine ⟨by rw [List.length_map, outEnv_len, hvl, hd], r'.sub, r'.fresh, L, hL, fun i s hs => ?_⟩
        obtain ⟨he', kk, oo, rfl⟩ := outsOf_get wo hs
        obtain ⟨v', hv', hs'⟩ := hr' i _ he'
        have hv2 := hs'.2 rfl
        subst hv2
        refine ⟨_, ?_, hs'⟩
        -- the parameter held it from the first
        have hil : i < ms.length := by
          have := (List.getElem?_eq_some_iff.mp hs).1
          rwa [outEnv_len] at this
        have aux : ∀ (ms : Ms) (ds outs : List D) (i : Nat) (k : Nat) (o : D), ds.length = ms.length → (outEnv ms outs)[i]? = some (some (.ow true k o)) → ∃ d, (argEnv ms ds)[i]? = some (some (.ow true k d)) := by
          intro ms
          induction ms with
          | nil => intro ds outs i k o _ h; simp [outEnv] at h
          | cons m ms ih =>
            intro ds outs i k o hl h
            cases ds with
            | nil => cases hl
            | cons d ds =>
              have hl' : ds.length = ms.length := by simpa using hl
              cases m with
              | none =>
                cases i with
                | zero => simp [outEnv] at h
                | succ i => exact ih ds outs i k o hl' h
              | some k0 =>
                cases outs with
                | nil =>
                  cases i with
                  | zero => simp [outEnv] at h
                  | succ i => exact ih ds [] i k o hl' h
                | cons o0 outs =>
                  cases i with
                  | zero => simp [outEnv] at h; obtain ⟨rfl, _⟩ := h; exact ⟨d, rfl⟩
                  | succ i => exact ih ds outs i k o hl' h
        obtain ⟨d0, hd0⟩ := aux ms ds _ i kk oo hd hs
        obtain ⟨v0, hv0, hs0⟩ := hr0 i _ hd0
        have := hs0.2 rfl
        subst this
        exact hv0
    cases hB : B (envIO N ms ds) with
    | none => simp only [hB] at hF; cases hF
    | some r1 =>
      simp only [hB] at hF
      refine h2 _ bs _ _ G H r1 rep hB _ ?_
      cases r1 with
      | nx e1 => exact fun σ' G' H' g r' => fin g r' .non hF
      | rt d' e1 => exact fun v σ' G' H' g r' p => fin g r' p hF
      | bk e1 => cases hF
      | ct e1 => cases hF
theorem FdIO.imp {x : Str} {k : Nat} {ms : Ms} {F F' : List D → Option (D × List D)} (h : FdIO P w K mg base x k ms F) (hi : ∀ ds d, F' ds = some d → F ds = some d) : FdIO P w K mg base x k ms F' := by
  obtain ⟨f, fd, ps, h1, h2, h3, h4, h5⟩ := h.ex
  exact ⟨f, fd, ps, h1, h2, h3, h4, h5.imp fun vs H Q E ⟨P0, bs, G, ds, d, outs, a1, a2, a3, q⟩ => ⟨P0, bs, G, ds, d, outs, a1, a2, hi _ _ a3, q⟩⟩
theorem FdIO.mono {x : Str} {j k : Nat} {ms : Ms} {F : List D → Option (D × List D)} (h : FdIO P w K mg base x j ms F) (hk : j ≤ k) : FdIO P w K mg base x k ms F := by
  obtain ⟨f, fd, ps, h1, h2, h3, h4, h5⟩ := h.ex
  exact ⟨f, fd, ps, h1, h2, h3, h4, h5.mono hk⟩
end
def argsOf : Ms → List AR → DEnv → Option (List D)
  | [], [], _ => some []
  | none :: ms, .fz d :: as, e => (argsOf ms as e).map (d :: ·)
  | some k :: ms, .io i :: as, e => (match e[i]? with | some (some (SV.ow _ k' d)) => if k' = k then (argsOf ms as e).map (d :: ·) else none | _ => none)
  | _, _, _ => none
def putOuts : Ms → List AR → List D → DEnv → Option DEnv
  | [], [], [], e => some e
  | none :: ms, .fz _ :: as, outs, e => putOuts ms as outs e
  | some k :: ms, .io i :: as, o :: outs, e => (match e[i]? with | some (some (SV.ow io _ _)) => putOuts ms as outs (e.set i (some (.ow io k o))) | _ => none)
  | _, _, _, _ => none
def iosOf : List AR → List Nat
  | [] => []
  | .fz _ :: as => iosOf as
  | .io i :: as => i :: iosOf as
def mCallIO (ms : Ms) (F : List D → Option (D × List D)) (m : Mo (List AR)) : Mo D := fun env =>
  match m env with
  | none => none
  | some (ars, e1) =>
    if (iosOf ars).Nodup then
      match argsOf ms ars e1 with
      | none => none
      | some ds =>
        match F ds with
        | none => none
        | some (d, outs) => (putOuts ms ars outs e1).map fun e2 => (d, e2)
    else none
theorem mem_ios : ∀ {as : List AR} {i : Nat}, i ∈ iosOf as ↔ ∃ j : Nat, as[j]? = some (AR.io i)
  | [], i => by simp [iosOf]
  | .fz d :: as, i => by
    rw [iosOf, mem_ios]
    constructor
    · rintro ⟨j, h⟩; exact ⟨j + 1, h⟩
    · rintro ⟨j, h⟩
      cases j with
      | zero => simp at h
      | succ j => exact ⟨j, h⟩
  | .io k :: as, i => by
    rw [iosOf, List.mem_cons, mem_ios]
    constructor
    · rintro (rfl | ⟨j, h⟩)
      · exact ⟨0, rfl⟩
      · exact ⟨j + 1, h⟩
    · rintro ⟨j, h⟩
      cases j with
      | zero => simp at h; exact .inl h.symm
      | succ j => exact .inr ⟨j, h⟩
theorem ios_inj : ∀ {as : List AR} {i j k : Nat}, (iosOf as).Nodup → as[j]? = some (AR.io i) → as[k]? = some (AR.io i) → j = k
  | .fz d :: as, i, j, k, hn, h1, h2 => by
    cases j with
    | zero => simp at h1
    | succ j =>
      cases k with
      | zero => simp at h2
      | succ k => exact congrArg (· + 1) (ios_inj (as := as) hn h1 h2)
  | .io m :: as, i, j, k, hn, h1, h2 => by
    rw [iosOf, List.nodup_cons] at hn
    cases j with
    | zero =>
      simp at h1
      subst h1
      cases k with
      | zero => rfl
      | succ k => exact absurd (mem_ios.mpr ⟨k, h2⟩) hn.1
    | succ j =>
      cases k with
      | zero =>
        simp at h2
        subst h2
        exact absurd (mem_ios.mpr ⟨j, h1⟩) hn.1
      | succ k => exact congrArg (· + 1) (ios_inj (as := as) hn.2 h1 h2)
theorem argsOf_len : ∀ {ms : Ms} {as : List AR} {e : DEnv} {ds : List D}, argsOf ms as e = some ds → ds.length = ms.length ∧ as.length = ms.length
  | [], [], _, _, h => by cases h; exact ⟨rfl, rfl⟩
  | none :: ms, .fz d :: as, e, ds, h => by
    simp only [argsOf] at h
    cases w : argsOf ms as e with
    | none => rw [w] at h; cases h
    | some xs => rw [w] at h; cases h; obtain ⟨h1, h2⟩ := argsOf_len w; exact ⟨congrArg (· + 1) h1, congrArg (· + 1) h2⟩
  | some k :: ms, .io i :: as, e, ds, h => by
    simp only [argsOf] at h
    split at h
    · split at h
      · cases w : argsOf ms as e with
        | none => rw [w] at h; cases h
        | some xs => rw [w] at h; cases h; obtain ⟨h1, h2⟩ := argsOf_len w; exact ⟨congrArg (· + 1) h1, congrArg (· + 1) h2⟩
      · cases h
    · cases h
  | [], _ :: _, _, _, h => by simp [argsOf] at h
  | none :: ms, [], _, _, h => by simp [argsOf] at h
  | some k :: ms, [], _, _, h => by simp [argsOf] at h
  | none :: ms, .io _ :: as, _, _, h => by simp [argsOf] at h
  | some k :: ms, .fz _ :: as, _, _, h => by simp [argsOf] at h
theorem argsOf_get : ∀ {ms : Ms} {as : List AR} {e : DEnv} {ds : List D}, argsOf ms as e = some ds → ∀ {j : Nat} {s : SV}, (argEnv ms ds)[j]? = some (some s) →
    (∃ d, s = .fz d ∧ as[j]? = some (.fz d)) ∨ (∃ k d i io, s = .ow true k d ∧ as[j]? = some (AR.io i) ∧ e[i]? = some (some (.ow io k d)))
  | [], [], _, _, h, j, s, hj => by cases h; simp [argEnv] at hj
  | none :: ms, .fz d :: as, e, ds, h, j, s, hj => by
    simp only [argsOf] at h
    cases w : argsOf ms as e with
    | none => rw [w] at h; cases h
    | some xs =>
      rw [w] at h
      cases h
      cases j with
      | zero => simp [argEnv] at hj; exact .inl ⟨d, hj.symm, rfl⟩
      | succ j => exact argsOf_get w (j := j) hj
  | some k :: ms, .io i :: as, e, ds, h, j, s, hj => by
    simp only [argsOf] at h
    split at h
    · rename_i io k' d' he
      split at h
      · rename_i hk
        subst hk
        cases w : argsOf ms as e with
        | none => rw [w] at h; cases h
        | some xs =>
          rw [w] at h
          cases h
          cases j with
          | zero => simp [argEnv] at hj; exact .inr ⟨_, _, i, io, hj.symm, rfl, he⟩
          | succ j => exact argsOf_get w (j := j) hj
      · cases h
    · cases h
  | [], _ :: _, _, _, h, _, _, _ => by simp [argsOf] at h
  | none :: ms, [], _, _, h, _, _, _ => by simp [argsOf] at h
  | some k :: ms, [], _, _, h, _, _, _ => by simp [argsOf] at h
  | none :: ms, .io _ :: as, _, _, h, _, _, _ => by simp [argsOf] at h
  | some k :: ms, .fz _ :: as, _, _, h, _, _, _ => by simp [argsOf] at h
theorem putOuts_get : ∀ {ms : Ms} {as : List AR} {outs : List D} {e e' : DEnv}, (iosOf as).Nodup → putOuts ms as outs e = some e' → e'.length = e.length ∧ ∀ {i : Nat} {s : SV}, e'[i]? = some (some s) →
    (∃ (j k : Nat) (o : D) (io : Bool) (d : SV), as[j]? = some (AR.io i) ∧ s = SV.ow io k o ∧ (outEnv ms outs)[j]? = some (some (SV.ow true k o)) ∧ e[i]? = some (some d) ∧ ∃ (k' : Nat) (d' : D), d = SV.ow io k' d') ∨ (i ∉ iosOf as ∧ e[i]? = some (some s))
  | [], [], [], e, e', _, h => by cases h; exact ⟨rfl, fun h => .inr ⟨by simp [iosOf], h⟩⟩
  | none :: ms, .fz d :: as, outs, e, e', hn, h => by
    obtain ⟨h1, h2⟩ := putOuts_get (ms := ms) (as := as) hn (show putOuts ms as outs e = some e' from h)
    refine ⟨h1, fun hi => ?_⟩
    rcases h2 hi with ⟨j, k, o, io, d', a1, a2, a3, a4⟩ | h3
    · exact .inl ⟨j + 1, k, o, io, d', a1, a2, a3, a4⟩
    · exact .inr h3
  | some k :: ms, .io m :: as, o :: outs, e, e', hn, h => by
    rw [iosOf, List.nodup_cons] at hn
    simp only [putOuts] at h
    split at h
    · rename_i io k' d' he
      obtain ⟨h1, h2⟩ := putOuts_get (ms := ms) (as := as) hn.2 h
      refine ⟨by rw [h1, List.length_set], fun {i s} hi => ?_⟩
      rcases h2 hi with ⟨j, k2, o2, io2, d2, a1, a2, a3, a4, a5⟩ | ⟨h3, h4⟩
      · have him : i ≠ m := fun z => hn.1 (by rw [← z]; exact mem_ios.mpr ⟨j, a1⟩)
        rw [List.getElem?_set_ne (Ne.symm him)] at a4
        exact .inl ⟨j + 1, k2, o2, io2, d2, a1, a2, a3, a4, a5⟩
      · by_cases him : i = m
        · subst him
          have hl : i < e.length := (List.getElem?_eq_some_iff.mp he).1
          rw [List.getElem?_set_self hl] at h4
          cases h4
          exact .inl ⟨0, k, o, io, _, rfl, rfl, rfl, he, _, _, rfl⟩
        · rw [List.getElem?_set_ne (Ne.symm him)] at h4
          exact .inr ⟨by rw [iosOf, List.mem_cons, not_or]; exact ⟨him, h3⟩, h4⟩
    · cases h
  | [], [], _ :: _, _, _, _, h => by simp [putOuts] at h
  | [], _ :: _, _, _, _, _, h => by simp [putOuts] at h
  | none :: ms, [], _, _, _, _, h => by simp [putOuts] at h
  | none :: ms, .io _ :: as, _, _, _, _, h => by simp [putOuts] at h
  | some k :: ms, [], _, _, _, _, h => by simp [putOuts] at h
  | some k :: ms, .fz _ :: as, _, _, _, _, h => by simp [putOuts] at h
  | some k :: ms, .io _ :: as, [], _, _, _, h => by simp [putOuts] at h
section
variable {X : Cx} {e : Expr} {pos : Pos}
open Classical in
theorem den_callIO {x : Str} {k : Nat} {ms : Ms} {p : Pos} {es : List Expr} {F : List D → Option (D × List D)} {m : Mo (List AR)} (h : FdIO X.prog X.w X.K X.mg X.base x k ms F) (hr : Room k X.A) (hg : Gl X x) (ha : DenR X (e :: es) m) (hdb : (x == ("__debug__" : Str)) = false := by decide)
    (he : starEach (e :: es) X.env = (false, eval e X.env) :: starEach es X.env := by rfl) (hpl : (backTo pos (starEach es X.env)).any (·.1) = false := by rfl) : DenE X (.Call (.Name x p) (e :: es) [] pos) (mCallIO ms F m) := by
  obtain ⟨f, fd, ps, h1, h2, h3, h4, h5⟩ := h.ex
  obtain ⟨t, a1, a2⟩ := ha
  refine ⟨_, pe_call h5 hr hg h1 h2 h3 .nil pass0 a1 hdb he hpl, fun P b σ env G H d env' rr h Q q => ?_⟩
  unfold mCallIO at h
  cases w1 : m env with
  | none => simp only [w1] at h; cases h
  | some pr1 =>
    obtain ⟨ars, e1⟩ := pr1
    simp only [w1] at h
    split at h
    · rename_i hnd
      cases w2 : argsOf ms ars e1 with
      | none => simp only [w2] at h; cases h
      | some ds =>
        simp only [w2] at h
        cases w3 : F ds with
        | none => simp only [w3] at h; cases h
        | some pr3 =>
          obtain ⟨d3, outs⟩ := pr3
          simp only [w3] at h
          cases w4 : putOuts ms ars outs e1 with
          | none => rw [w4] at h; cases h
          | some e2 =>
            rw [w4] at h
            cases h
            refine a2 P b σ env G H _ _ rr w1 _ fun vs G1 H1 g r p => ?_
            show spIO ms F (vs ++ []) H1 Q _
            rw [List.append_nil]
            obtain ⟨hdl, hal⟩ := argsOf_len w2
            obtain ⟨L, hL, hrp⟩ := r.rep'
            obtain ⟨hel, hpo⟩ := putOuts_get hnd w4
            -- the nodes handed over
            let N : Addr → Prop := fun a => ∃ i q, L a = some (i :: q) ∧ i ∈ iosOf ars
            have hN : ∀ a, N a → P a ∧ G1 a = none ∧ H1 a ≠ none := fun a ⟨i, q, hq, _⟩ => hL a _ hq
            let P0 : Addr → Prop := fun a => H1 a = none ∨ N a
            let L0 : Lab := fun a => match L a with | some (i :: q) => if h : ∃ j : Nat, ars[j]? = some (AR.io i) then some (h.choose :: q) else none | _ => none
            have hL0 : ∀ {a : Addr} {i j : Nat} {q : List Nat}, L a = some (i :: q) → ars[j]? = some (AR.io i) → L0 a = some (j :: q) := fun {a i j q} hq hj => by
              have hex : ∃ j : Nat, ars[j]? = some (AR.io i) := ⟨j, hj⟩
              have : hex.choose = j := ios_inj hnd hex.choose_spec hj
              show (match L a with | some (i :: q) => if h : ∃ j : Nat, ars[j]? = some (AR.io i) then some (h.choose :: q) else none | _ => none) = _
              rw [hq]
              simp [hex, this]
            have args : Rep P0 (fun j => match vs[j]? with | some (.ref a) => a | _ => 0) G1 H1 (vs.map some) (argEnv ms ds) := by
              refine ⟨by rw [List.length_map, p.length, argEnv_len hdl, hal], r.sub, fun a h => .inl h, L0, fun a q hq => ?_, fun j s hj => ?_⟩
              · have : ∃ i q', L a = some (i :: q') ∧ i ∈ iosOf ars := by
                  have hq : (match L a with | some (i :: q) => if h : ∃ j : Nat, ars[j]? = some (AR.io i) then some (h.choose :: q) else none | _ => none) = some q := hq
                  split at hq
                  · rename_i i q' hl
                    split at hq
                    · rename_i hex
                      exact ⟨i, q', hl, mem_ios.mpr hex⟩
                    · cases hq
                  · cases hq
                exact ⟨.inr this, (hN a this).2.1⟩
              · rcases argsOf_get w2 hj with ⟨d, rfl, has⟩ | ⟨kk, d, i, io, rfl, has, hei⟩
                · obtain ⟨v, hv, rv⟩ := p.get has
                  exact ⟨v, by rw [List.getElem?_map, hv]; rfl, rv⟩
                · obtain ⟨v, hv, rv⟩ := p.get has
                  obtain ⟨v', hv', hs'⟩ := hrp i _ hei
                  have rv : σ[i]? = some (some v) := rv
                  rw [rv] at hv'
                  cases hv'
                  refine ⟨v, by rw [List.getElem?_map, hv]; rfl, hs'.1.keep (Ex.refl G1) _ fun a q hq => ⟨hL0 (by simpa using hq) has, fun _ e => e⟩, fun _ => ?_⟩
                  have hrf : ∃ a, v = .ref a := by
                    have := hs'.1
                    cases d with
                    | list _ => unfold OwnR at this; obtain ⟨a, _, e, _⟩ := this; exact ⟨a, e⟩
                    | dict _ =>
                      cases kk with
                      | zero => obtain ⟨a, e, _⟩ := this; exact ⟨a, e⟩
                      | succ k' => cases k' with
                        | zero => obtain ⟨a, e, _⟩ := this; exact ⟨a, e⟩
                        | succ _ => unfold OwnR at this; exact this.elim
                    | _ => unfold OwnR at this; exact this.elim
                  obtain ⟨a, rfl⟩ := hrf
                  simp [hv]
            refine ⟨P0, _, G1, ds, _, outs, args, hdl, w3, fun v G2 H2 g2 r2 rv => ?_⟩
            have hP0 : ∀ a, P0 a → P a := fun a h => h.elim (r.fresh a) fun n => (hN a n).1
            refine q v G2 H2 (g.trans (g2.wk hP0)) ?_ rv
            obtain ⟨L2, hL2, hr2⟩ := r2.rep'
            refine ⟨by rw [r.len, hel], r2.sub, fun a h => hP0 a (r2.fresh a h), fun a => match L2 a with | some (j :: q) => (match ars[j]? with | some (AR.io i) => some (i :: q) | _ => none) | _ => if N a then none else L a, fun a q hq => ?_, fun i s hi => ?_⟩
            · simp only [] at hq
              split at hq
              · rename_i j q' hl2
                obtain ⟨z1, z2, z3⟩ := hL2 a _ hl2
                exact ⟨hP0 a z1, z2⟩
              · split at hq
                · cases hq
                · rename_i hn
                  obtain ⟨z1, z2, z3⟩ := hL a _ hq
                  exact ⟨z1, g2.n a (fun z => z.elim z3 hn) z2⟩
            · rcases hpo hi with ⟨j, kk, o, io, dd, b1, rfl, b3, b4, k', d', rfl⟩ | ⟨hni, hi⟩
              · obtain ⟨v2, hv2, hs2⟩ := hr2 j _ b3
                obtain ⟨v1, hv1, rv1⟩ := p.get b1
                have e12 : v1 = v2 := by
                  rw [List.getElem?_map, hv1] at hv2
                  simpa using hv2
                subst e12
                obtain ⟨v3, hv3, hs3⟩ := hrp i _ b4
                have rv1 : σ[i]? = some (some v1) := rv1
                have e13 : v1 = v3 := by
                  rw [rv1] at hv3
                  simpa using hv3
                subst e13
                refine ⟨v1, rv1, hs2.1.keep (Ex.refl G2) _ fun a q hq => ⟨?_, fun _ e => e⟩, hs3.2⟩
                have hq : L2 a = some (j :: q) := by simpa using hq
                simp [hq, b1]
              · obtain ⟨v3, hv3, hs3⟩ := hrp i _ hi
                refine ⟨v3, hv3, ?_⟩
                cases s with
                | fz d => exact Rp.mono g2.g hs3
                | ow io kk dd =>
                  refine ⟨hs3.1.keep g2.g _ fun a q hq => ?_, hs3.2⟩
                  have hna : ¬ N a := fun ⟨i', q', hq', hm⟩ => by
                    rw [hq] at hq'
                    cases hq'
                    exact hni hm
                  obtain ⟨z1, z2, z3⟩ := hL a _ hq
                  have hnp : ¬ P0 a := fun z => z.elim z3 hna
                  refine ⟨?_, fun o ho => g2.h a o ho hnp⟩
                  have : L2 a = none := by
                    cases wl : L2 a with
                    | none => rfl
                    | some q2 => exact absurd (hL2 a _ wl).1 hnp
                  simp [this, hna, hq]
    · cases h
end
end Dn
namespace Dn
open PySem PySem.Spec PyProof.Rows L2
open Evl (Ex fresh_back)
section
variable {P : Addr → Prop} {bs : Bs} {G H G' H' : Hp} {σ : L2.St} {env : DEnv} {N : Addr → Prop}
theorem Tree.same {a : Addr} {o : HO} (hN : N a) (ha : H a = some o) (g : Gr (fun a => P a ∧ ¬ N a) G H G' H') : H' a = some o := g.h a o ha fun z => z.2 hN
end
section
variable {X : Cx} {e k : Expr} {pos : Pos} {x : Str}
end
end Dn
namespace Dn
open PySem PySem.Spec PyProof.Rows L2
open Evl (Ex fresh_back)
/-- data and new things of one's own, side by side -/
def Items (P : Addr → Prop) (G H : Hp) : (Addr → Prop) → List V → List (Option Nat × D) → Prop
  | N, [], [] => ∀ a, ¬ N a
  | N, v :: vs, (none, d) :: is => Rp G v d ∧ Items P G H N vs is
  | N, v :: vs, (some k, d) :: is => ∃ N1 N2 : Addr → Prop, (∀ a, N a ↔ N1 a ∨ N2 a) ∧ (∀ a, N1 a → ¬ N2 a) ∧ Tree P G H N1 (k + 1) v d ∧ Items P G H N2 vs is
  | _, _, _ => False
theorem Items.length {P : Addr → Prop} {G H : Hp} : ∀ {N : Addr → Prop} {vs : List V} {is : List (Option Nat × D)}, Items P G H N vs is → vs.length = is.length
  | _, [], [], _ => rfl
  | _, v :: vs, (none, d) :: is, h => congrArg (· + 1) (Items.length h.2)
  | _, v :: vs, (some k, d) :: is, ⟨_, _, _, _, _, h⟩ => congrArg (· + 1) (Items.length h)
theorem Items.there {P : Addr → Prop} {G H : Hp} : ∀ {N : Addr → Prop} {vs : List V} {is : List (Option Nat × D)}, Items P G H N vs is → ∀ a, N a → P a ∧ G a = none ∧ H a ≠ none
  | _, [], [], h, a, n => absurd n (h a)
  | _, v :: vs, (none, d) :: is, h, a, n => Items.there h.2 a n
  | _, v :: vs, (some k, d) :: is, ⟨N1, N2, e, _, t, h⟩, a, n => ((e a).mp n).elim (t.n a) (Items.there h a)
theorem Items.keep {P : Addr → Prop} {G H G' H' : Hp} : ∀ {N M : Addr → Prop} {vs : List V} {is : List (Option Nat × D)}, Items P G H N vs is → (∀ a, N a → M a) → Gr (fun a => P a ∧ ¬ M a) G H G' H' → Items P G' H' N vs is
  | _, _, [], [], h, _, _ => h
  | _, _, v :: vs, (none, d) :: is, h, m, g => ⟨h.1.mono g.g, Items.keep h.2 m g⟩
  | _, M, v :: vs, (some k, d) :: is, ⟨N1, N2, e, dis, t, h⟩, m, g =>
    ⟨N1, N2, e, dis, t.keep (g.wk fun a z => ⟨z.1, fun n => z.2 (m a ((e a).mpr (.inl n)))⟩), Items.keep h (fun a n => m a ((e a).mpr (.inr n))) g⟩
theorem Items.wk {P P' : Addr → Prop} {G H : Hp} (w : ∀ a, P a → P' a) : ∀ {N : Addr → Prop} {vs : List V} {is : List (Option Nat × D)}, Items P G H N vs is → Items P' G H N vs is
  | _, [], [], h => h
  | _, v :: vs, (none, d) :: is, h => ⟨h.1, Items.wk w h.2⟩
  | _, v :: vs, (some k, d) :: is, ⟨N1, N2, e, dis, t, h⟩ => ⟨N1, N2, e, dis, t.wk w, Items.wk w h⟩
section
variable {X : Cx} {a b c e : Expr} {pos : Pos}
end
/-- names set one after another -/
def setσ : List Nat → List V → L2.St → L2.St
  | i :: is, v :: vs, σ => setσ is vs (σ.set i (some v))
  | _, _, σ => σ
def setE : List Nat → List (Option Nat × D) → DEnv → DEnv
  | i :: is, (none, d) :: ds, e => setE is ds (e.set i (some (.fz d)))
  | i :: is, (some k, d) :: ds, e => setE is ds (e.set i (some (.ow false k d)))
  | _, _, e => e
theorem Rep.items {P : Addr → Prop} {bs : Bs} {G H : Hp} : ∀ {is : List Nat} {vs : List V} {its : List (Option Nat × D)} {N : Addr → Prop} {σ : L2.St} {env : DEnv}, Rep (fun a => P a ∧ ¬ N a) bs G H σ env → Items P G H N vs its → is.length = its.length → Rep P bs G H (setσ is vs σ) (setE is its env)
  | [], [], [], N, σ, env, r, h, _ => r.wkP fun a z => z.1
  | i :: is, v :: vs, (none, d) :: its, N, σ, env, r, h, hl => Rep.items (is := is) (vs := vs) (its := its) (r.set h.1) h.2 (by simpa using hl)
  | i :: is, v :: vs, (some k, d) :: its, N, σ, env, r, ⟨N1, N2, e, dis, t, h⟩, hl => by
    have r1 : Rep (fun a => (P a ∧ ¬ N2 a) ∧ ¬ N1 a) bs G H σ env := r.wkP fun a z => ⟨⟨z.1, fun n => z.2 ((e a).mpr (.inr n))⟩, fun n => z.2 ((e a).mpr (.inl n))⟩
    have t1 : Tree (fun a => P a ∧ ¬ N2 a) G H N1 (k + 1) v d := ⟨fun a n => ⟨⟨(t.n a n).1, dis a n⟩, (t.n a n).2⟩, t.r⟩
    exact Rep.items (is := is) (vs := vs) (its := its) (r1.ownNew t1 i) h (by simpa using hl)
  | [], v :: vs, d :: its, N, σ, env, r, h, hl => by cases hl
  | i :: is, [], [], N, σ, env, r, h, hl => by cases hl
/-- x, y, .. = a, b, .. -/
def sPars (is : List Nat) (m : Mo (List (Option Nat × D))) : So := fun env =>
  match m env with
  | some (its, e1) => if is.length = its.length then some (.nx (setE is its e1)) else none
  | none => none
section
variable {X : Cx} {a b c e : Expr} {pos : Pos} {x y z : Str}
end
end Dn
namespace Dn
open PySem PySem.Spec PyProof.Rows L2
open Evl (Ex fresh_back)
section
variable {X : Cx} {tg e iter elt : Expr} {pos : Pos} {ifs : List Expr} {scope : Scope}
theorem lcN_run {ts vs : List Nat} {Fi : Mo (List D)} {B : D → DEnv → Option DEnv} {Ft : Mo Bool} {Fe : Mo D} {wi : TI} {g : TG} {tt : TT} {te : TE}
    (i2 : ∀ (P : Addr → Prop) (b : Bs) (σ : L2.St) (env : DEnv) (G H : Hp) (ds : List D) (env' : DEnv), Rep P b G H σ env → Fi env = some (ds, env') →
      ∀ R : It → Hp → Prop, (∀ J G' H', Gr P G H G' H' → Rep P b G' H' σ env' → Yields tg J G' ds → R J H') → wi σ H R)
    (g2 : ∀ (P : Addr → Prop) (b : Bs) (σ : L2.St) (env : DEnv) (G H : Hp) (v : V) (d : D) (env' : DEnv), Rep P b G H σ env → RpT tg G v d → B d env = some env' →
      ∀ Q : L2.St → Hp → Prop, (∀ σ' : L2.St, Rep P b G H σ' env' → σ'.length = σ.length → (∀ j : Nat, j ∉ ts → σ'[j]? = σ[j]?) → Q σ' H) → g v σ H Q)
    (t2 : ∀ (P : Addr → Prop) (b : Bs) (σ : L2.St) (env : DEnv) (G H : Hp) (d : Bool) (env' : DEnv), Rep P b G H σ env → Ft env = some (d, env') →
      ∀ Q : Bool → Hp → Prop, (∀ G' H', Gr P G H G' H' → Rep P b G' H' σ env' → Q d H') → tt σ H Q)
    (e2 : ∀ (P : Addr → Prop) (b : Bs) (σ : L2.St) (env : DEnv) (G H : Hp) (d : D) (env' : DEnv), Rep P b G H σ env → Fe env = some (d, env') →
      ∀ Q : VK, (∀ v G' H' N, Gr P G H G' H' → Rep (fun a => P a ∧ ¬ N a) b G' H' σ env' → Tree P G' H' N 1 v d → Q v H') → te σ H Q)
    (hts : ∀ j ∈ ts, j ∈ vs) {P : Addr → Prop} {b : Bs} {σ : L2.St} {env : DEnv} {G H : Hp} {out : List D} {env' : DEnv} (rr : Rep P b G H σ env) (h : mLc Fi B Ft Fe vs env = some (out, env')) (Q : VK)
    (q : ∀ p G' H' N, Gr P G H G' H' → Rep (fun a => P a ∧ ¬ N a) b G' H' σ env' → Tree P G' H' N 2 (.ref p) (.list out) → Q (.ref p) H') : tLc wi g tt te vs σ H Q := by
  unfold mLc at h
  cases w : Fi env with
  | none => rw [w] at h; cases h
  | some pr =>
    obtain ⟨ds, e1⟩ := pr
    simp only [w] at h
    split at h
    · rename_i hc
      rw [Bool.and_eq_true, decide_eq_true_eq] at hc
      obtain ⟨hlen, hok⟩ := hc
      cases w2 : lcGo B Ft Fe vs ds (wipeD e1 vs) with
      | none => simp only [w2] at h; cases h
      | some pr2 =>
        obtain ⟨ys, ef⟩ := pr2
        simp only [w2] at h
        cases h
        refine i2 P b σ env G H ds e1 rr w _ fun J G1 H1 gr1 r1 hy Dl hD => ?_
        have hPD : P Dl := r1.fresh Dl hD
        have hGD : G1 Dl = none := fresh_back r1.sub hD
        have start0 : Rep (fun a => P a ∧ ¬ a = Dl) b G1 (upd H1 Dl (.lst [])) (wipe σ vs) (wipeD e1 vs) := (r1.wipe vs).newH hD
        have gr0 : Gr P G1 H1 G1 (upd H1 Dl (.lst [])) := ⟨Ex.refl _, fun a o ha n => by
          rw [upd_ne (ne_of_none ha hD)]
          exact ha, fun _ _ n => n⟩
        refine ⟨fun i m H' => m = ds.length - i ∧ i ≤ ds.length ∧ ∃ e G' N accd zs, Gr P G1 H1 G' H' ∧ Rep (fun a => P a ∧ ¬ N a) b G' H' (wipe σ vs) e ∧ Tree P G' H' N 2 (.ref Dl) (.list accd) ∧ accd.length ≤ i ∧
          lcGo B Ft Fe vs (ds.drop i) e = some (zs, ef) ∧ accd ++ zs = out, ⟨_, rfl, Nat.zero_le _, _, G1, fun a => a = Dl, [], out, gr0, start0, Tree.nil2 hPD hGD upd_same, Nat.zero_le _, by rw [List.drop_zero]; exact w2, rfl⟩, ?_⟩
        rintro i m H' ⟨rfl, hi, e, G', N, accd, zs, gr, r', tr, hal, hf, hout⟩
        by_cases hlt : i < ds.length
        · have hdi : ds[i]? = some ds[i] := List.getElem?_eq_getElem hlt
          obtain ⟨go, yl⟩ := (hy i G' H' gr.g r'.sub).2 _ hdi
          refine .inr ⟨go, fun H2 => i + 1 ≤ ds.length ∧ ∃ e G' N accd zs, Gr P G1 H1 G' H2 ∧ Rep (fun a => P a ∧ ¬ N a) b G' H2 (wipe σ vs) e ∧ Tree P G' H2 N 2 (.ref Dl) (.list accd) ∧ accd.length ≤ i + 1 ∧
            lcGo B Ft Fe vs (ds.drop (i + 1)) e = some (zs, ef) ∧ accd ++ zs = out, fun H2 h2 => ⟨ds.length - (i + 1), by omega, rfl, h2⟩, fun x H2 y => ?_⟩
          obtain ⟨G2, pu, rx⟩ := yl x H2 y
          rw [List.drop_eq_getElem_cons hlt] at hf
          unfold lcGo at hf
          have r2 := r'.pu pu
          have wk : ∀ {Ga Ha Gb Hb : Hp}, Gr (fun a => P a ∧ ¬ N a) Ga Ha Gb Hb → Gr P Ga Ha Gb Hb := fun g => g.wk fun x h => h.1
          have gA := pu.gr r'.fresh
          have grA : Gr P G1 H1 G2 H2 := gr.trans (wk gA)
          have trA := tr.keep gA
          cases w3 : B ds[i] e with
          | none => simp only [w3] at hf; cases hf
          | some eb =>
            simp only [w3] at hf
            refine g2 _ b (wipe σ vs) e G2 H2 x _ eb r2 rx w3 _ fun σ2 r3 l3 o3 => ⟨wipe_eq l3 o3 hts, ?_⟩
            have ew : wipe σ2 vs = wipe σ vs := wipe_eq l3 o3 hts
            cases w4 : Ft eb with
            | none => simp only [w4] at hf; cases hf
            | some pr4 =>
              obtain ⟨k, et⟩ := pr4
              simp only [w4] at hf
              refine t2 _ b σ2 eb G2 H2 k et r3 w4 _ fun G3 H3 g3 r4 => ?_
              have trB := trA.keep g3
              cases k with
              | false =>
                simp only [if_neg (show ¬ (false = true) by decide)] at hf ⊢
                refine ⟨hlt, wipeD et vs, G3, N, accd, zs, grA.trans (wk g3), ?_, trB, Nat.le_succ_of_le hal, hf, hout⟩
                rw [← ew]
                exact r4.wipe vs
              | true =>
                simp only [if_pos (show true = true from rfl)] at hf ⊢
                cases w5 : Fe et with
                | none => simp only [w5] at hf; cases hf
                | some pr5 =>
                  obtain ⟨yd, ee⟩ := pr5
                  simp only [w5] at hf
                  cases w6 : lcGo B Ft Fe vs (ds.drop (i + 1)) (wipeD ee vs) with
                  | none => simp only [w6] at hf; cases hf
                  | some pr6 =>
                    obtain ⟨ys6, e6⟩ := pr6
                    simp only [w6] at hf
                    cases hf
                    refine e2 _ b σ2 et G3 H3 yd ee r4 w5 _ fun v G4 H4 N4 g4 r5 t4 => ?_
                    have trC := trB.keep g4
                    obtain ⟨a, acc, ea, hNa, hPa, hGa, hacc, hln, _⟩ := trC.list2 rfl
                    cases ea
                    have t4' : Tree P G4 H4 N4 1 v yd := t4.wk fun a z => z.1
                    have dis : ∀ c, N c → ¬ N4 c := fun c hc hc4 => (t4.n c hc4).1.2 hc
                    have tr5 := Tree.app2 trC t4' dis hacc
                    refine ⟨acc, hacc, line_lt (by omega), hlt, wipeD ee vs, G4, fun c => N c ∨ N4 c, accd ++ [yd], ys6, ?_, ?_, tr5, by rw [List.length_append]; simpa using hal, w6, by rw [List.append_assoc]; exact hout⟩
                    · have gg := (grA.trans (wk g3)).trans (wk g4)
                      exact ⟨gg.g, fun a o ha n => by
                        rw [upd_ne (show a ≠ Dl from fun z => n (by rw [z]; exact hPD))]
                        exact gg.h a o ha n, gg.n⟩
                    · rw [← ew]
                      have := (r5.wipe vs).updH (o := .lst (acc ++ [v])) (p := Dl) (fun z => z.1.2 hNa) hGa
                      exact this.wkP fun c z => ⟨z.1.1, fun n => n.elim z.1.2 z.2⟩
        · have e0 : i = ds.length := by omega
          subst e0
          rw [List.drop_length] at hf
          cases hf
          rw [List.append_nil] at hout
          subst hout
          exact .inl ⟨(hy _ G' H' gr.g r'.sub).1 (Nat.le_refl _), q Dl G' H' N (gr1.trans gr) (r1.back r' gr.g hok) tr⟩
    · cases h
def cN (F : Mo D) : TE := fun σ H Q => ∃ (P : Addr → Prop) (b : Bs) (env : DEnv) (G : Hp) (d : D) (env' : DEnv), Rep P b G H σ env ∧ F env = some (d, env') ∧ ∀ v G' H' N, Gr P G H G' H' → Rep (fun a => P a ∧ ¬ N a) b G' H' σ env' → Tree P G' H' N 1 v d → Q v H'
theorem DenN.pe {X : Cx} {e : Expr} {F : Mo D} (h : DenN X e 1 F) : PE X e (cN F) := by
  obtain ⟨t, h1, h2⟩ := h
  exact ⟨fun pins s σ H Q I ⟨P, b, env, G, d, env', r, hF, q⟩ => h1.run pins s σ H Q I (h2 P b σ env G H d env' r hF Q q)⟩
/-- a list of new lists -/
theorem denn_lc2 (own : List (Str × Nat)) {ts vs : List Nat} {Fi : Mo (List D)} {B : D → DEnv → Option DEnv} {Ft : Mo Bool} {Fe : Mo D} (hc : X.calm = true) (hN : X.N.Nodup) (hi : DenI X tg iter Fi) (ok : BlkOk X.N X.env.scope scope own)
    (hg : ∀ (s : Shared) (H : Hp) (C : Addr) (cl : List (Str × Addr)) (fp : List Addr), DenG (X.blk s H scope (compEnvC scope cl C X.env) fp) tg ts B)
    (ht : ∀ (s : Shared) (H : Hp) (C : Addr) (cl : List (Str × Addr)) (fp : List Addr), DenTs (X.blk s H scope (compEnvC scope cl C X.env) fp) ifs Ft)
    (he : ∀ (s : Shared) (H : Hp) (C : Addr) (cl : List (Str × Addr)) (fp : List Addr), DenN (X.blk s H scope (compEnvC scope cl C X.env) fp) elt 1 Fe)
    (hvs : own.map (·.2) = vs := by rfl) (hts : ∀ j ∈ ts, j ∈ vs := by decide) (hs : ∀ x, foldedSetIterable iter X.env x = pure x := by intro _; rfl) :
    DenN X (.ListComp elt [⟨tg, iter, ifs, 0⟩] scope pos) 2 (mMap (fun ds => some (.list ds)) (mLc Fi B Ft Fe vs)) := by
  obtain ⟨wi, i1, i2⟩ := hi
  subst hvs
  exact ⟨_, pe_lc hc hN i1 ok (fun s H C cl fp => (hg s H C cl fp).pe) (fun s H C cl fp => (ht s H C cl fp).pe) (fun s H C cl fp => (he s H C cl fp).pe) hs, fun P b σ env G H out env' rr h Q q => by
    obtain ⟨ds, hd, hz⟩ := mMap_some h
    cases hz
    exact lcN_run i2 (fun P b σ env G H v d env' r rv hB Q q => cG_run r rv hB Q q) (fun P b σ env G H d env' r hF Q q => cTs_run r hF Q q) (fun P b σ env G H d env' r hF Q q => ⟨P, b, env, G, d, env', r, hF, q⟩) hts rr hd Q fun p G' H' N g r t => q _ G' H' N g r t⟩
end
end Dn
namespace Dn
open PySem PySem.Spec PyProof.Rows L2
open Evl (Ex fresh_back)
/-- the built-ins' names are the built-ins' -/
structure Blt (mg : Str → Option Value) : Prop where
  len_ : mg "len" = none
  sum_ : mg "sum" = none
  all_ : mg "all" = none
  any_ : mg "any" = none
  tuple_ : mg "tuple" = none
  list_ : mg "list" = none
  sorted_ : mg "sorted" = none
  max_ : mg "max" = none
  min_ : mg "min" = none
  range_ : mg "range" = none
  zip_ : mg "zip" = none
  enumerate_ : mg "enumerate" = none
  reversed_ : mg "reversed" = none
  set_ : mg "set" = none
  isinstance_ : mg "isinstance" = none
  int_ : mg "int" = none
  bool_ : mg "bool" = none
  str_ : mg "str" = none
/-- a def as it stands behind the top -/
structure Df (K : PySem.W.Frag) (mg : Str → Option Value) (x : Str) (st : Stmt) (ps : List Str) : Prop where
  ex : ∃ (f : Addr) (fd : FuncData), mg x = some (.ref f) ∧ Fun K x x st f fd ∧ Binds K fd ps []
section
variable {P : Program} {w : World} {K : PySem.W.Frag} {mg : Str → Option Value} {base : Heap}
theorem Fd.of {x : Str} {st : Stmt} {N ps : List Str} {k n : Nat} {B : So} (d : Df K mg x st ps) (S : FnScope N ps (defScope st)) (hn : ps.length = n)
    (body : ∀ (f : Addr) (cdv : Value) (A : Around) (outer : List Env) (s : Shared) (H : Hp) (E : XK), Room k (A.deeper (envOfC x (defScope st) s.heap.objs.size f cdv)) → DenSs (cxOf CX0 P w K mg base N x (defScope st) f cdv A outer s H E).nox (defBody st) B) :
    Fd P w K mg base x (k + 1) n (fun ds => outF (B (envOf N ds))) := by
  obtain ⟨f, fd, h1, h2, h3⟩ := d.ex
  subst hn
  exact Fd.mk' h2 S h1 h3 (body f)
theorem FdIO.of {x : Str} {st : Stmt} {N ps : List Str} {k : Nat} {ms : Ms} {B : So} (d : Df K mg x st ps) (S : FnScope N ps (defScope st)) (hn : ps.length = ms.length)
    (body : ∀ (f : Addr) (cdv : Value) (A : Around) (outer : List Env) (s : Shared) (H : Hp) (E : XK), Room k (A.deeper (envOfC x (defScope st) s.heap.objs.size f cdv)) → DenSs (cxOf CX0 P w K mg base N x (defScope st) f cdv A outer s H E).nox (defBody st) B) :
    FdIO P w K mg base x (k + 1) ms (fun ds => outIO ms (B (envIO N ms ds))) := by
  obtain ⟨f, fd, h1, h2, h3⟩ := d.ex
  exact FdIO.mk' h2 S h1 h3 hn (body f)
end
section
variable {X : Cx} {x : Str} {pos : Pos}
theorem dv (i : Nat) (hN : X.N[i]? = some x := by rfl) (hv : Vis X.env.scope x := by first | exact Or.inl rfl | exact Or.inr (Or.inl rfl) | exact Or.inr (Or.inr rfl)) (hd : (x == ("__debug__" : Str)) = false := by decide) (hcd : (x == ("__classdict__" : Str)) = false := by decide) :
    DenE X (.Name x pos) (mVar i) := den_var i hN hv hd hcd
theorem den_glob {u : Value} {i : Int} (hm : ∃ t, X.mg x = some (.int i t)) (hg : Gl X x) (hd : (x == ("__debug__" : Str)) = false := by decide) : DenE X (.Name x pos) (mRet (.int i)) := by
  obtain ⟨t, hm⟩ := hm
  exact den_const (v := .int i) (pe_glob hg hm ⟨t, rfl⟩ hd) fun _ => .int i
end
end Dn
namespace Dn
open PySem PySem.Spec PyProof.Rows L2
open Evl (Ex fresh_back)
/-- a list or a tuple: what is tracked, its iterator -/
def HoS (H : Hp) (a : Addr) (kd : Bool) (xs : List V) : Prop := if kd then H a = some (.lst xs) else TupS H a xs
theorem HoS.mono {G H : Hp} (e : Ex G H) {a : Addr} {kd : Bool} {xs : List V} (h : HoS G a kd xs) : HoS H a kd xs := by
  cases kd with
  | true => exact e _ _ h
  | false => exact TupS.mono e h
def itO (kd : Bool) (a : Addr) : Obj := { cls := .type (if kd then "list_iterator" else "tuple_iterator"), data := .fields #[.ref a, .int 0 0] }
def ItAt (kd : Bool) (h : Heap) (it a : Addr) (i : Nat) : Prop := if kd then h.IsListIter it a i else h.IsTupleIter it a i
def SqAt (kd : Bool) (h : Heap) (a : Addr) (items : Array Value) : Prop := if kd then h.IsList a items else h.IsTuple a items
theorem ItAt.at {kd : Bool} {h h' : Heap} {it a : Addr} {i : Nat} (x : ItAt kd h it a i) (k : ∀ o, h.get? it = some o → h'.get? it = some o) : ItAt kd h' it a i := by
  cases kd with
  | true => exact Heap.IsListIter.at x k
  | false => exact Heap.IsTupleIter.at x k
theorem ItAt.live {kd : Bool} {h : Heap} {it a : Addr} {i : Nat} (x : ItAt kd h it a i) : ∃ o, h.get? it = some o ∧ ∀ v, o.data ≠ .cell v := by
  cases kd with
  | true => obtain ⟨o, e, _, d⟩ := x; exact ⟨o, e, fun v q => by rw [d] at q; cases q⟩
  | false => obtain ⟨o, e, _, d⟩ := x; exact ⟨o, e, fun v q => by rw [d] at q; cases q⟩
theorem draws_of {prog : Program} {w : World} {A : Around} (kd : Bool) (hh : A.handled = none) (it a : Addr) (hne : a ≠ it) (items : Array Value) :
    Draws prog w A it [it, a] items.size (fun i v => items[i]? = some v) fun i h => ItAt kd h it a i ∧ SqAt kd h a items := by
  cases kd with
  | true => exact Draws.list hh it a hne items
  | false => exact Draws.tuple hh it a hne items
theorem begins_of (kd : Bool) (a : Addr) (items : Array Value) : Begins (.ref a) (itO kd a) fun h => SqAt kd h a items := by
  cases kd with
  | true => exact begins_list a items
  | false => exact begins_tuple a items
theorem itO_at {kd : Bool} {h : Heap} {it a : Addr} (e : h.get? it = some (itO kd a)) : ItAt kd h it a 0 := by
  cases kd with
  | true => exact ⟨_, e, rfl, rfl⟩
  | false => exact ⟨_, e, rfl, rfl⟩
section
variable {X : Cx} {pins : List (Addr × Obj)} {σ : L2.St} {H : Hp} {s : Shared}
theorem src_at {kd : Bool} {a : Addr} {xs : List V} (I : Inv X pins σ H s) (h : HoS H a kd xs) : ∃ its : List Value, Vals xs its ∧ SqAt kd s.heap a its.toArray ∧ a < s.heap.objs.size := by
  cases kd with
  | true =>
    obtain ⟨its, r, p, _⟩ := I.list (.of (show H a = some (.lst xs) from h))
    exact ⟨its, r, p.isList, p.lt⟩
  | false =>
    obtain ⟨its, r, p, _⟩ := I.tuple (TupS.sq (show TupS H a xs from h) (Ex.refl H))
    obtain ⟨o, ho, _⟩ := id p
    exact ⟨its, r, p, Heap.lt_size ho⟩
end
/-- an iterator of new tuples, over things that stand -/
theorem turn_gen {P : Program} {w : World} {K : PySem.W.Frag} {tg : Expr} {I : Addr} {cells wr : List Addr} {n : Nat} {Xs : Nat → List V} {C : Nat → Heap → Prop} {SH : Hp → Prop}
    (hI : I ∈ cells) (hobj : ∀ i h, C i h → ∀ b ∈ cells, ∃ o, h.get? b = some o ∧ ∀ v, o.data ≠ .cell v)
    (hkeep : ∀ i h h', C i h → (∀ b ∈ cells, ∀ o, h.get? b = some o → h'.get? b = some o) → C i h') (hle : ∀ i h, C i h → i ≤ n) (hwr : ∀ b ∈ wr, b ∈ cells) (hsz : ∀ i, (Xs i).length ≤ 3)
    (hgo : ∀ (X : Cx), X.prog = P → X.w = w → X.K = K → X.calm = true → ∀ (i : Nat) (pins : List (Addr × Obj)) (σ : L2.St) (H : Hp) (s : Shared), Inv X pins σ H s → (∀ b ∈ cells, FpOk X pins H b) → C i s.heap → SH H →
      ∃ (fp : List Addr) (Y : Nat → Heap → Value → Heap → Prop) (St : Nat → Heap → Prop), GoesN P w X.A tg I fp wr n Y St ∧ St i s.heap ∧ (∀ i h, i ≤ n → St i h → C i h) ∧ ∀ v h, Y i s.heap v h → ∃ (T : Addr) (us : List Value), v = .ref T ∧ s.heap.objs.size ≤ T ∧ h.IsTuple T us.toArray ∧ Vals (Xs i) us)
    (hself : ∀ (A : Around) (i : Nat) (s : Shared) (Q E : Value → Shared → Prop), C i s.heap → Q (.ref I) s → wpAny (model P w) A (pyIter (.ref I)) Q E s) :
    Turn P w K tg ⟨fun i H => SH H ∧ i < n, fun i H v H' => ∃ T, v = .ref T ∧ H T = none ∧ H' = upd H T (.tup (Xs i)), fun i H => SH H ∧ n ≤ i⟩ cells I C where
  mem := hI
  obj := hobj
  keep := hkeep
  item := by
    intro X hP hw hK hc i pins s σ H E I0 hf st hg
    obtain ⟨fp, Y, St, gn, st0, back, hy⟩ := hgo X hP hw hK hc i pins σ H s I0 hf st hg.1
    subst hP hw hK
    refine wpAny_mono (gn.goes i s (fun v s2 => ∃ x H', Inv X pins σ H' s2 ∧ RelV x v ∧ (∃ T, x = V.ref T ∧ H T = none ∧ H' = upd H T (.tup (Xs i))) ∧ C (i + 1) s2.heap ∧ ∀ b ∈ cells, H' b = none) E hg.2 st0 fun v h' tk hY st1 hk _ => ?_) (fun r s1 ⟨v, e, h⟩ => ⟨v, e, wpAny_mono h (fun _ _ q => q) fun _ _ z => z⟩) fun _ _ z => z
    obtain ⟨T, us, rfl, hT, ht, hv⟩ := hy v h' hY
    have new : ObjOk X.prog X.w (upd H T (.tup (Xs i))) h' T (.tup (Xs i)) := ⟨Nat.le_trans (hsz i) (by decide), us, hv, ht⟩
    have I1 : Inv X pins σ (upd H T (.tup (Xs i))) { s with heap := h', toks := tk } := I0.turnedNew (ch := cells) (fun b o hb e => hk b o (fun z => hb (hwr b z)) e) hf hT new
    refine ⟨.ref T, _, I1, rfl, ⟨T, rfl, I0.hok.fresh hT, rfl⟩, back _ _ hg.2 st1, fun b hb => ?_⟩
    obtain ⟨o, ho, _⟩ := hobj i s.heap st b hb
    rw [upd_ne (Nat.ne_of_lt (Nat.lt_of_lt_of_le (Heap.lt_size ho) hT))]
    exact (hf b hb).1
  done := by
    intro X hP hw hK hc i pins s σ H E I0 hf st hg
    obtain ⟨fp, Y, St, gn, st0, back, hy⟩ := hgo X hP hw hK hc i pins σ H s I0 hf st hg.1
    subst hP hw hK
    have e : i = n := Nat.le_antisymm (hle i _ st) hg.2
    subst e
    exact gn.stops s _ E st0 fun h' tk hk _ => I0.turnedL (t' := tk) (ch := cells) (fun b o hb e => hk b o (fun z => hb (hwr b z)) e) hf
  self := hself
def pairsD : List D → List D → List D
  | x :: xs, y :: ys => .tuple [x, y] :: pairsD xs ys
  | _, _ => []
theorem pairsD_len : ∀ (xs ys : List D), (pairsD xs ys).length = min xs.length ys.length
  | [], ys => by simp [pairsD]
  | x :: xs, [] => by simp [pairsD]
  | x :: xs, y :: ys => by
    simp only [pairsD, List.length_cons, pairsD_len xs ys]
    omega
theorem pairsD_get : ∀ (xs ys : List D) (i : Nat) (d : D), (pairsD xs ys)[i]? = some d → ∃ x y, xs[i]? = some x ∧ ys[i]? = some y ∧ d = .tuple [x, y]
  | x :: xs, y :: ys, 0, d, h => by cases h; exact ⟨x, y, rfl, rfl, rfl⟩
  | x :: xs, y :: ys, i + 1, d, h => pairsD_get xs ys i d h
  | [], ys, i, d, h => by simp [pairsD] at h
  | x :: xs, [], i, d, h => by simp [pairsD] at h
/-- the items of a list or a tuple, by what it is -/
theorem Rp.seq {G : Hp} {v : V} {d : D} {ds : List D} (r : Rp G v d) (h : gSeq d = some ds) : ∃ (kd : Bool) (a : Addr) (vs : List V), v = .ref a ∧ HoS G a kd vs ∧ RpAll G vs ds := by
  cases r with
  | lst ha ra => cases h; exact ⟨true, _, _, rfl, ha, ra⟩
  | tup ha ra => cases h; exact ⟨false, _, _, rfl, ha, ra⟩
  | _ => cases h
def zipJ2 (a b : Addr) (kd ke : Bool) (xs ys : List V) : It :=
  ⟨fun i H => (HoS H a kd xs ∧ HoS H b ke ys) ∧ i < min xs.length ys.length, fun i H v H' => ∃ T, v = .ref T ∧ H T = none ∧ H' = upd H T (.tup [xs.getD i .non, ys.getD i .non]), fun i H => (HoS H a kd xs ∧ HoS H b ke ys) ∧ min xs.length ys.length ≤ i⟩
theorem vals_getD {xs : List V} {its : List Value} (r : Vals xs its) {i : Nat} {u : Value} (h : its.toArray[i]? = some u) : RelV (xs.getD i .non) u := by
  have h' : its[i]? = some u := by simpa using h
  have hl : i < xs.length := by
    rw [r.length]
    exact (List.getElem?_eq_some_iff.mp h').1
  obtain ⟨u', hu, ru⟩ := r.get (List.getElem?_eq_getElem hl)
  rw [h'] at hu
  cases hu
  rw [List.getD_eq_getElem?_getD, List.getElem?_eq_getElem hl]
  exact ru
theorem turn_zip2 {P : Program} {w : World} {K : PySem.W.Frag} {elts : List Expr} {kk : Nat} {tpos : Pos} {a b N : Addr} {kd ke : Bool} {xs ys : List V} (ha : a < N) (hb : b < N) :
    Turn P w K (.Tuple elts kk tpos) (zipJ2 a b kd ke xs ys) [N + 4, N + 2, N + 3, N, N + 1] (N + 4)
      (fun i h => i ≤ min xs.length ys.length ∧ IsZip h (N + 4) (N + 2) (N + 3) .none ∧ IsTupOf2 h (N + 2) (.ref N) (.ref (N + 1)) ∧ (∃ x y, IsTupOf2 h (N + 3) x y) ∧ ItAt kd h N a i ∧ ItAt ke h (N + 1) b i) := by
  refine turn_gen (wr := [N + 4, N + 3, N, N + 1]) (by simp) (fun i h st c hc => ?_) (fun i h h' st k => ?_) (fun i h st => st.1) (fun c hc => ?_) (fun i => by simp) (fun X hP hw hK hc i pins σ H s I hf st sh => ?_) (fun A i s Q E st h => wpAny_pyIter_zip st.2.1 h)
  · obtain ⟨_, hz, hTI, ⟨x, y, hTO⟩, h1, h2⟩ := st
    have e' : c = N + 4 ∨ c = N + 2 ∨ c = N + 3 ∨ c = N ∨ c = N + 1 := by simpa using hc
    rcases e' with q | q | q | q | q
    · rw [q]; exact ⟨_, hz, fun v q => nomatch q⟩
    · rw [q]; exact ⟨_, hTI, fun v q => nomatch q⟩
    · rw [q]; exact ⟨_, hTO, fun v q => nomatch q⟩
    · rw [q]; exact h1.live
    · rw [q]; exact h2.live
  · obtain ⟨hi, hz, hTI, ⟨x, y, hTO⟩, h1, h2⟩ := st
    exact ⟨hi, k _ (by simp) _ hz, k _ (by simp) _ hTI, ⟨x, y, k _ (by simp) _ hTO⟩, h1.at fun o q => k _ (by simp) o q, h2.at fun o q => k _ (by simp) o q⟩
  · simp at hc ⊢
    rcases hc with q | q | q | q <;> simp [q]
  · subst hP hw hK
    obtain ⟨its, r1, p1, l1⟩ := src_at I sh.1
    obtain ⟨its2, r2, p2, l2⟩ := src_at I sh.2
    obtain ⟨hi, hz, hTI, hTO, h1, h2⟩ := st
    have sep : ZipSep2 (N + 4) (N + 2) (N + 3) N (N + 1) (N :: [a]) ((N + 1) :: [b]) := zip_sep2 (fun c hc => by simp at hc; rw [hc]; exact ha) (fun c hc => by simp at hc; rw [hc]; exact hb)
    have G := GoesN.zip2 (prog := X.prog) (w := X.w) (A := X.A) (elts := elts) (x1 := kk) (pos := tpos) sep (draws_of (A := X.A.in1) kd (show X.A.in1.handled = none from I.ok.hd hc) N a (Nat.ne_of_lt ha) its.toArray) (draws_of (A := X.A.in1) ke (show X.A.in1.handled = none from I.ok.hd hc) (N + 1) b (Nat.ne_of_lt (Nat.lt_succ_of_lt hb)) its2.toArray)
    have en : min its.toArray.size its2.toArray.size = min xs.length ys.length := by simp [r1.length, r2.length]
    rw [en] at G
    refine ⟨_, _, _, G, ⟨hz, hTI, hTO, ⟨h1, p1⟩, h2, p2⟩, fun j h hj st => ⟨hj, st.1, st.2.1, st.2.2.1, st.2.2.2.1.1, st.2.2.2.2.1⟩, fun v h hY => ?_⟩
    obtain ⟨T, x, y, rfl, hT, hx, hy, ht⟩ := hY
    exact ⟨T, [x, y], rfl, hT, ht, .cons (vals_getD r1 hx) (.cons (vals_getD r2 hy) .nil)⟩
theorem getD_rp {G : Hp} {vs : List V} {ds : List D} {i : Nat} {d : D} (r : RpAll G vs ds) (h : ds[i]? = some d) : Rp G (vs.getD i .non) d := by
  obtain ⟨v, hv, rv⟩ := r.get h
  rw [List.getD_eq_getElem?_getD, hv]
  exact rv
def gZip2 : List D → Option (List D)
  | [x, y] => (gSeq x).bind fun xs => (gSeq y).map fun ys => pairsD xs ys
  | _ => none
section
variable {X : Cx} {pos : Pos}
theorem deni_zip2 {e e2 : Expr} {p tpos : Pos} {elts : List Expr} {kk : Nat} {F : Mo (List D)} (hg : Gl X "zip") (hm : X.mg "zip" = none) (ha : DenA X [e, e2] F)
    (hs : starEach [e, e2] X.env = (false, eval e X.env) :: starEach [e2] X.env := by rfl) (hpl : (backTo pos (starEach [e2] X.env)).any (·.1) = false := by rfl) :
    DenI X (.Tuple elts kk tpos) (.Call (.Name "zip" p) [e, e2] [] pos) (mMap gZip2 F) := by
  obtain ⟨t, h1, h2⟩ := ha
  refine ⟨fun σ H R => t σ H fun vs H1 => ∃ a b kd ke xs ys, vs = [.ref a, .ref b] ∧ HoS H1 a kd xs ∧ HoS H1 b ke ys ∧ R (zipJ2 a b kd ke xs ys) H1, ⟨fun pins s σ H R I h => ?_⟩, fun P b σ env G H ds env' rr h R q => ?_⟩
  · refine Call_ (ld_blt I hg hm PyProof.Rows.boot_zip (PyProof.Rows.callWith_type1 (thn (h1.run pos pins s σ H _ I h) fun us s1 ⟨vs, H1, I1, r1, q1⟩ => ?_) hs hpl))
    obtain ⟨a, b, kd, ke, xs, ys, ex, hx, hy, q1⟩ := q1
    subst ex
    cases r1 with
    | cons r rr =>
      cases rr with
      | cons r' rr =>
        cases rr
        cases r
        cases r'
        obtain ⟨its, rv, p1, l1⟩ := src_at I1 hx
        obtain ⟨its2, rv2, p2, l2⟩ := src_at I1 hy
        refine zip_begins2 (begins_of kd a its.toArray) (begins_of ke b its2.toArray) p1 p2 fun h' hz hTI hTO o1 o2 hsz hk => wpAny_pyIter_zip hz ?_
        have I2 : Inv X pins σ H1 { s1 with heap := h' } := I1.kept (t' := s1.toks) hk
        have fresh5 : ∀ c, c ∈ [s1.heap.objs.size + 4, s1.heap.objs.size + 2, s1.heap.objs.size + 3, s1.heap.objs.size, s1.heap.objs.size + 1] → FpOk X pins H1 c := fun c hcm => by
          have e' : c = s1.heap.objs.size + 4 ∨ c = s1.heap.objs.size + 2 ∨ c = s1.heap.objs.size + 3 ∨ c = s1.heap.objs.size ∨ c = s1.heap.objs.size + 1 := by simpa using hcm
          have hle : s1.heap.objs.size ≤ c := by
            rcases e' with z | z | z | z | z
            · rw [z]; exact Nat.le_add_right _ _
            · rw [z]; exact Nat.le_add_right _ _
            · rw [z]; exact Nat.le_add_right _ _
            · rw [z]; exact Nat.le_refl _
            · rw [z]; exact Nat.le_add_right _ _
          exact I1.fpOk hle (I1.hok.fresh hle)
        exact ⟨_, _, _, _, H1, rfl, I2, turn_zip2 l1 l2, ⟨Nat.zero_le _, hz, hTI, ⟨_, _, hTO⟩, itO_at o1, itO_at o2⟩, fresh5, q1⟩
  · obtain ⟨z, hk, hz⟩ := mMap_some h
    refine h2 P b σ env G H z env' rr hk _ fun v G' H' g r pr => ?_
    unfold gZip2 at hz
    split at hz
    · rename_i dx dy
      cases w1 : gSeq dx with
      | none => rw [w1] at hz; cases hz
      | some xs =>
        cases w2 : gSeq dy with
        | none => rw [w1, w2] at hz; cases hz
        | some ys =>
          rw [w1, w2] at hz
          cases hz
          obtain ⟨v1, v2, rfl, p1, p2⟩ := pr.inv2
          obtain ⟨kd, a, vs, rfl, hx, rx⟩ := p1.seq w1
          obtain ⟨ke, c, ws, rfl, hy, ry⟩ := p2.seq w2
          refine ⟨a, c, kd, ke, vs, ws, rfl, hx.mono r.sub, hy.mono r.sub, q _ G' H' g r fun i G1 H1 e1 e2 => ⟨fun hi => ?_, fun d hd => ?_⟩⟩
          · rw [pairsD_len] at hi
            exact ⟨⟨(hx.mono e1).mono e2, (hy.mono e1).mono e2⟩, by rw [rx.length, ry.length]; exact hi⟩
          · obtain ⟨x, y, hx', hy', rfl⟩ := pairsD_get xs ys i d hd
            have l1 : i < xs.length := (List.getElem?_eq_some_iff.mp hx').1
            have l2 : i < ys.length := (List.getElem?_eq_some_iff.mp hy').1
            refine ⟨⟨⟨(hx.mono e1).mono e2, (hy.mono e1).mono e2⟩, by rw [rx.length, ry.length]; omega⟩, fun x' H' yl => ?_⟩
            obtain ⟨T, rfl, hT, rfl⟩ := yl
            have pu := Pu.new (o := .tup [vs.getD i .non, ws.getD i .non]) e2 hT
            exact ⟨_, pu, .inr ⟨rfl, _, _, _, rfl, rfl, upd_same, .cons (((getD_rp rx hx').mono e1).mono pu.g) (.cons (((getD_rp ry hy').mono e1).mono pu.g) .nil)⟩⟩
    · cases hz
end
end Dn
namespace PySem
open Sem (wp)
set_option maxHeartbeats 2000000 in
theorem meets_enumerate_one {v : Value} {o : Obj} {H : Heap → Prop} (B : Begins v o H) :
    Meets (Builtin.«enumerate.__new__» ⟨[.type "enumerate", v], []⟩) (fun _ R s => H s.heap ∧
      R (.ok (.ret (.ref (s.heap.push o).objs.size))) { s with heap := (s.heap.push o).push { cls := .type "enumerate", data := .fields #[.none, .bool false, .ref s.heap.objs.size, rawInt 0, .none, .none] } }) :=
  .of_wp fun prog w A R s h => by
    obtain ⟨hp, g, d, tk, os⟩ := s; obtain ⟨h1, h⟩ := h
    have hsub := sub_enumerate
    have q1 : ∀ {A' : Around} {E : Value → Shared → Prop} {Q : Value → Shared → Prop}, Q (.ref hp.objs.size) ⟨hp.push o, g, d, tk, os⟩ → wpAny (model prog w) A' (pyIter v) Q E ⟨hp, g, d, tk, os⟩ :=
      fun q => B.iter prog w _ _ ⟨hp, g, d, tk, os⟩ _ h1 q
    wp_walk using q1
    refine wpAny_stack_any fun st => wpAny_pure ?_
    split
    · rename_i c _ _ _ _ _
      cases (c == Value.type "enumerate")
      · wp_walk using q1
        exact ⟨_, rfl, h⟩
      · wp_walk using q1
        exact ⟨_, rfl, h⟩
    · wp_walk using q1
      exact ⟨_, rfl, h⟩
theorem enum_begins_one {prog : Program} {w : World} {A : Around} {E : Value → Shared → Prop} {s : Shared} {v : Value} {o : Obj} {H : Heap → Prop} {Q : Value → Shared → Prop} (B : Begins v o H) (h1 : H s.heap)
    (h : ∀ h', IsEnum h' (s.heap.objs.size + 1) s.heap.objs.size 0 .none → h'.get? s.heap.objs.size = some o → h'.objs.size = s.heap.objs.size + 2 →
      (∀ b o, s.heap.get? b = some o → h'.get? b = some o) → Q (.ref (s.heap.objs.size + 1)) { s with heap := h' }) :
    wpAny (model prog w) A (call (.type "enumerate") [v]) Q E s := by
  refine callType_new F.called_enumerate (by decide) (F.typeCall_enumerate_1 _) (F.newCall_enumerate_1 _) (fun obj => F.args_object_init_2 obj _) F.entry_enumerate_new
    (meets_enumerate_one B) ⟨h1, ?_⟩
  have hz : (s.heap.push o).objs.size = s.heap.objs.size + 1 := Heap.size_push ..
  show _ ∧ _
  rw [hz]
  have he : IsEnum ((s.heap.push o).push { cls := .type "enumerate", data := .fields #[.none, .bool false, .ref s.heap.objs.size, rawInt 0, .none, .none] }) (s.heap.objs.size + 1) s.heap.objs.size 0 .none := by
    have := Heap.get?_push_size (s.heap.push o) (o := { cls := .type "enumerate", data := .fields #[.none, .bool false, .ref s.heap.objs.size, rawInt 0, .none, .none] }) rfl
    rw [hz] at this; exact this
  refine ⟨⟨_, he, rfl⟩, h _ he (Heap.get?_push_of_some _ (Heap.get?_push_size _ B.free)) (by rw [Heap.size_push, hz]) fun b o x => Heap.get?_push_of_some _ (Heap.get?_push_of_some _ x)⟩
end PySem
namespace Dn
open PySem PySem.Spec PyProof.Rows L2
open Evl (Ex fresh_back)
def enumD (k : Nat) : List D → List D
  | [] => []
  | x :: xs => .tuple [.int k, x] :: enumD (k + 1) xs
theorem enumD_len : ∀ (k : Nat) (xs : List D), (enumD k xs).length = xs.length
  | _, [] => rfl
  | k, x :: xs => by simp [enumD, enumD_len (k + 1) xs]
theorem enumD_get : ∀ (k : Nat) (xs : List D) (i : Nat) (d : D), (enumD k xs)[i]? = some d → ∃ x, xs[i]? = some x ∧ d = .tuple [.int ((k + i : Nat) : Int), x]
  | k, x :: xs, 0, d, h => by cases h; exact ⟨x, rfl, rfl⟩
  | k, x :: xs, i + 1, d, h => by
    obtain ⟨y, h1, h2⟩ := enumD_get (k + 1) xs i d h
    exact ⟨y, h1, by rw [h2, show k + 1 + i = k + (i + 1) by omega]⟩
  | k, [], i, d, h => by simp [enumD] at h
def enumJ (a : Addr) (kd : Bool) (xs : List V) : It :=
  ⟨fun i H => (HoS H a kd xs) ∧ i < xs.length, fun i H v H' => ∃ T, v = .ref T ∧ H T = none ∧ H' = upd H T (.tup [.int (i : Nat), xs.getD i .non]), fun i H => (HoS H a kd xs) ∧ xs.length ≤ i⟩
theorem turn_enumA {P : Program} {w : World} {K : PySem.W.Frag} {elts : List Expr} {kk : Nat} {tpos : Pos} {a N : Addr} {kd : Bool} {xs : List V} (ha : a < N) :
    Turn P w K (.Tuple elts kk tpos) (enumJ a kd xs) [N + 1, N] (N + 1) (fun i h => i ≤ xs.length ∧ (∃ old, IsEnum h (N + 1) N ((0 : Int) + (i : Int)) old) ∧ ItAt kd h N a i) := by
  refine turn_gen (wr := [N + 1, N]) (Xs := fun i => [.int (i : Nat), xs.getD i .non]) (by simp) (fun i h st c hc => ?_) (fun i h h' st k => ?_) (fun i h st => st.1) (fun c hc => hc) (fun i => by simp) (fun X hP hw hK hc i pins σ H s I hf st sh => ?_) (fun A i s Q E st h => ?_)
  · obtain ⟨_, ⟨old, he⟩, h1⟩ := st
    have e' : c = N + 1 ∨ c = N := by simpa using hc
    rcases e' with q | q
    · rw [q]; exact ⟨_, he, fun v q => nomatch q⟩
    · rw [q]; exact h1.live
  · obtain ⟨hi, ⟨old, he⟩, h1⟩ := st
    exact ⟨hi, ⟨old, k _ (by simp) _ he⟩, h1.at fun o q => k _ (by simp) o q⟩
  · subst hP hw hK
    obtain ⟨its, r1, p1, l1⟩ := src_at I sh
    obtain ⟨hi, he, h1⟩ := st
    have G := GoesN.enumFrom (prog := X.prog) (w := X.w) (A := X.A) (elts := elts) (x1 := kk) (pos := tpos) 0 (draws_of (A := X.A.in1) kd (show X.A.in1.handled = none from I.ok.hd hc) N a (Nat.ne_of_lt ha) its.toArray) (N + 1) (Nat.succ_ne_self N)
      (fun hm => by
        have hm : N + 1 = a := by simpa using hm
        exact absurd ha (by rw [← hm]; exact Nat.not_lt.mpr (Nat.le_succ N))) (by simp)
    have en : its.toArray.size = xs.length := by simp [r1.length]
    rw [en] at G
    refine ⟨_, _, _, G, ⟨he, h1, p1⟩, fun j h hj st => ⟨hj, st.1, st.2.1⟩, fun v h hY => ?_⟩
    obtain ⟨T, t, x, rfl, hT, hx, ht⟩ := hY
    exact ⟨T, [.int (0 + (i : Int)) t, x], rfl, hT, ht, .cons ⟨t, by rw [Int.zero_add]⟩ (.cons (vals_getD r1 hx) .nil)⟩
  · obtain ⟨_, ⟨old, he⟩, _⟩ := st
    exact wpAny_pyIter_enum he h
def gEnum : List D → Option (List D)
  | [x] => (gSeq x).map fun xs => enumD 0 xs
  | _ => none
section
variable {X : Cx} {pos : Pos}
theorem deni_enum {e : Expr} {p tpos : Pos} {elts : List Expr} {kk : Nat} {F : Mo (List D)} (hg : Gl X "enumerate") (hm : X.mg "enumerate" = none) (ha : DenA X [e] F) (hs : starEach [e] X.env = (false, eval e X.env) :: starEach [] X.env := by rfl) :
    DenI X (.Tuple elts kk tpos) (.Call (.Name "enumerate" p) [e] [] pos) (mMap gEnum F) := by
  obtain ⟨t, h1, h2⟩ := ha
  refine ⟨fun σ H R => t σ H fun vs H1 => ∃ a kd xs, vs = [.ref a] ∧ HoS H1 a kd xs ∧ R (enumJ a kd xs) H1, ⟨fun pins s σ H R I h => ?_⟩, fun P b σ env G H ds env' rr h R q => ?_⟩
  · refine Call_ (ld_blt I hg hm PyProof.Rows.boot_enumerate (PyProof.Rows.callWith_type1 (thn (h1.run pos pins s σ H _ I h) fun us s1 ⟨vs, H1, I1, r1, q1⟩ => ?_) hs rfl))
    obtain ⟨a, kd, xs, ex, hx, q1⟩ := q1
    subst ex
    cases r1 with
    | cons r rr =>
      cases rr
      cases r
      obtain ⟨its, rv, p1, l1⟩ := src_at I1 hx
      refine enum_begins_one (begins_of kd a its.toArray) p1 fun h' he o1 hsz hk => wpAny_pyIter_enum he ?_
      have I2 : Inv X pins σ H1 { s1 with heap := h' } := I1.kept (t' := s1.toks) hk
      have fresh2 : ∀ c, c ∈ [s1.heap.objs.size + 1, s1.heap.objs.size] → FpOk X pins H1 c := fun c hcm => by
        have e' : c = s1.heap.objs.size + 1 ∨ c = s1.heap.objs.size := by simpa using hcm
        have hle : s1.heap.objs.size ≤ c := by
          rcases e' with z | z
          · rw [z]; exact Nat.le_add_right _ _
          · rw [z]; exact Nat.le_refl _
        exact I1.fpOk hle (I1.hok.fresh hle)
      exact ⟨_, _, _, _, H1, rfl, I2, turn_enumA l1, ⟨Nat.zero_le _, ⟨_, by simpa using he⟩, itO_at o1⟩, fresh2, q1⟩
  · obtain ⟨z, hk, hz⟩ := mMap_some h
    refine h2 P b σ env G H z env' rr hk _ fun v G' H' g r pr => ?_
    unfold gEnum at hz
    split at hz
    · rename_i dx
      cases w1 : gSeq dx with
      | none => rw [w1] at hz; cases hz
      | some xs =>
        rw [w1] at hz
        cases hz
        obtain ⟨v1, rfl, p1⟩ := pr.inv1
        obtain ⟨kd, a, vs, rfl, hx, rx⟩ := p1.seq w1
        refine ⟨a, kd, vs, rfl, hx.mono r.sub, q _ G' H' g r fun i G1 H1 e1 e2 => ⟨fun hi => ?_, fun d hd => ?_⟩⟩
        · rw [enumD_len] at hi
          exact ⟨(hx.mono e1).mono e2, by rw [rx.length]; exact hi⟩
        · obtain ⟨x, hx', rfl⟩ := enumD_get 0 xs i d hd
          have l1 : i < xs.length := (List.getElem?_eq_some_iff.mp hx').1
          refine ⟨⟨(hx.mono e1).mono e2, by rw [rx.length]; exact l1⟩, fun x' H' yl => ?_⟩
          obtain ⟨T, rfl, hT, rfl⟩ := yl
          have pu := Pu.new (o := .tup [.int (i : Nat), vs.getD i .non]) e2 hT
          refine ⟨_, pu, .inr ⟨rfl, _, _, _, rfl, rfl, upd_same, .cons ?_ (.cons (((getD_rp rx hx').mono e1).mono pu.g) .nil)⟩⟩
          rw [Nat.zero_add]
          exact .int _
    · cases hz
/-- reversed(range(..)) -/
def revD (a : Int) (n : Nat) : List D := (List.range n).map fun (i : Nat) => PyData.int (a + n - 1 - i)
def gRev1 : List D → Option (List D)
  | [.int j] => if -(2 ^ 62) ≤ j ∧ j < 2 ^ 62 then some (revD 0 j.toNat) else none
  | _ => none
theorem revD_get {a : Int} {n i : Nat} {d : D} (h : (revD a n)[i]? = some d) : i < n ∧ d = .int (a + n - 1 - i) := by
  unfold revD at h
  rw [List.getElem?_map] at h
  by_cases hi : i < n
  · rw [List.getElem?_range hi] at h
    cases h
    exact ⟨hi, rfl⟩
  · rw [List.getElem?_eq_none (by simpa using hi)] at h
    cases h
theorem deni_revrange1 {tg a : Expr} {p p2 pos2 : Pos} {F : Mo D} (hg2 : Gl X "reversed") (hm2 : X.mg "reversed" = none) (hg : Gl X "range") (hm : X.mg "range" = none) (ha : DenE X a F)
    (na : starEach [a] X.env = (false, eval a X.env) :: starEach [] X.env := by rfl) (hs : starEach [.Call (.Name "range" p) [a] [] pos2] X.env = (false, eval (.Call (.Name "range" p) [a] [] pos2) X.env) :: starEach [] X.env := by rfl) :
    DenI X tg (.Call (.Name "reversed" p2) [.Call (.Name "range" p) [a] [] pos2] [] pos) (mMap (fun d => gRev1 [d]) F) := by
  obtain ⟨t, h1, h2⟩ := ha
  refine ⟨_, pi_revR hg2 hm2 (prg_1 hg hm h1 na) hs, fun P b σ env G H ds env' rr h R q => ?_⟩
  obtain ⟨z, hk, hz⟩ := mMap_some h
  refine h2 P b σ env G H z env' rr hk _ fun v G' H' g r pr => ?_
  unfold gRev1 at hz
  split at hz
  · rename_i j he
    cases he
    split at hz
    · rename_i hj
      cases hz
      refine ⟨j, pr.inv_int, by omega, by omega, hj.1, hj.2, q _ G' H' g r fun i G1 H1 e1 e2 => ⟨fun hi => ?_, fun d hd => ?_⟩⟩
      · have : (revD 0 j.toNat).length = j.toNat := by unfold revD; simp
        rw [this] at hi
        show (j - 0).toNat ≤ i
        rw [Int.sub_zero]
        exact hi
      · obtain ⟨hi, rfl⟩ := revD_get hd
        refine ⟨by show i < (j - 0).toNat; rw [Int.sub_zero]; exact hi, fun x H' yl => ?_⟩
        obtain ⟨rfl, rfl⟩ := yl
        refine ⟨G1, Pu.refl e2, ?_⟩
        have e : (0 : Int) + (((j - 0).toNat : Nat) : Int) - 1 + ((i : Nat) : Int) * (-1) = 0 + (j.toNat : Int) - 1 - (i : Int) := by
          rw [Int.sub_zero]; omega
        rw [e]
        exact .of (.int _)
    · cases hz
  · cases hz
end
end Dn
namespace Dn
open PySem PySem.Spec PyProof.Rows L2
open Evl (Ex fresh_back)
theorem zn_typeCall (args : List Value) : checkTypeCall "zip" ⟨args, []⟩ = pure () := by kernel_rfl
theorem zn_newCall0 : checkBuiltinCall "zip.__new__" ⟨[.type "zip"], []⟩ = pure () := by kernel_rfl
theorem zn_newCall1 (a : Value) (args : List Value) : checkBuiltinCall "zip.__new__" ⟨.type "zip" :: a :: args, []⟩ = pure () := by kernel_rfl
theorem zn_newCall : ∀ (args : List Value), checkBuiltinCall "zip.__new__" ⟨.type "zip" :: args, []⟩ = pure ()
  | [] => zn_newCall0
  | a :: args => zn_newCall1 a args
theorem zn_init (obj : Value) (args : List Value) : argsOk "object.__init__" ⟨obj :: args, []⟩ := by unfold argsOk; kernel_rfl
/-- what is walked: a list or a tuple, where it stands, what is in it -/
structure Src where
  kd : Bool
  a : Nat
  its : Array Value
abbrev srcV (S : Src) : Value := .ref S.a
def pushIts : Heap → List Src → Heap
  | h, [] => h
  | h, S :: r => pushIts (h.push (itO S.kd S.a)) r
theorem pushIts_size : ∀ (r : List Src) (h : Heap), (pushIts h r).objs.size = h.objs.size + r.length
  | [], h => rfl
  | S :: r, h => by
    rw [pushIts, pushIts_size r, Heap.size_push, List.length_cons]
    omega
theorem pushIts_keep : ∀ (r : List Src) (h : Heap) (b : Addr) (o : Obj), h.get? b = some o → (pushIts h r).get? b = some o
  | [], _, _, _, e => e
  | S :: r, h, b, o, e => pushIts_keep r _ b o (Heap.get?_push_of_some _ e)
theorem itO_free (kd : Bool) (a : Addr) : (itO kd a).isFreed = false := by cases kd <;> rfl
theorem pushIts_get : ∀ (r : List Src) (h : Heap) (j : Nat) (S : Src), r[j]? = some S → (pushIts h r).get? (h.objs.size + j) = some (itO S.kd S.a)
  | S :: r, h, 0, T, e => by
    simp at e
    subst e
    exact pushIts_keep r _ _ _ (Heap.get?_push_size _ (itO_free _ _))
  | S :: r, h, j + 1, T, e => by
    have := pushIts_get r (h.push (itO S.kd S.a)) j T (by simpa using e)
    rw [Heap.size_push] at this
    rw [pushIts, show h.objs.size + (j + 1) = h.objs.size + 1 + j by omega]
    exact this
  | [], h, j, S, e => by simp at e
theorem SqAt.keep {kd : Bool} {h h' : Heap} {a : Addr} {its : Array Value} (x : SqAt kd h a its) (k : ∀ b o, h.get? b = some o → h'.get? b = some o) : SqAt kd h' a its := by
  cases kd with
  | true => exact Heap.IsList.at x fun o e => k a o e
  | false => exact Heap.IsTuple.at x fun o e => k a o e
def itRefs (n : Nat) : List Src → List Value
  | [] => []
  | _ :: r => .ref n :: itRefs (n + 1) r
theorem itRefs_len : ∀ (r : List Src) (n : Nat), (itRefs n r).length = r.length
  | [], _ => rfl
  | _ :: r, n => congrArg (· + 1) (itRefs_len r (n + 1))
section
variable {prog : Program} {w : World} {A : Around} {E : Value → Shared → Prop} {s : Shared}
theorem iterAll_go {Q : Array Value → Shared → Prop} : ∀ (r : List Src) (acc : Array Value) (h : Heap), (∀ S ∈ r, SqAt S.kd h S.a S.its) → (∀ acc' : Array Value, acc'.toList = acc.toList ++ itRefs h.objs.size r → Q acc' { s with heap := pushIts h r }) →
    wpAny (model prog w) A (forIn (r.map srcV) acc fun x its => do
        let y ← holding its.toList (pyIter x)
        pure (ForInStep.yield (its.push y))) Q E { s with heap := h }
  | [], acc, h, _, hq => by
    simp only [List.map_nil, List.forIn_nil]
    exact wpAny_pure (hq acc (by simp [itRefs]))
  | S :: r, acc, h, hs, hq => by
    simp only [List.map_cons, List.forIn_cons]
    refine wpAny_bind (wpAny_bind (wpAny_holding ?_))
    refine (begins_of S.kd S.a S.its).iter prog w _ _ { s with heap := h } _ (hs S (by simp)) ?_
    refine wpAny_pure ?_
    refine iterAll_go (Q := Q) r (acc.push (.ref h.objs.size)) (h.push (itO S.kd S.a)) (fun T hT => (hs T (by simp [hT])).keep fun b o e => Heap.get?_push_of_some _ e) fun acc' he => hq acc' ?_
    rw [he, Heap.size_push, Array.toList_push, List.append_assoc]
    rfl
theorem wpAny_iterAll {r : List Src} {Q : List Value → Shared → Prop} (hs : ∀ S ∈ r, SqAt S.kd s.heap S.a S.its) (hq : Q (itRefs s.heap.objs.size r) { s with heap := pushIts s.heap r }) :
    wpAny (model prog w) A (Builtin.SmallTypes.iterAll (r.map srcV)) Q E s := by
  unfold Builtin.SmallTypes.iterAll
  refine wpAny_bind ?_
  refine iterAll_go r #[] s.heap hs fun acc' he => ?_
  refine wpAny_pure ?_
  rw [he]
  simpa using hq
def zT (h : Heap) (r : List Src) : Heap := (pushIts h r).push { cls := .type "tuple", data := .seq (itRefs h.objs.size r).toArray }
def zO (h : Heap) (r : List Src) : Heap := (zT h r).push { cls := .type "tuple", data := .seq ((itRefs h.objs.size r).map fun _ => Value.none).toArray }
def zZ (h : Heap) (r : List Src) : Heap := (zO h r).push { cls := .type "zip", data := .fields #[.none, .bool false, .bool false, .ref (pushIts h r).objs.size, .ref (zT h r).objs.size] }
theorem meets_zip_newN {r : List Src} (hl : r.length ≤ 1000) :
    Meets (Builtin.«zip.__new__» ⟨.type "zip" :: r.map srcV, []⟩) (fun _ R s => (∀ S ∈ r, SqAt S.kd s.heap S.a S.its) ∧
      R (.ok (.ret (.ref (zO s.heap r).objs.size))) { s with heap := zZ s.heap r }) :=
  .of_wp fun prog w A R s h => by
    obtain ⟨hp, g, d, tk, os⟩ := s
    obtain ⟨h1, h⟩ := h
    have hsub := sub_zip
    have q1 : ∀ {A' : Around} {E : Value → Shared → Prop} {Q : List Value → Shared → Prop}, Q (itRefs hp.objs.size r) ⟨pushIts hp r, g, d, tk, os⟩ → wpAny (model prog w) A' (Builtin.SmallTypes.iterAll (r.map srcV)) Q E ⟨hp, g, d, tk, os⟩ :=
      fun q => wpAny_iterAll h1 q
    have hz : sizeLine = 16777216 := sizeLine_eq
    have z1 : (itRefs hp.objs.size r).length ≤ sizeLine := by rw [itRefs_len]; omega
    have z2 : ((itRefs hp.objs.size r).map fun _ => Value.none).length ≤ sizeLine := by rw [List.length_map, itRefs_len]; omega
    have q2 : ∀ {A' : Around} {E : Value → Shared → Prop} {Q : Value → Shared → Prop}, Q (.ref (pushIts hp r).objs.size) ⟨zT hp r, g, d, tk, os⟩ → wpAny (model prog w) A' (newTuple (itRefs hp.objs.size r)) Q E ⟨pushIts hp r, g, d, tk, os⟩ :=
      fun q => wpAny_newTuple q z1
    have q3 : ∀ {A' : Around} {E : Value → Shared → Prop} {Q : Value → Shared → Prop}, Q (.ref (zT hp r).objs.size) ⟨zO hp r, g, d, tk, os⟩ → wpAny (model prog w) A' (newTuple ((itRefs hp.objs.size r).map fun _ => Value.none)) Q E ⟨zT hp r, g, d, tk, os⟩ :=
      fun q => wpAny_newTuple q z2
    wp_walk using q1, q2, q3
    exact ⟨_, rfl, h⟩
end
end Dn
namespace Dn
open PySem PySem.Spec PyProof.Rows L2
open Evl (Ex fresh_back)
/-- the i-th of each -/
def colAt (r : List Src) (i : Nat) : List Value := r.map fun S => S.its.getD i .none
/-- the iterators stand at i -/
def ItsAt (h : Heap) (n : Nat) (r : List Src) (i : Nat) : Prop := ∀ (j : Nat) (S : Src), r[j]? = some S → ItAt S.kd h (n + j) S.a i ∧ SqAt S.kd h S.a S.its
theorem SqAt.at {kd : Bool} {h h' : Heap} {a : Addr} {its : Array Value} (x : SqAt kd h a its) (k : ∀ o, h.get? a = some o → h'.get? a = some o) : SqAt kd h' a its := by
  cases kd with
  | true => exact Heap.IsList.at x fun o e => k o e
  | false => exact Heap.IsTuple.at x fun o e => k o e
theorem SqAt.lt {kd : Bool} {h : Heap} {a : Addr} {its : Array Value} (x : SqAt kd h a its) : a < h.objs.size := by
  cases kd with
  | true => obtain ⟨o, e, _⟩ := id x; exact Heap.lt_size e
  | false => obtain ⟨o, e, _⟩ := id x; exact Heap.lt_size e
theorem ItsAt.at {h h' : Heap} {n : Nat} {r : List Src} {i : Nat} (x : ItsAt h n r i) (lo : ∀ S ∈ r, S.a < n) (k : ∀ c o, (c < n ∨ (n ≤ c ∧ c < n + r.length)) → h.get? c = some o → h'.get? c = some o) : ItsAt h' n r i := fun j S e => by
  obtain ⟨h1, h2⟩ := x j S e
  have hj : j < r.length := (List.getElem?_eq_some_iff.mp e).1
  exact ⟨h1.at fun o q => k _ o (.inr ⟨by omega, by omega⟩) q, h2.at fun o q => k _ o (.inl (lo S (List.mem_of_getElem? e))) q⟩
section
variable {prog : Program} {w : World} {A : Around} {E : Value → Shared → Prop} {s : Shared}
/-- the draws of all, one after another: each gives one -/
theorem draw_loop (hh : A.handled = none) {f : Value → Option Fin × Array Value → Sem (ForInStep (Option Fin × Array Value))}
    (hf : ∀ (it : Value) (acc : Array Value) (s : Shared) (Q : ForInStep (Option Fin × Array Value) → Shared → Prop) (E : Value → Shared → Prop), wpAny (model prog w) A (Builtin.SmallTypes.nextOf it) (fun x s' => Q (.yield (none, acc.push x)) s') E s → wpAny (model prog w) A (f it (none, acc)) Q E s)
    (lo0 : Nat) (i : Nat) {Q : Option Fin × Array Value → Shared → Prop} : ∀ (r : List Src) (n : Nat) (acc : Array Value) (h : Heap) (tk : Nat), lo0 ≤ n → (∀ S ∈ r, S.a < lo0) → ItsAt h n r i → (∀ S ∈ r, i < S.its.size) →
      (∀ h' tk' acc', ItsAt h' n r (i + 1) → (∀ c o, (c < n ∨ n + r.length ≤ c) → h.get? c = some o → h'.get? c = some o) → h'.objs.size = h.objs.size → acc'.toList = acc.toList ++ colAt r i → Q (none, acc') { s with heap := h', toks := tk' }) →
      wpAny (model prog w) A (forIn (itRefs n r) (none, acc) f) Q E { s with heap := h, toks := tk }
  | [], n, acc, h, tk, _, _, st, _, hq => by
    simp only [itRefs, List.forIn_nil]
    exact wpAny_pure (hq h tk acc (fun j S e => by simp at e) (fun _ _ _ e => e) rfl (by simp [colAt]))
  | S :: r, n, acc, h, tk, hln, lo, st, hlt, hq => by
    simp only [itRefs, List.forIn_cons]
    obtain ⟨h1, h2⟩ := st 0 S rfl
    have hS : S.a < n := Nat.lt_of_lt_of_le (lo S (by simp)) hln
    have D := draws_of (prog := prog) (w := w) (A := A) S.kd hh n S.a (Nat.ne_of_lt hS) S.its
    refine wpAny_bind (hf _ _ _ _ _ (D.item i _ _ _ (hlt S (by simp)) ⟨by simpa using h1, h2⟩ fun x h' tk' hx st' hs' => ?_))
    replace hs' : Heap.SameBut n h h' := hs'
    have keep : ∀ c o, c ≠ n → h.get? c = some o → h'.get? c = some o := fun c o hc e => hs'.extBut c o hc e
    have str : ItsAt h' (n + 1) r i := fun j T e => by
      obtain ⟨k1, k2⟩ := st (j + 1) T (by simpa using e)
      have hT : T.a < lo0 := lo T (by simp [List.mem_of_getElem? e])
      rw [show n + (j + 1) = n + 1 + j by omega] at k1
      exact ⟨k1.at fun o q => keep _ o (by omega) q, k2.at fun o q => keep _ o (by omega) q⟩
    refine draw_loop hh hf lo0 i r (n + 1) (acc.push x) h' tk' (by omega) (fun T hT => lo T (by simp [hT])) str (fun T hT => hlt T (by simp [hT])) fun h2 tk2 acc2 st2 kp2 sz2 ha2 => ?_
    have kpn : ∀ o, h'.get? n = some o → h2.get? n = some o := fun o e => kp2 n o (.inl (by omega)) e
    refine hq h2 tk2 acc2 (fun j T e => ?_) (fun c o hc e => kp2 c o (by rw [List.length_cons] at hc; omega) (keep c o (by rw [List.length_cons] at hc; omega) e)) (by rw [sz2]; exact hs'.1) ?_
    · cases j with
      | zero =>
        simp at e
        subst e
        exact ⟨by simpa using st'.1.at fun o q => kpn o q, st'.2.at fun o q => kp2 _ o (.inl (by omega)) q⟩
      | succ j =>
        obtain ⟨k1, k2⟩ := st2 j T (by simpa using e)
        rw [show n + (j + 1) = n + 1 + j by omega]
        exact ⟨k1, k2⟩
    · rw [ha2, Array.toList_push, List.append_assoc]
      have : S.its.getD i .none = x := by simp [Array.getD_eq_getD_getElem?, hx]
      simp [colAt, hx]
/-- .. or one of them ends -/
theorem draw_end (hh : A.handled = none) {f : Value → Option Fin × Array Value → Sem (ForInStep (Option Fin × Array Value))}
    (hf : ∀ (it : Value) (acc : Array Value) (s : Shared) (Q : ForInStep (Option Fin × Array Value) → Shared → Prop) (E : Value → Shared → Prop), wpAny (model prog w) A (Builtin.SmallTypes.nextOf it) (fun x s' => Q (.yield (none, acc.push x)) s') E s → wpAny (model prog w) A (f it (none, acc)) Q E s)
    (lo0 : Nat) (i : Nat) {Q : Option Fin × Array Value → Shared → Prop} : ∀ (r : List Src) (n : Nat) (acc : Array Value) (h : Heap) (tk : Nat), lo0 ≤ n → (∀ S ∈ r, S.a < lo0) → ItsAt h n r i → (∀ S ∈ r, i ≤ S.its.size) → (∃ S ∈ r, i = S.its.size) →
      (∀ h' tk' e, (∀ c o, (c < n ∨ n + r.length ≤ c) → h.get? c = some o → h'.get? c = some o) → (∃ o, h'.get? e = some o ∧ o.cls = .type "StopIteration") → E (.ref e) { s with heap := h', toks := tk' }) →
      wpAny (model prog w) A (forIn (itRefs n r) (none, acc) f) Q E { s with heap := h, toks := tk }
  | [], n, acc, h, tk, _, _, st, _, ⟨S, hS, _⟩, hq => by simp at hS
  | S :: r, n, acc, h, tk, hln, lo, st, hle, hex, hq => by
    simp only [itRefs, List.forIn_cons]
    obtain ⟨h1, h2⟩ := st 0 S rfl
    have hS : S.a < n := Nat.lt_of_lt_of_le (lo S (by simp)) hln
    have D := draws_of (prog := prog) (w := w) (A := A) S.kd hh n S.a (Nat.ne_of_lt hS) S.its
    by_cases hi : i = S.its.size
    · refine wpAny_bind (hf _ _ _ _ _ (D.done _ _ _ (hi ▸ ⟨by simpa using h1, h2⟩) fun h' e hs' he => ?_))
      exact hq h' tk e (fun c o hc q => hs' c o (show c ≠ n by rw [List.length_cons] at hc; omega) q) he
    · have hlt : i < S.its.size := Nat.lt_of_le_of_ne (hle S (by simp)) hi
      refine wpAny_bind (hf _ _ _ _ _ (D.item i _ _ _ hlt ⟨by simpa using h1, h2⟩ fun x h' tk' hx st' hs' => ?_))
      replace hs' : Heap.SameBut n h h' := hs'
      have keep : ∀ c o, c ≠ n → h.get? c = some o → h'.get? c = some o := fun c o hc e => hs'.extBut c o hc e
      have str : ItsAt h' (n + 1) r i := fun j T e => by
        obtain ⟨k1, k2⟩ := st (j + 1) T (by simpa using e)
        have hT : T.a < lo0 := lo T (by simp [List.mem_of_getElem? e])
        rw [show n + (j + 1) = n + 1 + j by omega] at k1
        exact ⟨k1.at fun o q => keep _ o (by omega) q, k2.at fun o q => keep _ o (by omega) q⟩
      obtain ⟨T, hT, hTi⟩ := hex
      have hTr : T ∈ r := by
        rcases List.mem_cons.mp hT with e | e
        · subst e; exact absurd hTi hi
        · exact e
      refine draw_end hh hf lo0 i r (n + 1) (acc.push x) h' tk' (by omega) (fun T hT => lo T (by simp [hT])) str (fun T hT => hle T (by simp [hT])) ⟨T, hTr, hTi⟩ fun h2 tk2 e kp2 he => ?_
      exact hq h2 tk2 e (fun c o hc q => kp2 c o (by rw [List.length_cons] at hc; omega) (keep c o (by rw [List.length_cons] at hc; omega) q)) he
end
end Dn
namespace Dn
open PySem PySem.Spec PyProof.Rows L2
open Evl (Ex fresh_back)
section
variable {prog : Program} {w : World} {A : Around} {E : Value → Shared → Prop} {s : Shared}
def IsTupA (h : Heap) (a : Addr) (vs : Array Value) : Prop := h.get? a = some { cls := .type "tuple", data := .seq vs }
/-- the first draws: into the tuple that zip keeps -/
theorem draw_loop0 (hh : A.handled = none) {TO : Nat} {f : Value × Nat → Option Fin × PUnit → Sem (ForInStep (Option Fin × PUnit))}
    (hf : ∀ (it : Value) (k : Nat) (vs : Array Value) (s : Shared) (Q : ForInStep (Option Fin × PUnit) → Shared → Prop) (E : Value → Shared → Prop), vs.size ≤ 1000 →
      (∀ E', wpAny (model prog w) A (Builtin.SmallTypes.nextOf it) (fun x s' => IsTupA s'.heap TO vs ∧ ∀ h', IsTupA h' TO (vs.setIfInBounds k x) → Heap.SameBut TO s'.heap h' → Q (.yield (none, ())) { s' with heap := h' }) E' s) → wpAny (model prog w) A (f (it, k) (none, ())) Q E s)
    (lo0 : Nat) (i : Nat) {Q : Option Fin × PUnit → Shared → Prop} : ∀ (r : List Src) (n k : Nat) (vs : Array Value) (h : Heap) (tk : Nat), lo0 ≤ n → (∀ S ∈ r, S.a < lo0) → n + r.length ≤ TO → ItsAt h n r i → (∀ S ∈ r, i < S.its.size) → IsTupA h TO vs → vs.size = k + r.length → vs.size ≤ 1000 →
      (∀ h' tk' vs', ItsAt h' n r (i + 1) → (∀ c o, (c < n ∨ n + r.length ≤ c) → c ≠ TO → h.get? c = some o → h'.get? c = some o) → h'.objs.size = h.objs.size → IsTupA h' TO vs' → vs'.toList = vs.toList.take k ++ colAt r i → Q (none, ()) { s with heap := h', toks := tk' }) →
      wpAny (model prog w) A (forIn ((itRefs n r).zipIdx k) (none, ()) f) Q E { s with heap := h, toks := tk }
  | [], n, k, vs, h, tk, _, _, _, st, _, hT, hv, _, hq => by
    simp only [itRefs, List.zipIdx_nil, List.forIn_nil]
    refine wpAny_pure (hq h tk vs (fun j S e => by simp at e) (fun _ _ _ _ e => e) rfl hT ?_)
    rw [List.take_of_length_le (by simpa using hv ▸ Nat.le_refl _)]
    simp [colAt]
  | S :: r, n, k, vs, h, tk, hln, lo, hTO, st, hlt, hT, hv, hv2, hq => by
    simp only [itRefs, List.zipIdx_cons, List.forIn_cons]
    obtain ⟨h1, h2⟩ := st 0 S rfl
    rw [List.length_cons] at hTO
    have hS : S.a < n := Nat.lt_of_lt_of_le (lo S (by simp)) hln
    have D := draws_of (prog := prog) (w := w) (A := A) S.kd hh n S.a (Nat.ne_of_lt hS) S.its
    refine wpAny_bind (hf _ k vs _ _ _ hv2 fun E' => D.item i _ _ _ (hlt S (by simp)) ⟨by simpa using h1, h2⟩ fun x h' tk' hx st' hs' => ?_)
    replace hs' : Heap.SameBut n h h' := hs'
    have keep : ∀ c o, c ≠ n → h.get? c = some o → h'.get? c = some o := fun c o hc e => hs'.extBut c o hc e
    refine ⟨keep TO _ (by omega) hT, fun h3 hT3 hs3 => ?_⟩
    replace hs3 : Heap.SameBut TO h' h3 := hs3
    have keep3 : ∀ c o, c ≠ TO → h'.get? c = some o → h3.get? c = some o := fun c o hc e => hs3.extBut c o hc e
    have str : ItsAt h3 (n + 1) r i := fun j T e => by
      obtain ⟨k1, k2⟩ := st (j + 1) T (by simpa using e)
      have hT : T.a < lo0 := lo T (by simp [List.mem_of_getElem? e])
      have hj : j < r.length := (List.getElem?_eq_some_iff.mp e).1
      rw [show n + (j + 1) = n + 1 + j by omega] at k1
      exact ⟨k1.at fun o q => keep3 _ o (by omega) (keep _ o (by omega) q), k2.at fun o q => keep3 _ o (show T.a ≠ TO by omega) (keep _ o (show T.a ≠ n by omega) q)⟩
    refine draw_loop0 hh hf lo0 i r (n + 1) (k + 1) (vs.setIfInBounds k x) h3 tk' (by omega) (fun T hT => lo T (by simp [hT])) (by omega) str (fun T hT => hlt T (by simp [hT])) hT3 (by rw [Array.size_setIfInBounds, hv, List.length_cons]; omega) (by rw [Array.size_setIfInBounds]; exact hv2) fun h2 tk2 vs2 st2 kp2 sz2 hT2 ha2 => ?_
    have kpn : ∀ c o, c < n + 1 → c ≠ TO → h'.get? c = some o → h2.get? c = some o := fun c o hc hcT e => kp2 c o (.inl hc) hcT (keep3 c o hcT e)
    refine hq h2 tk2 vs2 (fun j T e => ?_) (fun c o hc hcT e => kp2 c o (by rw [List.length_cons] at hc; omega) hcT (keep3 c o hcT (keep c o (by rw [List.length_cons] at hc; omega) e))) (by rw [sz2, hs3.1]; exact hs'.1) hT2 ?_
    · cases j with
      | zero =>
        simp at e
        subst e
        exact ⟨by simpa using st'.1.at fun o q => kpn n o (by omega) (by omega) q, st'.2.at fun o q => kpn _ o (show S.a < n + 1 by omega) (show S.a ≠ TO by omega) q⟩
      | succ j =>
        obtain ⟨k1, k2⟩ := st2 j T (by simpa using e)
        rw [show n + (j + 1) = n + 1 + j by omega]
        exact ⟨k1, k2⟩
    · have hk : k < vs.size := by rw [hv, List.length_cons]; omega
      rw [ha2]
      have e1 : (vs.setIfInBounds k x).toList.take (k + 1) = vs.toList.take k ++ [x] := by
        rw [Array.toList_setIfInBounds]
        rw [List.take_succ, List.take_set_of_le (Nat.le_refl k)]
        rw [List.getElem?_set_self (by simpa using hk)]
        rfl
      rw [e1]
      simp [colAt, hx]
end
end Dn
namespace Dn
open PySem PySem.Spec PyProof.Rows L2
open Evl (Ex fresh_back)
section
variable {prog : Program} {w : World} {A : Around} {E : Value → Shared → Prop} {s : Shared}
/-- a zip at work: its cells from N on; i items given out -/
structure ZAt (h : Heap) (N : Nat) (r : List Src) (i : Nat) : Prop where
  z : (i = 0 ∧ IsZip h (N + r.length + 2) (N + r.length) (N + r.length + 1) .none) ∨ ∃ (T : Nat) (f : Bool) (oT : Obj), IsZipHeld h (N + r.length + 2) (N + r.length) (N + r.length + 1) T f ∧ h.get? T = some oT ∧ N + r.length + 2 < T
  ti : IsTupA h (N + r.length) (itRefs N r).toArray
  to : ∃ vs, IsTupA h (N + r.length + 1) vs ∧ vs.size = r.length
  its : ItsAt h N r i
theorem ZAt.at {h h' : Heap} {N : Nat} {r : List Src} {i : Nat} (x : ZAt h N r i) (lo : ∀ S ∈ r, S.a < N) (k : ∀ (c : Nat) o, c < N + r.length + 3 → h.get? c = some o → h'.get? c = some o) (kT : ∀ (T : Nat) oT, N + r.length + 2 < T → h.get? T = some oT → ∃ o, h'.get? T = some o) : ZAt h' N r i where
  z := by
    rcases x.z with ⟨h0, hz⟩ | ⟨T, f, oT, hz, hT, hN⟩
    · exact .inl ⟨h0, k _ _ (by omega) hz⟩
    · obtain ⟨o, ho⟩ := kT T oT hN hT
      exact .inr ⟨T, f, o, k _ _ (by omega) hz, ho, hN⟩
  ti := k _ _ (by omega) x.ti
  to := let ⟨vs, h1, h2⟩ := x.to; ⟨vs, k _ _ (by omega) h1, h2⟩
  its := x.its.at lo fun c o hc e => k c o (by omega) e
theorem itRefs_ne {r : List Src} {n : Nat} (h : r ≠ []) : (itRefs n r).toArray.isEmpty = false := by
  cases r with
  | nil => exact absurd rfl h
  | cons S r => simp [itRefs]
/-- the i-th item -/
theorem zipN_next_item {N : Nat} {r : List Src} {i : Nat} {Q : Value → Shared → Prop} (hh : A.handled = none) (hr : r ≠ []) (hl : r.length ≤ 1000) (lo : ∀ S ∈ r, S.a < N) (st : ZAt s.heap N r i) (hlt : ∀ S ∈ r, i < S.its.size)
    (hQ : ∀ h' tk' (T : Nat), ZAt h' N r (i + 1) → s.heap.objs.size ≤ T → IsTupA h' T (colAt r i).toArray → (∀ (c : Nat) o, (c < N ∨ N + r.length + 2 < c) → s.heap.get? c = some o → h'.get? c = some o) → Q (.ref T) { s with heap := h', toks := tk' }) :
    wpAny (model prog w) A (Builtin.«zip.__next__» ⟨[.ref (N + r.length + 2)], []⟩) (fun fin s' => ∃ v, fin = .done (.ret v) ∧ Q v s') E s := by
  obtain ⟨hp, g, d, tk, os⟩ := s
  have hsz : sizeLine = 16777216 := sizeLine_eq
  have hcl : (colAt r i).length = r.length := by simp [colAt]
  rcases st.z with ⟨h0, hz⟩ | ⟨T, f, oT, hz, hT, hNT⟩
  · show wpAny _ _ (field (.ref (N + r.length + 2)) 2 >>= _) _ _ _
    refine wpAny_bind (wpAny_field hz rfl (x := .bool false) rfl ?_)
    show wpAny _ _ (field (.ref (N + r.length + 2)) 3 >>= _) _ _ _
    refine wpAny_bind (wpAny_field hz rfl (x := .ref (N + r.length)) rfl ?_)
    refine wpAny_bind (wpAny_seqItems st.ti rfl ?_)
    simp only [itRefs_ne hr, Bool.false_eq_true, if_false]
    show wpAny _ _ (Builtin.SmallTypes.ownedTupleIsFree (.ref (N + r.length + 2)) >>= _) _ _ _
    refine wpAny_bind ?_
    unfold Builtin.SmallTypes.ownedTupleIsFree
    refine wpAny_bind (wpAny_field hz rfl (x := .none) rfl (wpAny_pure ?_))
    simp only [if_true]
    refine wpAny_bind (wpAny_rule ?_)
    refine wpAny_bind (wpAny_field hz rfl (x := .ref (N + r.length + 1)) rfl ?_)
    refine wpAny_bind (wpAny_setField_rec hz (by simp) fun g0 hz0 hs0 => ?_)
    replace hz0 : IsZip g0 (N + r.length + 2) (N + r.length) (N + r.length + 1) .ellipsis := hz0
    replace hs0 : Heap.SameBut (N + r.length + 2) hp g0 := hs0
    have k0 : ∀ (c : Nat) o, c ≠ N + r.length + 2 → hp.get? c = some o → g0.get? c = some o := fun c o hc e => hs0.extBut c o hc e
    obtain ⟨vs, hvs, hvl⟩ := st.to
    refine wpAny_bind ?_
    refine draw_loop0 (A := A) (s := ⟨g0, g, d, tk, os⟩) hh (TO := N + r.length + 1) (fun it k vs s Q E hvl hw => ?_) N i r N 0 vs g0 tk (Nat.le_refl _) lo (by omega) (st.its.at lo fun c o hc e => k0 c o (by omega) e) hlt (k0 _ _ (by omega) hvs) (by omega) (by omega) fun h' tk' vs' st' kp' sz' hT' ha' => ?_
    · refine wpAny_bind (wpAny_onRaise ?_)
      show wpAny _ _ (Builtin.SmallTypes.nextOf it >>= _) _ _ _
      refine wpAny_bind (wpAny_mono (hw _) (fun x s' hx => wpAny_pure ?_) fun _ _ z => z)
      obtain ⟨hU, hx⟩ := hx
      refine wpAny_bind (wpAny_seqItems (s := s') hU rfl ?_)
      refine wpAny_bind (wpAny_updateSeq hU rfl ?_ (by omega) (by rw [Array.size_setIfInBounds]; omega))
      refine wpAny_bind (wpAny_letGo (wpAny_pure ?_))
      refine hx _ ?_ (Heap.SameBut.update ..)
      show Heap.get? _ _ = _
      rw [Heap.get?_update_self _ hU rfl]
      simp [Obj.mapSeq]
    · refine wpAny_bind (wpAny_seqItems (s := ⟨h', g, d, tk', os⟩) hT' rfl ?_)
      have ha' : vs'.toList = colAt r i := by simpa using ha'
      have hvs' : vs' = (colAt r i).toArray := by rw [← ha']
      subst hvs'
      refine wpAny_bind (wpAny_newTuple ?_ (by rw [List.toList_toArray, hcl]; omega))
      rw [List.toList_toArray]
      have hz1 : IsZip h' (N + r.length + 2) (N + r.length) (N + r.length + 1) .ellipsis := kp' _ _ (by omega) (by omega) hz0
      have hz2 : IsZip (h'.push { cls := .type "tuple", data := .seq (colAt r i).toArray }) (N + r.length + 2) (N + r.length) (N + r.length + 1) .ellipsis := Heap.get?_push_of_some _ hz1
      have hzlt : N + r.length + 2 < h'.objs.size := Heap.lt_size hz1
      have hszh : h'.objs.size = hp.objs.size := by rw [sz']; exact hs0.1
      show wpAny _ _ (Builtin.SmallTypes.ownedTupleHandOut (.ref (N + r.length + 2)) (.ref h'.objs.size) >>= _) _ _ ⟨h'.push { cls := .type "tuple", data := .seq (colAt r i).toArray }, g, d, tk', os⟩
      refine wpAny_bind ?_
      unfold Builtin.SmallTypes.ownedTupleHandOut
      refine wpAny_bind (wpAny_setField_rec hz2 (by simp) fun h₇ hz₇ hs₇ => ?_)
      replace hz₇ : IsZip h₇ (N + r.length + 2) (N + r.length) (N + r.length + 1) (rawInt h'.objs.size) := hz₇
      refine wpAny_setField_rec hz₇ (by simp) fun h₈ hz₈ hs₈ => ?_
      replace hz₈ : IsZipHeld h₈ (N + r.length + 2) (N + r.length) (N + r.length + 1) h'.objs.size false := hz₈
      replace hs₇ : Heap.SameBut (N + r.length + 2) (h'.push { cls := .type "tuple", data := .seq (colAt r i).toArray }) h₇ := hs₇
      replace hs₈ : Heap.SameBut (N + r.length + 2) h₇ h₈ := hs₈
      have up : ∀ (c : Nat) o, c ≠ N + r.length + 2 → (h'.push { cls := .type "tuple", data := .seq (colAt r i).toArray }).get? c = some o → h₈.get? c = some o := fun c o c1 e => hs₈.extBut _ _ c1 (hs₇.extBut _ _ c1 e)
      have hT8 : IsTupA h₈ h'.objs.size (colAt r i).toArray := up _ _ (by omega) (Heap.get?_push_size _ rfl)
      refine wpAny_pure ⟨_, rfl, hQ h₈ tk' h'.objs.size ⟨.inr ⟨h'.objs.size, false, _, hz₈, hT8, hzlt⟩, ?_, ⟨_, up _ _ (by omega) (Heap.get?_push_of_some _ hT'), by simp [hcl]⟩, ?_⟩ (by show hp.objs.size ≤ _; omega) hT8 fun c o hc e => ?_⟩
      · exact up _ _ (by omega) (Heap.get?_push_of_some _ (kp' _ _ (by omega) (by omega) (k0 _ _ (by omega) st.ti)))
      · exact st'.at lo fun c o hc e => up c o (by omega) (Heap.get?_push_of_some _ e)
      · exact up c o (by omega) (Heap.get?_push_of_some _ (kp' c o (by omega) (by omega) (k0 c o (by omega) e)))
  · show wpAny _ _ (field (.ref (N + r.length + 2)) 2 >>= _) _ _ _
    refine wpAny_bind (wpAny_field hz rfl (x := .bool false) rfl ?_)
    show wpAny _ _ (field (.ref (N + r.length + 2)) 3 >>= _) _ _ _
    refine wpAny_bind (wpAny_field hz rfl (x := .ref (N + r.length)) rfl ?_)
    refine wpAny_bind (wpAny_seqItems st.ti rfl ?_)
    simp only [itRefs_ne hr, Bool.false_eq_true, if_false]
    show wpAny _ _ (Builtin.SmallTypes.ownedTupleIsFree (.ref (N + r.length + 2)) >>= _) _ _ _
    refine wpAny_bind (wpAny_tupleHeld_zip hz hT fun g0 hz0 hs0 => ?_)
    replace hs0 : Heap.SameBut (N + r.length + 2) hp g0 := hs0
    have k0 : ∀ (c : Nat) o, c ≠ N + r.length + 2 → hp.get? c = some o → g0.get? c = some o := fun c o hc e => hs0.extBut c o hc e
    simp only [Bool.false_eq_true, if_false]
    refine wpAny_bind ?_
    rw [← Array.forIn_toList, List.toList_toArray]
    refine draw_loop (A := A) (s := ⟨g0, g, d, tk, os⟩) hh (fun it acc s Q E hw => ?_) N i r N #[] g0 tk (Nat.le_refl _) lo (st.its.at lo fun c o hc e => k0 c o (by omega) e) hlt fun h' tk' acc' st' kp' sz' ha' => ?_
    · refine wpAny_bind (wpAny_holding ?_)
      show wpAny _ _ (Builtin.SmallTypes.nextOf it >>= _) _ _ _
      exact wpAny_bind (wpAny_mono hw (fun x s' hx => wpAny_pure (wpAny_pure hx)) fun _ _ z => z)
    · have ha' : acc'.toList = colAt r i := by simpa using ha'
      rw [ha']
      refine wpAny_bind (wpAny_newTuple ?_ (by rw [hcl]; omega))
      have hz1 : IsZipHeld h' (N + r.length + 2) (N + r.length) (N + r.length + 1) T true := kp' _ _ (by omega) hz0
      have hzlt : N + r.length + 2 < h'.objs.size := Heap.lt_size hz1
      have hszh : h'.objs.size = hp.objs.size := by rw [sz']; exact hs0.1
      have up : ∀ (c : Nat) o, h'.get? c = some o → (h'.push { cls := .type "tuple", data := .seq (colAt r i).toArray }).get? c = some o := fun c o e => Heap.get?_push_of_some _ e
      obtain ⟨vs, hvs, hvl⟩ := st.to
      refine wpAny_pure ⟨_, rfl, hQ _ tk' h'.objs.size ⟨.inr ⟨T, true, oT, up _ _ hz1, up _ _ (kp' _ _ (by omega) (k0 _ _ (by omega) hT)), hNT⟩, up _ _ (kp' _ _ (by omega) (k0 _ _ (by omega) st.ti)), ⟨vs, up _ _ (kp' _ _ (by omega) (k0 _ _ (by omega) hvs)), hvl⟩, st'.at lo fun c o hc e => up c o e⟩ (by show hp.objs.size ≤ _; omega) (Heap.get?_push_size _ rfl) fun c o hc e => up c o (kp' c o (by omega) (k0 c o (by omega) e))⟩
/-- the end, behind an item -/
theorem zipN_next_end {N : Nat} {r : List Src} {i : Nat} {Q : Fin → Shared → Prop} (hh : A.handled = none) (hr : r ≠ []) (lo : ∀ S ∈ r, S.a < N) (st : ZAt s.heap N r i) (hi : 0 < i) (hle : ∀ S ∈ r, i ≤ S.its.size) (hex : ∃ S ∈ r, i = S.its.size)
    (hE : ∀ h' tk' e, (∀ (c : Nat) o, (c < N ∨ N + r.length + 2 < c) → s.heap.get? c = some o → h'.get? c = some o) → (∃ o, h'.get? e = some o ∧ o.cls = .type "StopIteration") → E (.ref e) { s with heap := h', toks := tk' }) :
    wpAny (model prog w) A (Builtin.«zip.__next__» ⟨[.ref (N + r.length + 2)], []⟩) Q E s := by
  obtain ⟨hp, g, d, tk, os⟩ := s
  rcases st.z with ⟨h0, hz⟩ | ⟨T, f, oT, hz, hT, hNT⟩
  · omega
  · show wpAny _ _ (field (.ref (N + r.length + 2)) 2 >>= _) _ _ _
    refine wpAny_bind (wpAny_field hz rfl (x := .bool false) rfl ?_)
    show wpAny _ _ (field (.ref (N + r.length + 2)) 3 >>= _) _ _ _
    refine wpAny_bind (wpAny_field hz rfl (x := .ref (N + r.length)) rfl ?_)
    refine wpAny_bind (wpAny_seqItems st.ti rfl ?_)
    simp only [itRefs_ne hr, Bool.false_eq_true, if_false]
    show wpAny _ _ (Builtin.SmallTypes.ownedTupleIsFree (.ref (N + r.length + 2)) >>= _) _ _ _
    refine wpAny_bind (wpAny_tupleHeld_zip hz hT fun g0 hz0 hs0 => ?_)
    replace hs0 : Heap.SameBut (N + r.length + 2) hp g0 := hs0
    have k0 : ∀ (c : Nat) o, c ≠ N + r.length + 2 → hp.get? c = some o → g0.get? c = some o := fun c o hc e => hs0.extBut c o hc e
    simp only [Bool.false_eq_true, if_false]
    refine wpAny_bind ?_
    rw [← Array.forIn_toList, List.toList_toArray]
    refine draw_end (A := A) (s := ⟨g0, g, d, tk, os⟩) hh (fun it acc s Q E hw => ?_) N i r N #[] g0 tk (Nat.le_refl _) lo (st.its.at lo fun c o hc e => k0 c o (by omega) e) hle hex fun h' tk' e kp' he => ?_
    · refine wpAny_bind (wpAny_holding ?_)
      show wpAny _ _ (Builtin.SmallTypes.nextOf it >>= _) _ _ _
      exact wpAny_bind (wpAny_mono hw (fun x s' hx => wpAny_pure (wpAny_pure hx)) fun _ _ z => z)
    · exact hE h' tk' e (fun c o hc q => kp' c o (by omega) (k0 c o (by omega) q)) he
theorem zipN_pyNext_item {N : Nat} {r : List Src} {i : Nat} {Q : Option Value → Shared → Prop} (hh : A.handled = none) (hr : r ≠ []) (hl : r.length ≤ 1000) (lo : ∀ S ∈ r, S.a < N) (st : ZAt s.heap N r i) (hlt : ∀ S ∈ r, i < S.its.size)
    (hQ : ∀ h' tk' (T : Nat), ZAt h' N r (i + 1) → s.heap.objs.size ≤ T → IsTupA h' T (colAt r i).toArray → (∀ (c : Nat) o, (c < N ∨ N + r.length + 2 < c) → s.heap.get? c = some o → h'.get? c = some o) → Q (some (.ref T)) { s with heap := h', toks := tk' }) :
    wpAny (model prog w) A (pyNext (.ref (N + r.length + 2))) Q E s := by
  have hTy : s.TypeIs (.ref (N + r.length + 2)) "zip" := by
    rcases st.z with ⟨_, hz⟩ | ⟨_, _, _, hz, _⟩ <;> exact ⟨_, hz, rfl⟩
  unfold pyNext
  exact wpAny_bind (wpAny_attempt (wpAny_callSpecial?_slot (name := Str.ofString "__next__") hTy F.slot_zip_next
    (wpAny_call_entry F.slot_zip_next hTy F.entry_zip_next
      (zipN_next_item hh hr hl lo st hlt fun h' tk' T a1 a2 a3 a4 => wpAny_pure (hQ h' tk' T a1 a2 a3 a4)) (F.args_zip_next_1 _))))
theorem zipN_pyNext_end {N : Nat} {r : List Src} {i : Nat} {Q : Option Value → Shared → Prop} (hh : A.handled = none) (hr : r ≠ []) (lo : ∀ S ∈ r, S.a < N) (st : ZAt s.heap N r i) (hi : 0 < i) (hle : ∀ S ∈ r, i ≤ S.its.size) (hex : ∃ S ∈ r, i = S.its.size)
    (hQ : ∀ h' tk', (∀ (c : Nat) o, (c < N ∨ N + r.length + 2 < c) → s.heap.get? c = some o → h'.get? c = some o) → Q none { s with heap := h', toks := tk' }) :
    wpAny (model prog w) A (pyNext (.ref (N + r.length + 2))) Q E s := by
  have hTy : s.TypeIs (.ref (N + r.length + 2)) "zip" := by
    rcases st.z with ⟨_, hz⟩ | ⟨_, _, _, hz, _⟩ <;> exact ⟨_, hz, rfl⟩
  unfold pyNext
  refine wpAny_bind (wpAny_attempt (wpAny_callSpecial?_slot (name := Str.ofString "__next__") hTy F.slot_zip_next
    (wpAny_call_entry F.slot_zip_next hTy F.entry_zip_next (zipN_next_end hh hr lo st hi hle hex fun h' tk' e hk he => ?_) (F.args_zip_next_1 _))))
  obtain ⟨o, ho, hc⟩ := he
  refine wpAny_bind (wpAny_isInstance (T := "StopIteration") (b := true) ⟨o, ho, hc⟩ isSubtype_stop ?_)
  exact wpAny_pure (hQ _ _ hk)
end
end Dn
namespace Dn
open PySem PySem.Spec PyProof.Rows L2
open Evl (Ex fresh_back)
theorem zip_no_len : typeLookup (.type "zip") "__len__" = pure none := am_miss_of_fast (by decide +kernel)
theorem zip_no_hint : typeLookup (.type "zip") "__length_hint__" = pure none := am_miss_of_fast (by decide +kernel)
section
variable {prog : Program} {w : World} {A : Around} {s : Shared} {R : Result → Shared → Prop}
/-- an iterator that gives n items: where it stands is told by St, with what it gave -/
structure Drw (prog : Program) (w : World) (A : Around) (s : Shared) (S I : Addr) (n : Nat) (St : Nat → Heap → List Value → Prop) (Fn : Heap → List Value → Prop) : Prop where
  keep : ∀ i h h' acc, St i h acc → (∀ b o, b ≠ S → h.get? b = some o → h'.get? b = some o) → (∀ o, h.get? S = some o → ∃ o', h'.get? S = some o') → St i h' acc
  item : ∀ (i : Nat) (h : Heap) (tk : Nat) (acc : List Value) (oS : Obj) (Q : Option Value → Shared → Prop) (E : Value → Shared → Prop), i < n → St i h acc → h.get? S = some oS →
    (∀ v h' tk', St (i + 1) h' (acc ++ [v]) → h'.get? S = some oS → Q (some v) { s with heap := h', toks := tk' }) → wpAny (model prog w) A (pyNext (.ref I)) Q E { s with heap := h, toks := tk }
  done : ∀ (h : Heap) (tk : Nat) (acc : List Value) (oS : Obj) (Q : Option Value → Shared → Prop) (E : Value → Shared → Prop), St n h acc → h.get? S = some oS →
    (∀ h' tk', Fn h' acc → h'.get? S = some oS → Q none { s with heap := h', toks := tk' }) → wpAny (model prog w) A (pyNext (.ref I)) Q E { s with heap := h, toks := tk }
theorem drw_loop {S I : Addr} {n : Nat} {St : Nat → Heap → List Value → Prop} {Fn : Heap → List Value → Prop} (D : Drw prog w A.in1 s S I n St Fn) (hn : n ≤ sizeLine) (res : Value)
    (hR : ∀ h' tk acc c, Fn h' acc → acc.length = n → h'.get? S = some { cls := .type "list", dict := none, data := .seq acc.toArray c, slots := #[] } → R (.ok (.ret res)) { s with heap := h', toks := tk }) :
    ∀ (k i : Nat) (h : Heap) (tk c : Nat) (acc : List Value), n - i = k → i ≤ n → St i h acc → acc.length = i → h.get? S = some { cls := .type "list", dict := none, data := .seq acc.toArray c, slots := #[] } →
      codeAny (model prog w) A (.builtin "list.extend.loop" ⟨[.ref S, .ref I, res], []⟩) R { s with heap := h, toks := tk } := by
  intro k
  induction k with
  | zero =>
    intro i h tk c acc hk hi st hl hS
    have hin : i = n := by omega
    subst hin
    refine codeAny_builtin PySem.F.entry_extend_loop ?_
    rw [Around.under_plainId PySem.F.plain_extend_loop _]
    show wpAny _ A.in1 (pyNext (.ref I) >>= _) _ _ _
    refine wpAny_bind (D.done h tk acc _ _ _ st hS fun h' tk' st' hS' => ?_)
    exact wpAny_pure (hR h' tk' acc c st' hl hS')
  | succ k ih =>
    intro i h tk c acc hk hi st hl hS
    refine codeAny_builtin PySem.F.entry_extend_loop ?_
    rw [Around.under_plainId PySem.F.plain_extend_loop _]
    show wpAny _ A.in1 (pyNext (.ref I) >>= _) _ _ _
    refine wpAny_bind (D.item i h tk acc _ _ _ (by omega) st hS fun v h' tk' st' hS' => ?_)
    dsimp only
    show wpAny _ A.in1 (updateSeq S (·.push v) >>= _) _ _ _
    refine wpAny_bind ?_
    have eS := Heap.get?_update_self (Obj.mapSeq (·.push v)) hS' rfl
    simp only [Obj.mapSeq, List.push_toArray] at eS
    refine wpAny_updateSeq hS' rfl (wpAny_pure ⟨plainId_quiet PySem.F.plain_extend_loop _, ih (i + 1) _ _ _ (acc ++ [v]) (by omega) (by omega) (D.keep _ _ _ _ st' (fun b o hb e => (Heap.get?_update_other _ _ (Ne.symm hb)).trans e) fun o e => ⟨_, eS⟩) (by rw [List.length_append, hl]; rfl) eS⟩) (by rw [List.size_toArray]; omega) (by show (acc.toArray.push v).size ≤ _; rw [Array.size_push, List.size_toArray]; omega)
theorem drw_hint {E : Value → Shared → Prop} {r : Addr} {T : String} (hT : s.TypeIs (.ref r) T) (h1 : typeLookup (.type T) "__len__" = pure none) (h2 : typeLookup (.type T) "__length_hint__" = pure none) {Q : Bool → Shared → Prop} (h : Q true s) :
    wpAny (model prog w) A (Builtin.List.listLengthHint (.ref r)) Q E s := by
  unfold Builtin.List.listLengthHint
  refine wpAny_bind (wpAny_specialOf hT h1 ?_)
  refine wpAny_bind (wpAny_specialOf hT h2 ?_)
  exact wpAny_pure h
theorem drw_extend {S I : Addr} {T : String} {n : Nat} {St : Nat → Heap → List Value → Prop} {Fn : Heap → List Value → Prop} (hT : s.TypeIs (.ref I) T) (hSI : S ≠ I) (h1 : typeLookup (.type T) "__len__" = pure none) (h2 : typeLookup (.type T) "__length_hint__" = pure none)
    (t1 : (Value.type T == Value.type "list") = false) (t2 : (Value.type T == Value.type "tuple") = false) (hself : ∀ (Q : Value → Shared → Prop) (E : Value → Shared → Prop), Q (.ref I) s → wpAny (model prog w) A.in1 (pyIter (.ref I)) Q E s)
    (D : Drw prog w A.in1 s S I n St Fn) (hn : n ≤ sizeLine) (st : St 0 s.heap []) (res : Value) (c₀ : Nat) (hS : s.heap.get? S = some { cls := .type "list", data := .seq #[] c₀ })
    (hR : ∀ h' tk acc c, Fn h' acc → acc.length = n → h'.get? S = some { cls := .type "list", dict := none, data := .seq acc.toArray c, slots := #[] } → R (.ok (.ret res)) { s with heap := h', toks := tk }) :
    wpAny (model prog w) A.in1 (Builtin.List.listExtendWith (.ref S) (.ref I) res)
      (fun fin s' => match fin with | .done f => R (.ok f) s' | .again c' => c'.quiet = true ∧ codeAny (model prog w) A c' R s') (fun e s' => R (.error e) s') s := by
  have key : ∀ (h : Heap) (c₁ tk : Nat), (∀ b o, b ≠ S → s.heap.get? b = some o → h.get? b = some o) →
      h.get? S = some { cls := .type "list", data := .seq #[] c₁ } → codeAny (model prog w) A (.builtin "list.extend.loop" ⟨[.ref S, .ref I, res], []⟩) R { s with heap := h, toks := tk } := fun h c₁ tk hk hS₁ =>
    drw_loop D hn res hR n 0 h tk c₁ [] (Nat.sub_zero _) (Nat.zero_le _) (D.keep _ _ _ _ st hk fun o e => ⟨_, hS₁⟩) rfl hS₁
  unfold Builtin.List.listExtendWith
  refine wpAny_bind (wpAny_typeOf (T := T) hT ?_)
  have h0 : Builtin.List.listSameRef (.ref S) (.ref I) = false := by simp [Builtin.List.listSameRef, hSI]
  simp only [h0, t1, t2, Bool.or_false, Bool.false_eq_true, if_false]
  refine wpAny_bind (hself _ _ ?_)
  refine wpAny_bind (wpAny_holding (drw_hint hT h1 h2 ?_))
  simp only [Bool.true_or, if_true]
  refine wpAny_bind (wpAny_rule ?_)
  refine wpAny_bind ?_
  show wpAny _ _ (updateSeq S (·.push .none) >>= fun _ => updateSeq S (·.pop)) _ _ _
  refine wpAny_bind (wpAny_updateSeq hS rfl ?_)
  have hS₂ := Heap.get?_update_self (Obj.mapSeq (·.push Value.none)) hS rfl
  refine wpAny_updateSeq (hz := by seq_fits) hS₂ rfl ?_
  have hS₃ := Heap.get?_update_self (Obj.mapSeq (·.pop)) hS₂ rfl
  refine wpAny_pure ⟨plainId_quiet PySem.F.plain_extend_loop _, key _ _ _ (fun b o hb e => ?_) hS₃⟩
  exact (Heap.get?_update_other _ _ (Ne.symm hb)).trans ((Heap.get?_update_other _ _ (Ne.symm hb)).trans e)
theorem drw_init {S I : Addr} {T : String} {n : Nat} {St : Nat → Heap → List Value → Prop} {Fn : Heap → List Value → Prop} (hT : s.TypeIs (.ref I) T) (hSI : S ≠ I) (h1 : typeLookup (.type T) "__len__" = pure none) (h2 : typeLookup (.type T) "__length_hint__" = pure none)
    (t1 : (Value.type T == Value.type "list") = false) (t2 : (Value.type T == Value.type "tuple") = false)
    (hself : ∀ (h' : Heap) (Q : Value → Shared → Prop) (E : Value → Shared → Prop), (∀ b o, b ≠ S → s.heap.get? b = some o → h'.get? b = some o) → Q (.ref I) { s with heap := h' } → wpAny (model prog w) A.in1 (pyIter (.ref I)) Q E { s with heap := h' })
    (D : Drw prog w A.in1 s S I n St Fn) (hn : n ≤ sizeLine) (st : St 0 s.heap []) (hS : s.heap.get? S = some { cls := .type "list", data := .seq #[] })
    (hR : ∀ h' tk acc c, Fn h' acc → acc.length = n → h'.get? S = some { cls := .type "list", dict := none, data := .seq acc.toArray c, slots := #[] } → R (.ok (.ret .none)) { s with heap := h', toks := tk }) :
    wpAny (model prog w) A.in1 (Builtin.«list.__init__» ⟨[.ref S, .ref I], []⟩)
      (fun fin s' => match fin with | .done f => R (.ok f) s' | .again c' => c'.quiet = true ∧ codeAny (model prog w) A c' R s') (fun e s' => R (.error e) s') s := by
  show wpAny _ _ (do let old ← Builtin.List.listItems (.ref S); Builtin.List.listUpdate (.ref S) (fun _ => #[]); letGo old.toList.reverse; Builtin.List.listExtendWith (.ref S) (.ref I) .none) _ _ s
  refine wpAny_bind ?_
  unfold Builtin.List.listItems
  refine wpAny_bind (wpAny_seqItems hS rfl (wpAny_pure ?_))
  show wpAny _ _ (updateSeq S (fun _ => #[]) >>= fun _ => letGo (#[] : Array Value).toList.reverse >>= fun _ => Builtin.List.listExtendWith (.ref S) (.ref I) .none) _ _ s
  refine wpAny_bind (wpAny_updateSeq hS rfl ?_)
  have hS₂ := Heap.get?_update_self (Obj.mapSeq (fun _ => (#[] : Array Value))) hS rfl
  have oth : ∀ b o, b ≠ S → s.heap.get? b = some o → (s.heap.update S (Obj.mapSeq (fun _ => (#[] : Array Value)))).get? b = some o :=
    fun b o hb e => (Heap.get?_update_other _ _ (Ne.symm hb)).trans e
  refine wpAny_bind (wpAny_letGo ?_)
  refine drw_extend (T := T) (s := { s with heap := s.heap.update S (Obj.mapSeq (fun _ => (#[] : Array Value))) }) (let ⟨o, ho, x⟩ := hT; ⟨o, oth I o hSI.symm ho, x⟩) hSI h1 h2 t1 t2 (fun Q E q => hself _ Q E oth q) ⟨D.keep, D.item, D.done⟩ hn (D.keep _ _ _ _ st oth fun o e => ⟨_, hS₂⟩) .none _ hS₂ hR
theorem drw_call {E : Value → Shared → Prop} {I : Addr} {T : String} {n : Nat} {St : Nat → Heap → List Value → Prop} {Fn : Heap → List Value → Prop} {Q : Value → Shared → Prop} (hT : s.TypeIs (.ref I) T) (h1 : typeLookup (.type T) "__len__" = pure none) (h2 : typeLookup (.type T) "__length_hint__" = pure none)
    (t1 : (Value.type T == Value.type "list") = false) (t2 : (Value.type T == Value.type "tuple") = false)
    (hself : ∀ (A' : Around) (h' : Heap) (Q : Value → Shared → Prop) (E : Value → Shared → Prop), (∀ b o, s.heap.get? b = some o → h'.get? b = some o) → Q (.ref I) { s with heap := h' } → wpAny (model prog w) A' (pyIter (.ref I)) Q E { s with heap := h' })
    (D : Drw prog w A.in1.in1 s s.heap.objs.size I n St Fn) (hn : n ≤ sizeLine) (st : St 0 s.heap [])
    (hQ : ∀ h' tk acc c, Fn h' acc → acc.length = n → h'.get? s.heap.objs.size = some { cls := .type "list", dict := none, data := .seq acc.toArray c, slots := #[] } → Q (.ref s.heap.objs.size) { s with heap := h', toks := tk }) :
    wpAny (model prog w) A (call (.type "list") [.ref I]) Q E s := by
  refine callType_codes (Q₁ := fun obj s₁ => obj = .ref s.heap.objs.size ∧ s₁ = { s with heap := s.heap.push { cls := .type "list", data := .seq #[] } }) PySem.F.called_list (PySem.F.typeCall_list_1 _) PySem.F.entry_list_init
    (code_list_new _ ⟨rfl, rfl⟩) fun obj s₁ h₁ => ?_
  obtain ⟨rfl, rfl⟩ := h₁
  have hS : (s.heap.push { cls := .type "list", data := .seq #[] }).get? s.heap.objs.size = some { cls := .type "list", data := .seq #[] } := Heap.get?_push_size _ rfl
  have hI : I < s.heap.objs.size := let ⟨_, ho, _⟩ := hT; Heap.lt_size ho
  have up : ∀ b o, s.heap.get? b = some o → (s.heap.push { cls := .type "list", data := .seq #[] }).get? b = some o := fun b o e => Heap.get?_push_of_some _ e
  refine ⟨⟨_, hS, rfl⟩, PySem.F.args_list_init_2 _ _, drw_init (A := A.in1) (T := T) (s := { s with heap := s.heap.push { cls := .type "list", data := .seq #[] } }) (let ⟨o, ho, x⟩ := hT; ⟨o, up _ _ ho, x⟩) (Nat.ne_of_gt hI) h1 h2 t1 t2
    (fun h' Q E hk q => hself _ h' Q E (fun b o e => hk b o (Nat.ne_of_lt (Heap.lt_size e)) (up b o e)) q) ⟨D.keep, D.item, D.done⟩ hn (D.keep _ _ _ _ st (fun b o _ e => up b o e) fun o e => ⟨_, hS⟩) hS (fun h' tk acc c st' hl hS' => ?_)⟩
  exact ⟨rfl, hQ h' tk acc c st' hl hS'⟩
end
end Dn
namespace Dn
open PySem PySem.Spec PyProof.Rows L2
open Evl (Ex fresh_back)
section
variable {M : Model} {A : Around} {E : Value → Shared → Prop} {s : Shared} {env : Env} {pos p : Pos} {e : Expr}
/-- T(*e) -/
theorem callWith_tyS {T : String} {Q : Value → Shared → Prop} (h : wpAny M A (eval e env) (fun v s₁ => PySem.W.StarOf M A E v (fun vs s₂ => wpAny M A (call (.type T) vs) Q E s₂) s₁) E s)
    (he : starEach [.Starred e p] env = [(true, eval e env)] := by rfl) : wpAny M A (callWith pos (.type T) [] (backTo pos (starEach [.Starred e p] env)) []) Q E s := by
  rw [he]
  exact PySem.W.ks_call (P := fun _ => True) rfl (fun h _ => ⟨.machine, .inr (.inl rfl), PySem.W.Looks.of_pure rfl⟩) (PySem.W.ks_lone (wpAny_mono h (fun v s1 h1 => by
    unfold PySem.W.StarOf at h1 ⊢
    exact wpAny_mono h1 (fun b s2 h2 => ⟨h2.1, wpAny_mono h2.2 (fun vs s3 h3 => ⟨trivial, h3⟩) fun _ _ z => z⟩) fun _ _ z => z) fun _ _ z => z))
end
section
variable {prog : Program} {w : World} {A : Around} {E : Value → Shared → Prop} {s : Shared}
theorem zZ_at {h : Heap} {r : List Src} (hs : ∀ S ∈ r, SqAt S.kd h S.a S.its) : ZAt (zZ h r) h.objs.size r 0 := by
  have z1 : (pushIts h r).objs.size = h.objs.size + r.length := pushIts_size r h
  have z2 : (zT h r).objs.size = h.objs.size + r.length + 1 := by unfold zT; rw [Heap.size_push, z1]
  have z3 : (zO h r).objs.size = h.objs.size + r.length + 2 := by unfold zO; rw [Heap.size_push, z2]
  have k1 : ∀ b o, (pushIts h r).get? b = some o → (zZ h r).get? b = some o := fun b o e => Heap.get?_push_of_some _ (Heap.get?_push_of_some _ (Heap.get?_push_of_some _ e))
  refine ⟨.inl ⟨rfl, ?_⟩, ?_, ⟨((itRefs h.objs.size r).map fun _ => Value.none).toArray, ?_, by rw [List.size_toArray, List.length_map, itRefs_len]⟩, fun j S e => ⟨?_, ?_⟩⟩
  · have : (zZ h r).get? (zO h r).objs.size = some { cls := .type "zip", data := .fields #[.none, .bool false, .bool false, .ref (pushIts h r).objs.size, .ref (zT h r).objs.size] } := Heap.get?_push_size _ rfl
    rw [z3, z1, z2] at this
    exact this
  · have : (zZ h r).get? (pushIts h r).objs.size = _ := Heap.get?_push_of_some _ (Heap.get?_push_of_some _ (Heap.get?_push_size _ rfl))
    rw [z1] at this
    exact this
  · have : (zZ h r).get? (zT h r).objs.size = _ := Heap.get?_push_of_some _ (Heap.get?_push_size _ rfl)
    rw [z2] at this
    exact this
  · have := k1 _ _ (pushIts_get r h j S e)
    exact itO_at this
  · exact (hs S (List.mem_of_getElem? e)).keep fun b o q => k1 _ _ (pushIts_keep r h b o q)
theorem zZ_size {h : Heap} {r : List Src} : (zZ h r).objs.size = h.objs.size + r.length + 3 := by
  unfold zZ zO zT
  rw [Heap.size_push, Heap.size_push, Heap.size_push, pushIts_size]
theorem zZ_keep {h : Heap} {r : List Src} (b : Addr) (o : Obj) (e : h.get? b = some o) : (zZ h r).get? b = some o :=
  Heap.get?_push_of_some _ (Heap.get?_push_of_some _ (Heap.get?_push_of_some _ (pushIts_keep r h b o e)))
theorem zip_callN {r : List Src} {Q : Value → Shared → Prop} (hl : r.length ≤ 1000) (hs : ∀ S ∈ r, SqAt S.kd s.heap S.a S.its) (hQ : Q (.ref (s.heap.objs.size + r.length + 2)) { s with heap := zZ s.heap r }) :
    wpAny (model prog w) A (call (.type "zip") (r.map srcV)) Q E s := by
  have z3 : (zO s.heap r).objs.size = s.heap.objs.size + r.length + 2 := by unfold zO zT; rw [Heap.size_push, Heap.size_push, pushIts_size]
  refine callType_new F.called_zip (by decide) (zn_typeCall _) (zn_newCall _) (fun obj => zn_init obj _) F.entry_zip_new (meets_zip_newN hl) ⟨hs, ?_⟩
  rw [z3]
  have e : (zZ s.heap r).get? (zO s.heap r).objs.size = some { cls := .type "zip", data := .fields #[.none, .bool false, .bool false, .ref (pushIts s.heap r).objs.size, .ref (zT s.heap r).objs.size] } := Heap.get?_push_size _ rfl
  rw [z3] at e
  exact ⟨⟨_, e, rfl⟩, hQ⟩
/-- the tuples given so far -/
structure ZG (r : List Src) (lo : Addr) (h : Heap) (as : List Addr) : Prop where
  rise : as.Pairwise (· < ·)
  above : ∀ a ∈ as, lo < a
  tup : ∀ (j : Nat) (a : Addr), as[j]? = some a → IsTupA h a (colAt r j).toArray
theorem ZG.at {r : List Src} {lo : Addr} {h h' : Heap} {as : List Addr} (g : ZG r lo h as) (k : ∀ (b : Nat) o, lo < b → h.get? b = some o → h'.get? b = some o) : ZG r lo h' as :=
  ⟨g.rise, g.above, fun j a e => k _ _ (g.above a (List.mem_of_getElem? e)) (g.tup j a e)⟩
theorem ZG.there {r : List Src} {lo : Addr} {h : Heap} {as : List Addr} (g : ZG r lo h as) {a : Addr} (ha : a ∈ as) : a < h.objs.size := by
  obtain ⟨j, hj⟩ := List.mem_iff_getElem?.mp ha
  exact Heap.lt_size (g.tup j a hj)
theorem ZG.snoc {r : List Src} {lo : Addr} {h h' : Heap} {as : List Addr} {T i : Nat} (g : ZG r lo h as) (hi : as.length = i) (hT : h.objs.size ≤ T) (hlo : lo < h.objs.size) (k : ∀ (b : Nat) o, lo < b → h.get? b = some o → h'.get? b = some o) (ht : IsTupA h' T (colAt r i).toArray) : ZG r lo h' (as ++ [T]) := by
  refine ⟨List.pairwise_append.mpr ⟨g.rise, List.pairwise_singleton _ _, fun a ha b hb => ?_⟩, fun a ha => ?_, fun j a e => ?_⟩
  · rw [List.mem_singleton.mp hb]
    exact Nat.lt_of_lt_of_le (g.there ha) hT
  · rcases List.mem_append.mp ha with ha | ha
    · exact g.above a ha
    · rw [List.mem_singleton.mp ha]
      exact Nat.lt_of_lt_of_le hlo hT
  · rcases Nat.lt_trichotomy j as.length with h1 | h1 | h1
    · rw [List.getElem?_append_left h1] at e
      exact (g.at k).tup j a e
    · subst h1
      have : T = a := by simpa using e
      subst this
      rw [hi]
      exact ht
    · have : (as ++ [T])[j]? = none := List.getElem?_eq_none (by rw [List.length_append, List.length_singleton]; omega)
      rw [this] at e
      cases e
/-- zip's draws -/
theorem zip_drw {h0 : Heap} {r : List Src} {m : Nat} (hh : A.handled = none) (hr : r ≠ []) (hl : r.length ≤ 1000) (lo : ∀ S ∈ r, S.a < h0.objs.size) (hm : ∀ S ∈ r, S.its.size = m) (h1m : 1 ≤ m) :
    Drw prog w A s (h0.objs.size + r.length + 3) (h0.objs.size + r.length + 2) m (fun i h acc => ZAt h h0.objs.size r i ∧ i ≤ m ∧ (∀ b o, h0.get? b = some o → h.get? b = some o) ∧ (i = 0 ∨ h0.objs.size + r.length + 3 < h.objs.size) ∧ ∃ as : List Addr, acc = as.map Value.ref ∧ as.length = i ∧ ZG r (h0.objs.size + r.length + 3) h as)
      (fun h acc => (∀ b o, h0.get? b = some o → h.get? b = some o) ∧ ∃ as : List Addr, acc = as.map Value.ref ∧ as.length = m ∧ ZG r (h0.objs.size + r.length + 3) h as) where
  keep := by
    intro i h h' acc ⟨st, hi, k0, hsz, as, e1, e2, g⟩ hk hS
    have kx : ∀ (c : Nat) o, c ≠ h0.objs.size + r.length + 3 → h.get? c = some o → h'.get? c = some o := fun c o hc e => hk c o hc e
    refine ⟨st.at lo (fun c o hc e => kx c o (by omega) e) fun T oT hT e => ?_, hi, fun b o e => kx b o (Nat.ne_of_lt (Nat.lt_of_lt_of_le (Heap.lt_size e) (Nat.le_add_right_of_le (Nat.le_add_right _ _)))) (k0 b o e), ?_, as, e1, e2, g.at fun b o hb e => kx b o (Nat.ne_of_gt hb) e⟩
    · by_cases hT' : T = h0.objs.size + r.length + 3
      · subst hT'
        exact hS _ e
      · exact ⟨_, kx T oT hT' e⟩
    · cases as with
      | nil => exact .inl (by rw [← e2]; rfl)
      | cons a as => exact .inr (Nat.lt_trans (g.above a (by simp)) (Heap.lt_size (kx a _ (Nat.ne_of_gt (g.above a (by simp))) (g.tup 0 a rfl))))
  item := by
    intro i h tk acc oS Q E hlt ⟨st, hi, k0, hsz, as, e1, e2, g⟩ hS hQ
    refine zipN_pyNext_item (s := { s with heap := h, toks := tk }) hh hr hl lo st (fun S hS => by rw [hm S hS]; exact hlt) fun h' tk' T st' hT ht hk => ?_
    have hSl : h0.objs.size + r.length + 3 < h.objs.size := Heap.lt_size hS
    have hT' : h.objs.size ≤ T := hT
    refine hQ _ h' tk' ⟨st', hlt, fun b o e => hk b o (.inl (Heap.lt_size e)) (k0 b o e), .inr ?_, as ++ [T], by rw [e1, List.map_append]; rfl, by rw [List.length_append, e2]; rfl, g.snoc e2 hT' hSl (fun b o hb e => hk b o (.inr (Nat.lt_trans (Nat.lt_succ_self _) hb)) e) ht⟩ (hk _ _ (.inr (Nat.lt_succ_self _)) hS)
    exact Nat.lt_of_lt_of_le hSl (Nat.le_of_lt (Nat.lt_of_le_of_lt hT' (Heap.lt_size ht)))
  done := by
    intro h tk acc oS Q E ⟨st, hi, k0, hsz, as, e1, e2, g⟩ hS hQ
    obtain ⟨S0, hS0⟩ : ∃ S, S ∈ r := by
      cases r with
      | nil => exact absurd rfl hr
      | cons S r => exact ⟨S, by simp⟩
    refine zipN_pyNext_end (s := { s with heap := h, toks := tk }) hh hr lo st h1m (fun S hS => by rw [hm S hS]; exact Nat.le_refl _) ⟨S0, hS0, (hm S0 hS0).symm⟩ fun h' tk' hk => ?_
    exact hQ h' tk' ⟨fun b o e => hk b o (.inl (Heap.lt_size e)) (k0 b o e), as, e1, e2, g.at fun b o hb e => hk b o (.inr (Nat.lt_trans (Nat.lt_succ_self _) hb)) e⟩ (hk _ _ (.inr (Nat.lt_succ_self _)) hS)
end
end Dn
namespace Dn
open PySem PySem.Spec PyProof.Rows L2
open Evl (Ex fresh_back)
/-- new tuples -/
def putTs (os : Addr → Obj) : Hp → List Addr → List (List V) → Hp
  | H, a :: as, l :: ls => putTs os (upd H a (.frz (os a) (.tup l))) as ls
  | H, _, _ => H
theorem putTs_off {os : Addr → Obj} {b : Addr} : ∀ (as : List Addr) (ls : List (List V)) (H : Hp), b ∉ as → putTs os H as ls b = H b
  | [], _, _, _ => rfl
  | _ :: _, [], _, _ => rfl
  | a :: as, l :: ls, H, h => by
    show putTs os (upd H a (.frz (os a) (.tup l))) as ls b = H b
    rw [putTs_off as ls _ (fun z => h (List.mem_cons_of_mem _ z)), upd_ne (fun z => h (by rw [z]; exact List.mem_cons_self))]
theorem putTs_at {os : Addr → Obj} : ∀ (as : List Addr) (ls : List (List V)) (H : Hp), as.Nodup → ∀ (j : Nat) a l, as[j]? = some a → ls[j]? = some l → putTs os H as ls a = some (.frz (os a) (.tup l))
  | [], _, _, _, j, a, l, e, _ => by simp at e
  | _ :: _, [], _, _, j, a, l, _, e => by simp at e
  | a :: as, l :: ls, H, hn, 0, a', l', e1, e2 => by
    cases e1
    cases e2
    have hn' := List.nodup_cons.mp hn
    show putTs os (upd H a (.frz (os a) (.tup l))) as ls a = _
    rw [putTs_off as ls _ hn'.1, upd_same]
  | a :: as, l :: ls, H, hn, j + 1, a', l', e1, e2 => putTs_at as ls _ (List.nodup_cons.mp hn).2 j a' l' e1 e2
theorem putTs_ex {os : Addr → Obj} {G H : Hp} (e : Ex G H) : ∀ (as : List Addr) (ls : List (List V)), (∀ a ∈ as, H a = none) → as.Nodup → Pu G H (putTs os G as ls) (putTs os H as ls) := by
  intro as
  induction as generalizing G H with
  | nil => intro ls _ _; cases ls <;> exact Pu.refl e
  | cons a as ih =>
    intro ls hf hn
    cases ls with
    | nil => exact Pu.refl e
    | cons l ls =>
      have hn' := List.nodup_cons.mp hn
      have p1 : Pu G H (upd G a (.frz (os a) (.tup l))) (upd H a (.frz (os a) (.tup l))) := Pu.new e (hf a (by simp))
      refine p1.trans (ih p1.s ls (fun b hb => ?_) hn'.2)
      rw [upd_ne (fun z => hn'.1 (by rw [← z]; exact hb))]
      exact hf b (by simp [hb])
section
variable {X : Cx} {e : Expr} {te : TE} {p p2 sp_ cpos pos : Pos}
theorem tups_laid {os : Addr → Obj} {pins : List (Addr × Obj)} {σ : L2.St} {H : Hp} {s : Shared} {h' : Heap} {tk : Nat} {ls : List (List V)} {acc : Array Value} {c : Nat} {S : Addr} {as : List Addr} (I : Inv X pins σ H s) (hz : ls.length ≤ sizeLine) (hz2 : ∀ l ∈ ls, l.length ≤ sizeLine)
    (hk : ∀ b o, s.heap.get? b = some o → h'.get? b = some o) (hSl : s.heap.objs.size ≤ S) (hS : h'.get? S = some { cls := .type "list", dict := none, data := .seq acc c, slots := #[] }) (hl : as.length = ls.length) (rise : as.Pairwise (· < ·)) (above : ∀ a ∈ as, S < a)
    (hT : ∀ (j : Nat) a l, as[j]? = some a → ls[j]? = some l → ∃ us : List Value, Vals l us ∧ IsTupA h' a us.toArray ∧ h'.get? a = some (os a)) (hacc : acc.toList = as.map Value.ref) :
    H S = none ∧ (∀ a ∈ as, H a = none) ∧ S ∉ as ∧ as.Nodup ∧ Inv X pins σ (putTs os (upd H S (.lst (as.map V.ref))) as ls) { s with heap := h', toks := tk } := by
  have hSn : S ∉ as := fun z => Nat.lt_irrefl _ (above _ z)
  have nd : as.Nodup := List.Pairwise.imp (fun {a b} (h : a < b) => Nat.ne_of_lt h) rise
  have new : ∀ t ∈ as, H t = none := fun t ht => I.hok.fresh (Nat.le_trans hSl (Nat.le_of_lt (above t ht)))
  have newS : H S = none := I.hok.fresh hSl
  have off : ∀ b, b ∉ as → b ≠ S → putTs os (upd H S (.lst (as.map V.ref))) as ls b = H b := fun b h1 h2 => by rw [putTs_off as ls _ h1, upd_ne h2]
  have low : ∀ b o, s.heap.get? b = some o → b ∉ as ∧ b ≠ S := fun b o e => ⟨fun z => absurd (Heap.lt_size e) (Nat.not_lt.mpr (Nat.le_trans hSl (Nat.le_of_lt (above b z)))), Nat.ne_of_lt (Nat.lt_of_lt_of_le (Heap.lt_size e) hSl)⟩
  have kp : ∀ b u, H b = some u → (putTs os (upd H S (.lst (as.map V.ref))) as ls) b = some u := fun b u e => by
    rw [off b (fun z => by rw [new b z] at e; cases e) (fun z => by rw [z, newS] at e; cases e)]
    exact e
  have eS : putTs os (upd H S (.lst (as.map V.ref))) as ls S = some (.lst (as.map V.ref)) := by rw [putTs_off as ls _ hSn, upd_same]
  refine ⟨newS, new, hSn, nd, I.call' (ch := []) rfl ⟨fun b o q _ _ _ => hk b o q, fun b o q _ _ _ => ⟨o.slots, hk b o q⟩, fun b o q n _ => ?_, fun b o q _ => ⟨o, hk b o q⟩, fun b xs q => kp b _ q, fun b o u q => kp b _ q, fun b ps q => ⟨#[], by rw [kp b _ q]; simp⟩⟩ (fun b u q => ?_) I.bare fun b z => by simp at z⟩
  · obtain ⟨z1, z2⟩ := low b o q
    rw [off b z1 z2]
    exact n
  · by_cases hb : b ∈ as
    · obtain ⟨j, hj⟩ := List.mem_iff_getElem?.mp hb
      have hjl : j < ls.length := by rw [← hl]; exact (List.getElem?_eq_some_iff.mp hj).1
      obtain ⟨l, e2⟩ : ∃ l, ls[j]? = some l := ⟨ls[j], List.getElem?_eq_getElem hjl⟩
      rw [putTs_at as ls _ nd j b l hj e2] at q
      cases q
      obtain ⟨us, rv, ht, ho⟩ := hT j b l hj e2
      exact ⟨ho, hz2 l (List.mem_of_getElem? e2), us, rv, ⟨_, ht, rfl, _, rfl⟩⟩
    · by_cases hb2 : b = S
      · rw [hb2] at q ⊢
        rw [eS] at q
        cases q
        refine ⟨by rw [List.length_map]; omega, acc.toList, c, by rw [hacc]; exact LiI.vals_refs as, ?_⟩
        rw [Array.toArray_toList]
        exact hS
      · rw [off b hb hb2] at q
        exact (I.hok b u q).stay (fun d v _ y => hk d v y) (fun d y => kp d _ y) fun d xs y => kp d _ y
/-- kind, place, items of each -/
abbrev Seqs := List (Bool × Addr × List V)
def colV (rs : Seqs) (m : Nat) : List (List V) := (List.range m).map fun j => rs.map fun q => q.2.2.getD j .non
def rZipL : List V → Hp → VK → Prop := fun xs H Q => ∃ (rs : Seqs) (m : Nat), xs = rs.map (fun q => V.ref q.2.1) ∧ rs ≠ [] ∧ rs.length ≤ 1000 ∧ 1 ≤ m ∧ (∀ q ∈ rs, HoS H q.2.1 q.1 q.2.2 ∧ q.2.2.length = m) ∧
  ∀ (S : Addr) (as : List Addr) (os : Addr → Obj), H S = none → (∀ a ∈ as, H a = none) → S ∉ as → as.Nodup → as.length = m → (∀ a ∈ as, (os a).dict = none) → Q (.ref S) (putTs os (upd H S (.lst (as.map V.ref))) as (colV rs m))
theorem vals_refs_inv : ∀ {rs : Seqs} {us : List Value}, Vals (rs.map fun q => V.ref q.2.1) us → us = rs.map fun q => Value.ref q.2.1
  | [], _, .nil => rfl
  | q :: rs, _, .cons h t => by
    have h' : _ = Value.ref q.2.1 := h
    rw [h', vals_refs_inv t]
    rfl
/-- what stands in the heap -/
theorem srcs_of {pins : List (Addr × Obj)} {σ : L2.St} {H : Hp} {s : Shared} (I : Inv X pins σ H s) : ∀ {rs : Seqs}, (∀ q ∈ rs, HoS H q.2.1 q.1 q.2.2) →
    ∃ r : List Src, r.map (·.a) = rs.map (·.2.1) ∧ (∀ S ∈ r, SqAt S.kd s.heap S.a S.its ∧ S.a < s.heap.objs.size) ∧ ∀ (j : Nat) S q, r[j]? = some S → rs[j]? = some q → Vals q.2.2 S.its.toList
  | [], _ => ⟨[], rfl, fun S h => by simp at h, fun j S q e _ => by simp at e⟩
  | q :: rs, h => by
    obtain ⟨r, e1, e2, e3⟩ := srcs_of I (rs := rs) fun q hq => h q (by simp [hq])
    obtain ⟨its, rv, sq, lt⟩ := src_at I (h q (by simp))
    refine ⟨⟨q.1, q.2.1, its.toArray⟩ :: r, by simp [e1], fun S hS => ?_, fun j S q' k1 k2 => ?_⟩
    · rcases List.mem_cons.mp hS with z | z
      · subst z; exact ⟨sq, lt⟩
      · exact e2 S z
    · cases j with
      | zero => cases k1; cases k2; simpa using rv
      | succ j => exact e3 j S q' k1 k2
theorem vals_getDD : ∀ {xs : List V} {us : List Value} (j : Nat), Vals xs us → RelV (xs.getD j .non) (us.getD j .none)
  | _, _, _, .nil => rfl
  | _, _, 0, .cons h _ => h
  | _, _, j + 1, .cons _ t => vals_getDD j t
theorem col_vals {j : Nat} : ∀ {rs : Seqs} {r : List Src}, rs.length = r.length → (∀ (i : Nat) S q, r[i]? = some S → rs[i]? = some q → Vals q.2.2 S.its.toList) → Vals (rs.map fun q => q.2.2.getD j .non) (colAt r j)
  | [], [], _, _ => .nil
  | [], _ :: _, h, _ => by cases h
  | _ :: _, [], h, _ => by cases h
  | q :: rs, S :: r, h, k => by
    refine .cons ?_ (col_vals (by simpa using h) fun i S q e1 e2 => k (i + 1) S q e1 e2)
    have := vals_getDD j (k 0 S q rfl rfl)
    show RelV (q.2.2.getD j .non) (S.its.getD j .none)
    rw [show S.its.getD j .none = S.its.toList.getD j .none by simp [Array.getD_eq_getD_getElem?]]
    exact this
/-- list(zip(*e)) -/
theorem pe_listZipS (hc : X.calm = true) (he : PE X e te) (hg : Gl X "list") (hm : X.mg "list" = none) (hv : bootBuiltins "list" = some (.type "list")) (hg2 : Gl X "zip") (hm2 : X.mg "zip" = none) (hv2 : bootBuiltins "zip" = some (.type "zip"))
    (hs : starEach [.Call (.Name "zip" p2) [.Starred e sp_] [] cpos] X.env = (false, eval (.Call (.Name "zip" p2) [.Starred e sp_] [] cpos) X.env) :: starEach [] X.env := by rfl)
    (hst : starEach [.Starred e sp_] X.env = [(true, eval e X.env)] := by rfl) :
    PE X (.Call (.Name "list" p) [.Call (.Name "zip" p2) [.Starred e sp_] [] cpos] [] pos) (fun σ H Q => te σ H fun y H1 => ∃ a xs, y = V.ref a ∧ (SqT X.K H1 a xs ∨ SqL X.K H1 a xs) ∧ rZipL xs H1 Q) := by
  refine ⟨fun pins s σ H Q I hq => ?_⟩
  refine wpAny_Call_Name_kw (ld_blt I hg hm hv ?_)
  refine PyProof.Rows.callWith_type1 ?_ hs rfl
  rw [hs]
  show wpAny _ _ (spliced ((false, eval (.Call (.Name "zip" p2) [.Starred e sp_] [] cpos) X.env) :: backTo pos (starEach [] X.env))) _ _ s
  refine Calls.spliced_cons ?_
  refine wpAny_Call_Name_kw (ld_blt I hg2 hm2 hv2 ?_)
  refine callWith_tyS (thn (he.run pins s σ H _ I hq) fun v s1 ⟨y, H1, I1, ry, a, xs, ey, hx, q⟩ => ?_) hst
  subst ey
  obtain rfl : v = Value.ref a := ry
  refine StX.star_any I1 hx fun us s2 I2 rv => ?_
  obtain ⟨rs, m, exs, hne, hl, h1m, hH, hQ⟩ := q
  subst exs
  have eus := vals_refs_inv rv
  subst eus
  obtain ⟨r, e1, e2, e3⟩ := srcs_of I2 (rs := rs) fun q hq => (hH q hq).1
  have hlen : r.length = rs.length := by have := congrArg List.length e1; simpa using this
  have eargs : (rs.map fun q => Value.ref q.2.1) = r.map srcV := by
    have := congrArg (List.map Value.ref) e1
    simpa [Function.comp_def] using this.symm
  rw [eargs]
  have hrne : r ≠ [] := fun z => hne (List.eq_nil_of_length_eq_zero (by rw [← hlen, z]; rfl))
  have hms : ∀ S ∈ r, S.its.size = m := fun S hS => by
    obtain ⟨j, hj⟩ := List.mem_iff_getElem?.mp hS
    have hjl : j < rs.length := by rw [← hlen]; exact (List.getElem?_eq_some_iff.mp hj).1
    have := (e3 j S rs[j] hj (List.getElem?_eq_getElem hjl)).length
    rw [Array.length_toList] at this
    rw [← this]
    exact (hH _ (List.getElem_mem hjl)).2
  refine zip_callN (by omega) (fun S hS => (e2 S hS).1) ?_
  refine Calls.spliced_nil ?_
  have hAh : X.A.handled = none := I2.ok.hd hc
  have hmz : m ≤ sizeLine := by
    obtain ⟨q0, hq0⟩ : ∃ q, q ∈ rs := List.exists_mem_of_ne_nil _ hne
    obtain ⟨hA, hB⟩ := hH q0 hq0
    rw [← hB]
    generalize q0.1 = kd at hA
    cases kd with
    | true => exact (I2.hok _ _ (show H1 q0.2.1 = some (.lst q0.2.2) from hA)).1
    | false => exact (TupS.rd (show TupS H1 q0.2.1 q0.2.2 from hA) |>.ok I2.hok).1
  have D := zip_drw (prog := X.prog) (w := X.w) (A := X.A.in1.in1) (s := { s2 with heap := zZ s2.heap r }) (h0 := s2.heap) (r := r) (m := m) hAh hrne (by omega) (fun S hS => (e2 S hS).2) hms h1m
  have st0 := zZ_at fun S hS => (e2 S hS).1
  have hz0 : IsZip (zZ s2.heap r) (s2.heap.objs.size + r.length + 2) (s2.heap.objs.size + r.length) (s2.heap.objs.size + r.length + 1) .none := by
    rcases st0.z with ⟨_, z⟩ | ⟨T, f, oT, z, hT, hN⟩
    · exact z
    · exact absurd (Heap.lt_size hT) (by rw [zZ_size]; exact Nat.not_lt.mpr hN)
  rw [← zZ_size (h := s2.heap)] at D
  refine drw_call (T := "zip") (s := { s2 with heap := zZ s2.heap r }) ⟨_, hz0, rfl⟩ zip_no_len zip_no_hint (by decide) (by decide) (fun A' h' Q' E' hk q => ?_) D hmz ⟨st0, Nat.zero_le _, zZ_keep, .inl rfl, [], rfl, rfl, .nil, (fun a h => by cases h), (fun j a h => by simp at h)⟩ ?_
  · exact wpAny_pyIter_zip (s := { s2 with heap := h' }) (hk _ _ hz0) q
  · intro h' tk acc c ⟨hk, as, ea, hal, g⟩ hal2 hS
    dsimp only at hS ⊢
    have hcl : ∀ (j : Nat) l, (colV rs m)[j]? = some l → j < m ∧ l = rs.map fun q => q.2.2.getD j .non := fun j l e => by
      unfold colV at e
      rw [List.getElem?_map] at e
      have hj : j < m := by
        by_cases hj : j < m
        · exact hj
        · rw [List.getElem?_eq_none (by simpa using hj)] at e; cases e
      rw [List.getElem?_range hj] at e
      cases e
      exact ⟨hj, rfl⟩
    obtain ⟨k1, k2, k3, k4, J⟩ := tups_laid (os := fun a => (h'.get? a).getD { cls := .none, data := .fields #[] }) (tk := tk) (ls := colV rs m) (S := (zZ s2.heap r).objs.size) I2 (by simpa [colV] using hmz) (fun l hl' => by
      obtain ⟨j, hj⟩ := List.mem_iff_getElem?.mp hl'
      rw [(hcl j l hj).2, List.length_map]
      have := sizeLine_eq
      omega) hk (by rw [zZ_size]; exact Nat.le_add_right_of_le (Nat.le_add_right _ _)) hS (by rw [hal]; simp [colV]) g.rise g.above (fun j a l e4 e5 => by
      rw [(hcl j l e5).2]
      exact ⟨_, col_vals hlen.symm e3, g.tup j a e4, by rw [show h'.get? a = _ from g.tup j a e4]; rfl⟩) (by rw [List.toList_toArray, ea])
    exact ⟨.ref _, _, J, rfl, hQ _ as _ k1 k2 k3 k4 hal fun a ha => by
      obtain ⟨j, hj⟩ := List.mem_iff_getElem?.mp ha
      show ((h'.get? a).getD _).dict = none
      rw [show h'.get? a = _ from g.tup j a hj]
      rfl⟩
end
end Dn
namespace Dn
open PySem PySem.Spec PyProof.Rows L2
open Evl (Ex fresh_back)
open CpRep (StopE)
theorem mro_acc : mroOf (.type "itertools.accumulate") = pure [.type "itertools.accumulate", .type "object"] := by rw [mroOf_type]; kernel_rfl
theorem lookup_acc_new : typeLookup (.type "itertools.accumulate") "__new__" = pure (some (.builtin "itertools.accumulate.__new__")) := by rw [typeLookup_type, builtinLookup_eq_fast]; kernel_rfl
theorem slot_acc_init : Slot "itertools.accumulate" "__init__" "object.__init__" :=
  .of (owner := "object") (n := "__init__") (by rw [typeLookup_type, builtinLookup_eq_fast]; kernel_rfl) (by decide +kernel) (by decide +kernel) (by decide +kernel)
    (by first | exact .inl (by decide +kernel) | exact .inr (by decide +kernel)) (by rw [isSubtype_type]; kernel_rfl)
theorem sub_acc : isSubtype (.type "itertools.accumulate") (.type "itertools.accumulate") = pure true := by rw [isSubtype_type]; kernel_rfl
theorem called_acc : TypeCalled "itertools.accumulate" "itertools.accumulate.__new__" "object.__init__" :=
  ⟨by decide +kernel, by decide +kernel, ⟨_, _, mro_acc⟩, madeBy_type mro_acc lookup_acc_new (by decide +kernel), by decide +kernel, sub_acc, slot_acc_init⟩
theorem typeCall_acc (a : Value) : checkTypeCall "itertools.accumulate" ⟨[a], []⟩ = pure () := by kernel_rfl
theorem newCall_acc (a : Value) : checkBuiltinCall "itertools.accumulate.__new__" ⟨[.type "itertools.accumulate", a], []⟩ = pure () := by kernel_rfl
theorem init_acc (obj a : Value) : argsOk "object.__init__" ⟨[obj, a], []⟩ := by unfold argsOk; kernel_rfl
theorem entry_acc_new : entryFor table "itertools.accumulate.__new__" = some Builtin.«itertools.accumulate.__new__» := entryFor_of_tree (by kernel_rfl)
theorem slot_acc_iter : Slot "itertools.accumulate" "__iter__" "itertools.accumulate.__iter__" :=
  .of (owner := "itertools.accumulate") (n := "__iter__") (by rw [typeLookup_type, builtinLookup_eq_fast]; kernel_rfl) (by decide +kernel) (by decide +kernel) (by decide +kernel)
    (by first | exact .inl (by decide +kernel) | exact .inr (by decide +kernel)) sub_acc
theorem slot_acc_next : Slot "itertools.accumulate" "__next__" "itertools.accumulate.__next__" :=
  .of (owner := "itertools.accumulate") (n := "__next__") (by rw [typeLookup_type, builtinLookup_eq_fast]; kernel_rfl) (by decide +kernel) (by decide +kernel) (by decide +kernel)
    (by first | exact .inl (by decide +kernel) | exact .inr (by decide +kernel)) sub_acc
theorem entry_acc_iter : entryFor table "itertools.accumulate.__iter__" = some Builtin.«dict_keyiterator.__iter__» :=
  entryFor_alias (id' := "dict_keyiterator.__iter__") (by kernel_rfl) (by first | rfl | decide +kernel | (unfold String.splitOn; simp +decide [String.splitOnAux])) (by decide +kernel) (by kernel_rfl)
theorem entry_acc_next : entryFor table "itertools.accumulate.__next__" = some Builtin.«itertools.accumulate.__next__» := entryFor_of_tree (by kernel_rfl)
theorem args_acc_iter (a : Value) : argsOk "itertools.accumulate.__iter__" ⟨[a], []⟩ := by unfold argsOk; kernel_rfl
theorem args_acc_next (a : Value) : argsOk "itertools.accumulate.__next__" ⟨[a], []⟩ := by unfold argsOk; kernel_rfl
theorem noDict_acc : typeHasDict (.type "itertools.accumulate") = false := by decide +kernel
theorem acc_no_len : typeLookup (.type "itertools.accumulate") "__len__" = pure none := am_miss_of_fast (by decide +kernel)
theorem acc_no_hint : typeLookup (.type "itertools.accumulate") "__length_hint__" = pure none := am_miss_of_fast (by decide +kernel)
end Dn
set_option maxHeartbeats 1000000
namespace Dn
open PySem PySem.Spec PyProof.Rows L2
open Evl (Ex fresh_back)
open CpRep (StopE)
abbrev IsAcc (h : Heap) (a it : Addr) (tot : Value) : Prop := h.get? a = some { cls := .type "itertools.accumulate", dict := none, data := .fields #[.ref it, .none, tot, .none], slots := #[] }
def accH (h : Heap) (l : Addr) : Heap := (h.push (itO true l)).push { cls := .type "itertools.accumulate", dict := none, data := .fields #[.ref h.objs.size, .none, .int 0 0, .none], slots := #[] }
theorem bind_acc (v : Value) : Builtin.Itertools.itBindNamed "accumulate" ["iterable", "func", "initial"] 1 2 [v] [] = pure [some v, none, none] := by kernel_rfl
theorem cls_acc (v : Value) : Builtin.Itertools.itClassAndRest "accumulate" ⟨[.type "itertools.accumulate", v], []⟩ = pure (.type "itertools.accumulate", [v]) := by kernel_rfl
theorem meets_acc_new (l : Addr) (its : Array Value) : Meets (Builtin.«itertools.accumulate.__new__» ⟨[.type "itertools.accumulate", .ref l], []⟩)
    (fun _ R s => s.heap.IsList l its ∧ R (.ok (.ret (.ref (s.heap.objs.size + 1)))) { s with heap := accH s.heap l }) :=
  .of_wp fun prog w A R s h => by
    obtain ⟨hp, g, dd, tk, os⟩ := s
    obtain ⟨hl, h⟩ := h
    have hd := noDict_acc
    have e : (hp.push (itO true l)).objs.size = hp.objs.size + 1 := Heap.size_push _ _
    unfold Builtin.«itertools.accumulate.__new__»
    refine wpAny_bind (wpAny_of_eq (cls_acc _) ?_)
    refine wpAny_bind (wpAny_of_eq (bind_acc _) ?_)
    refine wpAny_bind ((begins_of true l its).iter prog w _ _ ⟨hp, g, dd, tk, os⟩ _ hl ?_)
    unfold Builtin.Itertools.itNewRecord
    rw [hd]
    refine wpAny_bind ?_
    show wpAny _ _ (newObj (.type "itertools.accumulate") (.fields #[.ref hp.objs.size, .none, .int 0 0, .none])) _ _ _
    refine wpAny_newObj_type ?_ (by size_fits)
    refine wpAny_pure ⟨_, rfl, ?_⟩
    rw [e]
    exact h
section
variable {prog : Program} {w : World} {A : Around} {E : Value → Shared → Prop} {s : Shared}
theorem acc_call {l : Addr} {its : Array Value} {Q : Value → Shared → Prop} (hl : s.heap.IsList l its) (hQ : Q (.ref (s.heap.objs.size + 1)) { s with heap := accH s.heap l }) :
    wpAny (model prog w) A (call (.type "itertools.accumulate") [.ref l]) Q E s := by
  refine callType_new called_acc (by decide +kernel) (typeCall_acc _) (newCall_acc _) (fun obj => init_acc obj _) entry_acc_new (meets_acc_new l its) ⟨hl, ?_⟩
  have e : (accH s.heap l).get? (s.heap.push (itO true l)).objs.size = some { cls := .type "itertools.accumulate", dict := none, data := .fields #[.ref s.heap.objs.size, .none, .int 0 0, .none], slots := #[] } := Heap.get?_push_size _ rfl
  rw [Heap.size_push] at e
  exact ⟨⟨_, e, rfl⟩, hQ⟩
theorem acc_iter {it a : Addr} {tot : Value} {Q : Value → Shared → Prop} (hit : IsAcc s.heap it a tot) (h : Q (.ref it) s) : wpAny (model prog w) A (pyIter (.ref it)) Q E s := by
  have hT : s.TypeIs (.ref it) "itertools.accumulate" := ⟨_, hit, rfl⟩
  refine wpAny_pyIter_slot hT slot_acc_iter (wpAny_call_entry slot_acc_iter hT entry_acc_iter ?_ (args_acc_iter _))
  show wpAny _ _ (ret (.ref it)) _ _ s
  exact wpAny_pure ⟨_, rfl, "itertools.accumulate", _, hT, slot_acc_next.lookup, h⟩
theorem itRaw_item {it l : Addr} {i : Nat} {items} {x : Value} {Q : Value → Shared → Prop} (hit : s.heap.IsListIter it l i)
    (hl : s.heap.IsList l items) (hx : items[i]? = some x)
    (hQ : ∀ h', h'.IsListIter it l (i + 1) → Heap.SameBut it s.heap h' → Q x { s with heap := h' }) :
    wpAny (model prog w) A (Builtin.Itertools.itRawNext (.ref it)) Q E s := by
  obtain ⟨o, ho, hc, hd⟩ := id hit
  obtain ⟨ol, hol, _, nl, hdl⟩ := hl
  unfold Builtin.Itertools.itRawNext
  refine wpAny_bind (wpAny_callSpecial?_slot (name := Str.ofString "__next__") hit.typeIs slot_listiter_next
    (wpAny_call_entry slot_listiter_next hit.typeIs entry_listiter_next ?_ (args_listiter_next _)))
  show wpAny _ _ (field (.ref it) 0 >>= _) _ _ s
  refine wpAny_bind (wpAny_field ho hd (x := .ref l) rfl ?_)
  show wpAny _ _ (if (Value.ref l == Value.none) = true then _ else _) _ _ s
  rw [if_neg (show ¬ ((Value.ref l == Value.none) = true) from Bool.false_ne_true)]
  show wpAny _ _ (field (.ref it) 1 >>= _) _ _ s
  refine wpAny_bind (wpAny_field ho hd (x := .int i 0) rfl ?_)
  show wpAny _ _ (seqItems? (.ref l) >>= _) _ _ s
  refine wpAny_bind (wpAny_seqItems hol hdl ?_)
  simp only [Int.toNat_natCast, hx]
  refine wpAny_bind (wpAny_setField ho hd (by simp) (wpAny_pure ⟨x, rfl, wpAny_pure (hQ _ ?_ (Heap.SameBut.update ..))⟩))
  exact ⟨_, Heap.get?_update_self _ ho (Obj.isFreed_of_fields (Obj.data_mapFields hd _)), (Obj.cls_mapFields ..).trans hc, by
    rw [Obj.data_mapFields hd]; simp [rawInt]⟩
theorem itRaw_end {it l : Addr} {i : Nat} {items} {Q : Value → Shared → Prop} (hh : A.handled = none)
    (hit : s.heap.IsListIter it l i) (hl : s.heap.IsList l items) (hx : items[i]? = none)
    (hE : ∀ h' e, Heap.ExtBut it s.heap h' → (∃ o, h'.get? e = some o ∧ o.cls = .type "StopIteration") → E (.ref e) { s with heap := h' }) :
    wpAny (model prog w) A (Builtin.Itertools.itRawNext (.ref it)) Q E s := by
  obtain ⟨o, ho, hc, hd⟩ := id hit
  obtain ⟨ol, hol, _, nl, hdl⟩ := hl
  unfold Builtin.Itertools.itRawNext
  refine wpAny_bind (wpAny_callSpecial?_slot (name := Str.ofString "__next__") hit.typeIs slot_listiter_next
    (wpAny_call_entry slot_listiter_next hit.typeIs entry_listiter_next ?_ (args_listiter_next _)))
  show wpAny _ _ (field (.ref it) 0 >>= _) _ _ s
  refine wpAny_bind (wpAny_field ho hd (x := .ref l) rfl ?_)
  show wpAny _ _ (if (Value.ref l == Value.none) = true then _ else _) _ _ s
  rw [if_neg (show ¬ ((Value.ref l == Value.none) = true) from Bool.false_ne_true)]
  show wpAny _ _ (field (.ref it) 1 >>= _) _ _ s
  refine wpAny_bind (wpAny_field ho hd (x := .int i 0) rfl ?_)
  show wpAny _ _ (seqItems? (.ref l) >>= _) _ _ s
  refine wpAny_bind (wpAny_seqItems hol hdl ?_)
  simp only [Int.toNat_natCast, hx]
  refine wpAny_bind (wpAny_rule (wpAny_bind (wpAny_setField ho hd (by simp) ?_)))
  show wpAny _ _ (newExc (.type "StopIteration") [] >>= _) _ _ _
  refine wpAny_bind ?_
  simp only [newExc, newTuple]
  refine wpAny_bind (wpAny_newObj_type ?_ (by size_fits))
  refine wpAny_bind (m := firstArgMember _ _) (wpAny_of_eq (a := Value.none) (by first | rfl | (simp only [firstArgMember]; rfl)) ?_)
  refine wpAny_newObj_type ?_ (by size_fits)
  simp only [raiseNew]
  refine wpAny_bind (wpAny_handled ?_)
  first | rw [show A.in1.handled = none from hh] | rw [hh]
  refine wpAny_bind (wpAny_pure (wpAny_throw ?_))
  exact hE _ _ (((Heap.SameBut.update ..).extBut.push _).push _) ⟨_, Heap.get?_push_size _ rfl, rfl⟩
/-- the next sum -/
theorem acc_next {a it l : Addr} {i : Nat} {items : Array Value} {x t : Int} {u v : Tok} {Q : Value → Shared → Prop} (ha : IsAcc s.heap a it (.int t u)) (hit : s.heap.IsListIter it l i) (hl : s.heap.IsList l items) (hne : a ≠ it) (hla : l ≠ a) (hx : items[i]? = some (.int x v))
    (hQ : ∀ h' tk' u', IsAcc h' a it (.int (t + x) u') → h'.IsListIter it l (i + 1) → (∀ b o, b ≠ a → b ≠ it → s.heap.get? b = some o → h'.get? b = some o) → Q (.int (t + x) u') { s with heap := h', toks := tk' }) :
    wpAny (model prog w) A (Builtin.«itertools.accumulate.__next__» ⟨[.ref a], []⟩) (fun fin s' => ∃ v, fin = .done (.ret v) ∧ Q v s') E s := by
  obtain ⟨hp, g, d, tk, os⟩ := s
  show wpAny _ _ (field (.ref a) 3 >>= _) _ _ _
  refine wpAny_bind (wpAny_field ha rfl (x := .none) rfl ?_)
  show wpAny _ _ (field (.ref a) 0 >>= _) _ _ _
  refine wpAny_bind (wpAny_field ha rfl (x := .ref it) rfl ?_)
  refine wpAny_bind (itRaw_item hit hl hx fun h1 hit1 hs1 => ?_)
  replace hs1 : Heap.SameBut it hp h1 := hs1
  have k1 : ∀ (c : Nat) o, c ≠ it → hp.get? c = some o → h1.get? c = some o := fun c o hc e => hs1.extBut c o hc e
  have ha1 : IsAcc h1 a it (.int t u) := k1 _ _ hne ha
  show wpAny _ _ (field (.ref a) 2 >>= _) _ _ ⟨h1, g, d, tk, os⟩
  refine wpAny_bind (wpAny_field ha1 rfl (x := .int t u) rfl ?_)
  have fin : ∀ (tk' : Tok) (u' : Tok) (h2 : Heap), IsAcc h2 a it (.int (t + x) u') → (∀ (c : Nat) o, c ≠ a → h1.get? c = some o → h2.get? c = some o) → Q (.int (t + x) u') ⟨h2, g, d, tk', os⟩ := fun tk' u' h2 e k => by
    refine hQ h2 tk' u' e (Heap.IsListIter.at hit1 fun o q => k it o (Ne.symm hne) q) fun b o h1' h2' q => k b o h1' (k1 b o h2' q)
  by_cases h0 : (Value.int t u == Builtin.Itertools.itNothing) = true
  · rw [if_pos h0]
    have ht : t = 0 := by
      simp [Builtin.Itertools.itNothing, rawInt] at h0
      exact h0.1
    subst ht
    refine wpAny_bind (wpAny_rule ?_)
    refine wpAny_bind (wpAny_setField ha1 rfl (by simp) ?_)
    have ha2 : IsAcc (h1.update a (Obj.mapFields fun y => y.setIfInBounds 2 (.int x v))) a it (.int x v) := Heap.get?_update_self _ ha1 rfl
    refine wpAny_pure ⟨_, rfl, ?_⟩
    have := fin tk v _ (by rw [Int.zero_add]; exact ha2) fun c o hc e => (Heap.get?_update_other _ _ (Ne.symm hc)).trans e
    rw [Int.zero_add] at this
    exact this
  · rw [if_neg h0]
    show wpAny _ _ (field (.ref a) 1 >>= _) _ _ ⟨h1, g, d, tk, os⟩
    refine wpAny_bind (wpAny_field ha1 rfl (x := .none) rfl ?_)
    refine wpAny_bind (wpAny_holding ?_)
    show wpAny _ _ (binaryOp .Add (.int t u) (.int x v)) _ _ ⟨h1, g, d, tk, os⟩
    refine wpAny_add_int ?_
    dsimp only
    refine wpAny_bind (wpAny_setField ha1 rfl (by simp) ?_)
    have ha2 : IsAcc (h1.update a (Obj.mapFields fun y => y.setIfInBounds 2 (.int (t + x) tk))) a it (.int (t + x) tk) := Heap.get?_update_self _ ha1 rfl
    refine wpAny_bind (wpAny_letGo (wpAny_pure ⟨_, rfl, ?_⟩))
    exact fin (tk + 1) tk _ ha2 fun c o hc e => (Heap.get?_update_other _ _ (Ne.symm hc)).trans e
end
end Dn
namespace Dn
open PySem PySem.Spec PyProof.Rows L2
open Evl (Ex fresh_back)
open CpRep (StopE)
theorem mro_perm : mroOf (.type "itertools.permutations") = pure [.type "itertools.permutations", .type "object"] := by rw [mroOf_type]; kernel_rfl
theorem lookup_perm_new : typeLookup (.type "itertools.permutations") "__new__" = pure (some (.builtin "itertools.permutations.__new__")) := by rw [typeLookup_type, builtinLookup_eq_fast]; kernel_rfl
theorem slot_perm_init : Slot "itertools.permutations" "__init__" "object.__init__" :=
  .of (owner := "object") (n := "__init__") (by rw [typeLookup_type, builtinLookup_eq_fast]; kernel_rfl) (by decide +kernel) (by decide +kernel) (by decide +kernel)
    (by first | exact .inl (by decide +kernel) | exact .inr (by decide +kernel)) (by rw [isSubtype_type]; kernel_rfl)
theorem sub_perm : isSubtype (.type "itertools.permutations") (.type "itertools.permutations") = pure true := by rw [isSubtype_type]; kernel_rfl
theorem called_perm : TypeCalled "itertools.permutations" "itertools.permutations.__new__" "object.__init__" :=
  ⟨by decide +kernel, by decide +kernel, ⟨_, _, mro_perm⟩, madeBy_type mro_perm lookup_perm_new (by decide +kernel), by decide +kernel, sub_perm, slot_perm_init⟩
theorem typeCall_perm (a : Value) : checkTypeCall "itertools.permutations" ⟨[a], []⟩ = pure () := by kernel_rfl
theorem newCall_perm (a : Value) : checkBuiltinCall "itertools.permutations.__new__" ⟨[.type "itertools.permutations", a], []⟩ = pure () := by kernel_rfl
theorem init_perm (obj a : Value) : argsOk "object.__init__" ⟨[obj, a], []⟩ := by unfold argsOk; kernel_rfl
theorem entry_perm_new : entryFor table "itertools.permutations.__new__" = some Builtin.«itertools.permutations.__new__» := entryFor_of_tree (by kernel_rfl)
theorem slot_perm_iter : Slot "itertools.permutations" "__iter__" "itertools.permutations.__iter__" :=
  .of (owner := "itertools.permutations") (n := "__iter__") (by rw [typeLookup_type, builtinLookup_eq_fast]; kernel_rfl) (by decide +kernel) (by decide +kernel) (by decide +kernel)
    (by first | exact .inl (by decide +kernel) | exact .inr (by decide +kernel)) sub_perm
theorem slot_perm_next : Slot "itertools.permutations" "__next__" "itertools.permutations.__next__" :=
  .of (owner := "itertools.permutations") (n := "__next__") (by rw [typeLookup_type, builtinLookup_eq_fast]; kernel_rfl) (by decide +kernel) (by decide +kernel) (by decide +kernel)
    (by first | exact .inl (by decide +kernel) | exact .inr (by decide +kernel)) sub_perm
theorem entry_perm_iter : entryFor table "itertools.permutations.__iter__" = some Builtin.«dict_keyiterator.__iter__» :=
  entryFor_alias (id' := "dict_keyiterator.__iter__") (by kernel_rfl) (by first | rfl | decide +kernel | (unfold String.splitOn; simp +decide [String.splitOnAux])) (by decide +kernel) (by kernel_rfl)
theorem entry_perm_next : entryFor table "itertools.permutations.__next__" = some Builtin.«itertools.permutations.__next__» := entryFor_of_tree (by kernel_rfl)
theorem args_perm_iter (a : Value) : argsOk "itertools.permutations.__iter__" ⟨[a], []⟩ := by unfold argsOk; kernel_rfl
theorem args_perm_next (a : Value) : argsOk "itertools.permutations.__next__" ⟨[a], []⟩ := by unfold argsOk; kernel_rfl
theorem noDict_perm : typeHasDict (.type "itertools.permutations") = false := by decide +kernel
end Dn
set_option maxHeartbeats 1000000
namespace Dn
open PySem PySem.Spec PyProof.Rows L2
open Evl (Ex fresh_back)
/-- the fields: the pool, how far it is, how many, the last, then the places and what is left of each -/
def permF (T : Addr) (st n : Int) (old : Value) (nums : List Int) : Array Value := ([.ref T, .int st 0, .int n 0, old] ++ nums.map fun x => Value.int x 0).toArray
abbrev IsPerm (h : Heap) (a T : Addr) (st n : Int) (old : Value) (nums : List Int) : Prop := h.get? a = some { cls := .type "itertools.permutations", dict := none, data := .fields (permF T st n old nums), slots := #[] }
def num0 (n : Nat) : List Int := ((List.range n).map fun (i : Nat) => (i : Int)) ++ (List.range n).map fun (i : Nat) => (n : Int) - i
theorem bind_perm (v : Value) : Builtin.Itertools.itBindNamed "permutations" ["iterable", "r"] 1 2 [v] [] = pure [some v, none] := by kernel_rfl
theorem cls_perm (v : Value) : Builtin.Itertools.itClassAndRest "permutations" ⟨[.type "itertools.permutations", v], []⟩ = pure (.type "itertools.permutations", [v]) := by kernel_rfl
section
variable {prog : Program} {w : World} {A : Around} {E : Value → Shared → Prop} {s : Shared}
theorem meets_perm_new (r : Addr) (n : Nat) (t u v : Tok) : MeetsIn prog w (Builtin.«itertools.permutations.__new__» ⟨[.type "itertools.permutations", .ref r], []⟩)
    (fun A R s => A.handled = none ∧ IsRange s.heap r 0 n 1 t u v ∧ n ≤ 8 ∧ ∀ (h' : Heap) (tk : Nat) (acc : Array Value), (∀ b o, s.heap.get? b = some o → h'.get? b = some o) → ItemsOf (fun i v => ∃ t, v = .int (0 + (i : Int) * 1) t) acc n →
      R (.ok (.ret (.ref (h'.objs.size + 1)))) { s with heap := (h'.push { cls := .type "tuple", data := .seq acc }).push { cls := .type "itertools.permutations", dict := none, data := .fields (permF h'.objs.size 0 n .none (num0 n)), slots := #[] }, toks := tk }) :=
  .of_wp fun A R s h => by
    obtain ⟨hh, hr, hn8, h⟩ := h
    have hd := noDict_perm
    have hl24 : n ≤ 2 ^ 24 := by omega
    unfold Builtin.«itertools.permutations.__new__»
    refine wpAny_bind (wpAny_of_eq (cls_perm _) ?_)
    refine wpAny_bind (wpAny_of_eq (bind_perm _) ?_)
    refine wpAny_bind (collect_range (n := n) hh hr (small_one (by omega) (by omega) (by omega) (by omega)) (by rw [rangeSize_one]; split <;> omega) hl24 fun h' tk acc hk hacc => ?_)
    have hlen : acc.toList.length = n := by rw [Array.length_toList]; exact hacc.1
    refine wpAny_bind (wpAny_pure ?_)
    dsimp only
    rw [hlen, if_neg (show ¬ ((n : Int) < 0) by omega)]
    rw [if_neg (show ¬ (Builtin.Itertools.itTooMany (n : Int) = true) by unfold Builtin.Itertools.itTooMany; simp; omega)]
    simp only [Int.toNat_natCast]
    refine wpAny_bind (wpAny_newTuple ?_)
    refine wpAny_bind ?_
    unfold Builtin.Itertools.itNewRecord
    rw [hd]
    have hF : ([Value.ref h'.objs.size, rawInt (if n > n then 2 else 0), rawInt (n : Int), Value.none] ++ (List.range n).map (fun (i : Nat) => rawInt (i : Int)) ++ (List.range n).map fun (i : Nat) => rawInt ((n : Int) - (i : Int))).toArray = permF h'.objs.size 0 n .none (num0 n) := by
      unfold permF num0 rawInt
      rw [if_neg (Nat.lt_irrefl n)]
      simp [List.map_map, Function.comp_def]
    have hacc2 : acc.toList.toArray = acc := by simp
    show wpAny _ _ (newObj (.type "itertools.permutations") (.fields (([Value.ref h'.objs.size, rawInt (if n > n then 2 else 0), rawInt (n : Int), Value.none] ++ (List.range n).map (fun (i : Nat) => rawInt (i : Int)) ++ (List.range n).map fun (i : Nat) => rawInt ((n : Int) - (i : Int))).toArray))) _ _ ⟨h'.push { cls := .type "tuple", data := .seq acc.toList.toArray }, _, _, _, _⟩
    rw [hF, hacc2]
    refine wpAny_newObj_type ?_ (by show (permF h'.objs.size 0 n .none (num0 n)).size ≤ _; simp [permF, num0, sizeLine_eq]; omega)
    have e : (h'.push { cls := .type "tuple", data := .seq acc }).objs.size = h'.objs.size + 1 := Heap.size_push _ _
    refine wpAny_pure ⟨_, rfl, ?_⟩
    have := h h' tk acc hk hacc
    rw [← e] at this
    exact this
theorem perm_call {r : Addr} {n : Nat} {t u v : Tok} {Q : Value → Shared → Prop} (hh : A.handled = none) (hr : IsRange s.heap r 0 n 1 t u v) (hn : n ≤ 8)
    (hQ : ∀ (h' : Heap) (tk : Nat) (acc : Array Value), (∀ b o, s.heap.get? b = some o → h'.get? b = some o) → ItemsOf (fun i v => ∃ t, v = .int (0 + (i : Int) * 1) t) acc n →
      Q (.ref (h'.objs.size + 1)) { s with heap := (h'.push { cls := .type "tuple", data := .seq acc }).push { cls := .type "itertools.permutations", dict := none, data := .fields (permF h'.objs.size 0 n .none (num0 n)), slots := #[] }, toks := tk }) :
    wpAny (model prog w) A (call (.type "itertools.permutations") [.ref r]) Q E s := by
  refine callType_newIn called_perm (by decide +kernel) (typeCall_perm _) (newCall_perm _) (fun obj => init_perm obj _) entry_perm_new (meets_perm_new r n t u v) ⟨hh, hr, hn, fun h' tk acc hk hi => ?_⟩
  have e : ((h'.push { cls := .type "tuple", data := .seq acc }).push { cls := .type "itertools.permutations", dict := none, data := .fields (permF h'.objs.size 0 n .none (num0 n)), slots := #[] }).get? (h'.push { cls := .type "tuple", data := .seq acc }).objs.size = some { cls := .type "itertools.permutations", dict := none, data := .fields (permF h'.objs.size 0 n .none (num0 n)), slots := #[] } := Heap.get?_push_size _ rfl
  rw [Heap.size_push] at e
  exact ⟨⟨_, e, rfl⟩, hQ h' tk acc hk hi⟩
theorem perm_iter {a T : Addr} {st n : Int} {old : Value} {nums : List Int} {Q : Value → Shared → Prop} (hit : IsPerm s.heap a T st n old nums) (h : Q (.ref a) s) : wpAny (model prog w) A (pyIter (.ref a)) Q E s := by
  have hT : s.TypeIs (.ref a) "itertools.permutations" := ⟨_, hit, rfl⟩
  refine wpAny_pyIter_slot hT slot_perm_iter (wpAny_call_entry slot_perm_iter hT entry_perm_iter ?_ (args_perm_iter _))
  show wpAny _ _ (ret (.ref a)) _ _ s
  exact wpAny_pure ⟨_, rfl, "itertools.permutations", _, hT, slot_perm_next.lookup, h⟩
theorem permF_set1 {T : Addr} {st n x : Int} {old : Value} {nums : List Int} : (permF T st n old nums).setIfInBounds 1 (rawInt x) = permF T x n old nums := by
  simp [permF, rawInt]
theorem permF_set3 {T : Addr} {st n : Int} {old x : Value} {nums : List Int} : (permF T st n old nums).setIfInBounds 3 x = permF T st n x nums := by
  simp [permF]
theorem perm_result {a T : Addr} {st n : Int} {old : Value} {nums : List Int} {Q : Value → Shared → Prop} (ha : IsPerm s.heap a T st n old nums) (xs : List Value) (hl : xs.length ≤ 100)
    (hQ : ∀ h', IsPerm h' a T st n (.ref s.heap.objs.size) nums → h'.get? s.heap.objs.size = some { cls := .type "tuple", data := .seq xs.toArray } → (∀ b o, b ≠ a → s.heap.get? b = some o → h'.get? b = some o) → Q (.ref s.heap.objs.size) { s with heap := h' }) :
    wpAny (model prog w) A (do
      let t ← newTuple xs
      let before ← field (.ref a) 3
      setField (.ref a) 3 t
      letGo [before] [t]
      ret t) (fun fin s' => ∃ v, fin = .done (.ret v) ∧ Q v s') E s := by
  obtain ⟨hp, g, d, tk, os⟩ := s
  refine wpAny_bind (wpAny_newTuple ?_ (by rw [sizeLine_eq]; omega))
  have ha1 : IsPerm (hp.push { cls := .type "tuple", data := .seq xs.toArray }) a T st n old nums := Heap.get?_push_of_some _ ha
  refine wpAny_bind (wpAny_field ha1 rfl (x := old) rfl ?_)
  refine wpAny_bind (wpAny_setField ha1 rfl (by simp [permF]) ?_)
  refine wpAny_bind (wpAny_letGo (wpAny_pure ⟨_, rfl, ?_⟩))
  have hal : a < hp.objs.size := Heap.lt_size ha
  refine hQ _ ?_ ?_ fun b o hb e => (Heap.get?_update_other _ _ (Ne.symm hb)).trans (Heap.get?_push_of_some _ e)
  · have := Heap.get?_update_self (Obj.mapFields (·.setIfInBounds 3 (.ref hp.objs.size))) ha1 rfl
    show (Heap.update _ _ _).get? a = _
    rw [this]
    show some _ = some _
    simp only [Obj.mapFields, permF_set3]
  · exact (Heap.get?_update_other _ _ (Nat.ne_of_lt hal)).trans (Heap.get?_push_size _ rfl)
/-- the first -/
theorem perm_first {a T : Addr} {n : Nat} {acc : Array Value} {nums : List Int} {Q : Value → Shared → Prop} (ha : IsPerm s.heap a T 0 n .none nums) (hn : n ≤ 8) (hT : s.heap.get? T = some { cls := .type "tuple", data := .seq acc })
    (hQ : ∀ h', IsPerm h' a T 1 n (.ref s.heap.objs.size) nums → h'.get? s.heap.objs.size = some { cls := .type "tuple", data := .seq (((nums.map Int.toNat).take n).map fun i => acc.getD i .none).toArray } → (∀ b o, b ≠ a → s.heap.get? b = some o → h'.get? b = some o) → Q (.ref s.heap.objs.size) { s with heap := h' }) :
    wpAny (model prog w) A (Builtin.«itertools.permutations.__next__» ⟨[.ref a], []⟩) (fun fin s' => ∃ v, fin = .done (.ret v) ∧ Q v s') E s := by
  obtain ⟨hp, g, d, tk, os⟩ := s
  show wpAny _ _ (field (.ref a) 0 >>= _) _ _ _
  refine wpAny_bind (wpAny_field ha rfl (x := .ref T) rfl ?_)
  unfold Builtin.Itertools.itPoolItems
  refine wpAny_bind (wpAny_bind (wpAny_seqItems hT rfl (wpAny_pure ?_)))
  refine wpAny_bind ?_
  unfold Builtin.Itertools.itIntField
  refine wpAny_bind (wpAny_field ha rfl (x := .int n 0) rfl (wpAny_pure ?_))
  refine wpAny_bind ?_
  unfold Builtin.Itertools.itNumbersFrom
  refine wpAny_bind (wpAny_load ha (wpAny_pure ?_))
  refine wpAny_bind ?_
  refine wpAny_bind (wpAny_field ha rfl (x := .int 0 0) rfl (wpAny_pure ?_))
  show wpAny _ _ (setField (.ref a) 1 (rawInt 1) >>= _) _ _ _
  refine wpAny_bind (wpAny_setField ha rfl (by simp [permF]) ?_)
  have ha2 : IsPerm (hp.update a (Obj.mapFields (·.setIfInBounds 1 (rawInt 1)))) a T 1 n .none nums := by
    have := Heap.get?_update_self (Obj.mapFields (·.setIfInBounds 1 (rawInt 1))) (show hp.get? a = some _ from ha) rfl
    refine Eq.trans this ?_
    show some _ = some _
    simp only [Obj.mapFields, permF_set1]
  have hsz : (hp.update a (Obj.mapFields (·.setIfInBounds 1 (rawInt 1)))).objs.size = hp.objs.size := (Heap.SameBut.update ..).1
  have hk : ∀ (c : Nat) o, c ≠ a → hp.get? c = some o → (hp.update a (Obj.mapFields (·.setIfInBounds 1 (rawInt 1)))).get? c = some o := fun c o hc e => (Heap.get?_update_other _ _ (Ne.symm hc)).trans e
  refine perm_result ha2 _ (by simp; omega) fun h' q1 q2 q3 => ?_
  have q1' : IsPerm h' a T 1 n (.ref (hp.update a (Obj.mapFields (·.setIfInBounds 1 (rawInt 1)))).objs.size) nums := q1
  have q2' : h'.get? (hp.update a (Obj.mapFields (·.setIfInBounds 1 (rawInt 1)))).objs.size = some { cls := .type "tuple", data := .seq (((nums.map Int.toNat).take n).map fun i => acc.getD i .none).toArray } := by
    refine Eq.trans q2 ?_
    simp [permF, Function.comp_def]
  show Q (.ref (hp.update a (Obj.mapFields (·.setIfInBounds 1 (rawInt 1)))).objs.size) { heap := h', gens := g, drawn := d, toks := tk, os := os }
  rw [hsz] at q1' q2' ⊢
  exact hQ h' q1' q2' fun b o hb e => q3 b o hb (hk b o hb e)
/-- the places and what is left of each, one further: as the lists of the record go -/
def nxP (n : Nat) : Nat → List Nat → List Nat → Option (List Nat × List Nat)
  | 0, _, _ => none
  | k + 1, ix, cy =>
    match cy.getD k 0 - 1 with
    | 0 => nxP n k (ix.take k ++ ix.drop (k + 1) ++ [ix.getD k 0]) (cy.set k (n - k))
    | c + 1 => some ((ix.set k (ix.getD (n - (c + 1)) 0)).set (n - (c + 1)) (ix.getD k 0), cy.set k (c + 1))
/-- whatever goes on so, is so -/
theorem same_nx (f : Nat → Nat → List Nat → List Nat → Option (List Nat × List Nat)) (h0 : ∀ n A B, f n 0 A B = none)
    (h1 : ∀ n k A B, f n (k + 1) A B = if (B.getD k 0 - 1 == 0) = true then f n k (A.take k ++ A.drop (k + 1) ++ [A.getD k 0]) (B.set k (n - k)) else some ((A.set k (A.getD (n - (B.getD k 0 - 1)) 0)).set (n - (B.getD k 0 - 1)) (A.getD k 0), B.set k (B.getD k 0 - 1))) :
    ∀ (n r : Nat) (A B : List Nat), f n r A B = nxP n r A B
  | n, 0, A, B => h0 n A B
  | n, k + 1, A, B => by
    rw [h1, nxP]
    cases hc : B.getD k 0 - 1 with
    | zero => exact (if_pos (show ((0 : Nat) == 0) = true from rfl)).trans (same_nx f h0 h1 n k _ _)
    | succ c => exact if_neg (by simp)
theorem perm_more {a T : Addr} {n : Nat} {acc : Array Value} {old : Value} {nums : List Int} {ix cy : List Nat} {Q : Value → Shared → Prop} (hacc : acc.size = n) (ha : IsPerm s.heap a T 1 n old nums) (hn : n ≤ 8) (hT : s.heap.get? T = some { cls := .type "tuple", data := .seq acc }) (hnx : nxP n n ((nums.map Int.toNat).take n) ((nums.map Int.toNat).drop n) = some (ix, cy)) (hl : ix.length + cy.length ≤ 40)
    (hQ : ∀ h', IsPerm h' a T 1 n (.ref s.heap.objs.size) ((ix ++ cy).map fun (k : Nat) => (k : Int)) → h'.get? s.heap.objs.size = some { cls := .type "tuple", data := .seq ((ix.take n).map fun i => acc.getD i .none).toArray } → (∀ b o, b ≠ a → s.heap.get? b = some o → h'.get? b = some o) → Q (.ref s.heap.objs.size) { s with heap := h' }) :
    wpAny (model prog w) A (Builtin.«itertools.permutations.__next__» ⟨[.ref a], []⟩) (fun fin s' => ∃ v, fin = .done (.ret v) ∧ Q v s') E s := by
  obtain ⟨hp, g, d, tk, os⟩ := s
  show wpAny _ _ (field (.ref a) 0 >>= _) _ _ _
  refine wpAny_bind (wpAny_field ha rfl (x := .ref T) rfl ?_)
  unfold Builtin.Itertools.itPoolItems
  refine wpAny_bind (wpAny_bind (wpAny_seqItems hT rfl (wpAny_pure ?_)))
  refine wpAny_bind ?_
  unfold Builtin.Itertools.itIntField
  refine wpAny_bind (wpAny_field ha rfl (x := .int n 0) rfl (wpAny_pure ?_))
  refine wpAny_bind ?_
  unfold Builtin.Itertools.itNumbersFrom
  refine wpAny_bind (wpAny_load ha (wpAny_pure ?_))
  refine wpAny_bind ?_
  refine wpAny_bind (wpAny_field ha rfl (x := .int 1 0) rfl (wpAny_pure ?_))
  rw [hacc, Int.toNat_natCast]
  simp only [permF, List.cons_append, List.nil_append, List.drop_succ_cons, List.drop_zero, List.map_map, Function.comp_def]
  split
  · rename_i ix' cy' heq
    have e := Eq.trans (Eq.symm (same_nx _ (fun _ _ _ => rfl) (fun _ _ _ _ => rfl) _ _ _ _)) heq
    obtain ⟨rfl, rfl⟩ : ix' = ix ∧ cy' = cy := by
      have z := e.symm.trans hnx
      simpa using z
    clear heq e
    refine wpAny_bind ?_
    unfold Builtin.Itertools.itSetNumbersFrom
    refine wpAny_updateFields (show hp.get? a = some _ from ha) rfl ?_ (by simp [permF, sizeLine_eq]; omega)
    have hF : (permF T 1 (n : Int) old nums).extract 0 4 ++ (List.map (fun (n : Nat) => rawInt (n : Int)) (ix' ++ cy')).toArray = permF T 1 n old ((ix' ++ cy').map fun (k : Nat) => (k : Int)) := by
      simp [permF, rawInt, Function.comp_def]
    have ha2 : IsPerm (hp.update a (Obj.mapFields fun fs => fs.extract 0 4 ++ (List.map (fun (n : Nat) => rawInt (n : Int)) (ix' ++ cy')).toArray)) a T 1 n old ((ix' ++ cy').map fun (k : Nat) => (k : Int)) := by
      have := Heap.get?_update_self (Obj.mapFields fun fs => fs.extract 0 4 ++ (List.map (fun (n : Nat) => rawInt (n : Int)) (ix' ++ cy')).toArray) (show hp.get? a = some _ from ha) rfl
      refine Eq.trans this ?_
      show some _ = some _
      simp only [Obj.mapFields, hF]
    have hsz : (hp.update a (Obj.mapFields fun fs => fs.extract 0 4 ++ (List.map (fun (n : Nat) => rawInt (n : Int)) (ix' ++ cy')).toArray)).objs.size = hp.objs.size := (Heap.SameBut.update ..).1
    have hk : ∀ (c : Nat) o, c ≠ a → hp.get? c = some o → (hp.update a (Obj.mapFields fun fs => fs.extract 0 4 ++ (List.map (fun (n : Nat) => rawInt (n : Int)) (ix' ++ cy')).toArray)).get? c = some o := fun c o hc e => (Heap.get?_update_other _ _ (Ne.symm hc)).trans e
    refine perm_result ha2 _ (by simp; omega) fun h' q1 q2 q3 => ?_
    have q1' : IsPerm h' a T 1 n (.ref (hp.update a (Obj.mapFields fun fs => fs.extract 0 4 ++ (List.map (fun (n : Nat) => rawInt (n : Int)) (ix' ++ cy')).toArray)).objs.size) ((ix' ++ cy').map fun (k : Nat) => (k : Int)) := q1
    have q2' : h'.get? (hp.update a (Obj.mapFields fun fs => fs.extract 0 4 ++ (List.map (fun (n : Nat) => rawInt (n : Int)) (ix' ++ cy')).toArray)).objs.size = some { cls := .type "tuple", data := .seq ((ix'.take n).map fun i => acc.getD i .none).toArray } := q2
    show Q (.ref (hp.update a (Obj.mapFields fun fs => fs.extract 0 4 ++ (List.map (fun (n : Nat) => rawInt (n : Int)) (ix' ++ cy')).toArray)).objs.size) { heap := h', gens := g, drawn := d, toks := tk, os := os }
    rw [hsz] at q1' q2' ⊢
    exact hQ h' q1' q2' fun b o hb e => q3 b o hb (hk b o hb e)
  · rename_i heq
    have e := Eq.trans (Eq.symm (same_nx _ (fun _ _ _ => rfl) (fun _ _ _ _ => rfl) _ _ _ _)) heq
    exact absurd (hnx.symm.trans e) (by simp)
theorem perm_end {a T : Addr} {n : Nat} {acc : Array Value} {old : Value} {nums : List Int} {Q : Value → Shared → Prop} (hh : A.handled = none) (hacc : acc.size = n) (ha : IsPerm s.heap a T 1 n old nums) (hT : s.heap.get? T = some { cls := .type "tuple", data := .seq acc }) (hnx : nxP n n ((nums.map Int.toNat).take n) ((nums.map Int.toNat).drop n) = none)
    (hE : ∀ h' e, Heap.ExtBut a s.heap h' → (∃ o, h'.get? e = some o ∧ o.cls = .type "StopIteration") → E (.ref e) { s with heap := h' }) :
    wpAny (model prog w) A (Builtin.«itertools.permutations.__next__» ⟨[.ref a], []⟩) (fun fin s' => ∃ v, fin = .done (.ret v) ∧ Q v s') E s := by
  obtain ⟨hp, g, d, tk, os⟩ := s
  show wpAny _ _ (field (.ref a) 0 >>= _) _ _ _
  refine wpAny_bind (wpAny_field ha rfl (x := .ref T) rfl ?_)
  unfold Builtin.Itertools.itPoolItems
  refine wpAny_bind (wpAny_bind (wpAny_seqItems hT rfl (wpAny_pure ?_)))
  refine wpAny_bind ?_
  unfold Builtin.Itertools.itIntField
  refine wpAny_bind (wpAny_field ha rfl (x := .int n 0) rfl (wpAny_pure ?_))
  refine wpAny_bind ?_
  unfold Builtin.Itertools.itNumbersFrom
  refine wpAny_bind (wpAny_load ha (wpAny_pure ?_))
  refine wpAny_bind ?_
  refine wpAny_bind (wpAny_field ha rfl (x := .int 1 0) rfl (wpAny_pure ?_))
  rw [hacc, Int.toNat_natCast]
  simp only [permF, List.cons_append, List.nil_append, List.drop_succ_cons, List.drop_zero, List.map_map, Function.comp_def]
  split
  · rename_i ix' cy' heq
    have e := Eq.trans (Eq.symm (same_nx _ (fun _ _ _ => rfl) (fun _ _ _ _ => rfl) _ _ _ _)) heq
    exact absurd (hnx.symm.trans e) (by simp)
  · rename_i heq
    clear heq
    refine wpAny_bind (wpAny_setField (show hp.get? a = some _ from ha) rfl (by simp [permF]) ?_)
    unfold Builtin.Itertools.itStop
    refine wpAny_bind ?_
    simp only [newExc, newTuple]
    refine wpAny_bind (wpAny_newObj_type ?_ (by size_fits))
    refine wpAny_bind (m := firstArgMember _ _) (wpAny_of_eq (a := Value.none) (by first | rfl | (simp only [firstArgMember]; rfl)) ?_)
    refine wpAny_newObj_type ?_ (by size_fits)
    simp only [raiseNew]
    refine wpAny_bind (wpAny_handled ?_)
    rw [hh]
    refine wpAny_bind (wpAny_pure (wpAny_throw ?_))
    exact hE _ _ (((Heap.SameBut.update ..).extBut.push _).push _) ⟨_, Heap.get?_push_size _ rfl, rfl⟩
end
end Dn
set_option maxHeartbeats 1000000
namespace Dn
open PySem PySem.Spec PyProof.Rows L2
open Evl (Ex fresh_back)
/-- sums of the first -/
def psums : Int → List Int → List Int
  | _, [] => []
  | t, x :: xs => (t + x) :: psums (t + x) xs
theorem psums_len : ∀ (xs : List Int) (t : Int), (psums t xs).length = xs.length
  | [], _ => rfl
  | x :: xs, t => congrArg (· + 1) (psums_len xs (t + x))
def tot : Int → List Int → Nat → Int
  | t, _, 0 => t
  | t, [], _ + 1 => t
  | t, x :: xs, i + 1 => tot (t + x) xs i
theorem tot_succ : ∀ (xs : List Int) (t : Int) (i : Nat) (x : Int), xs[i]? = some x → tot t xs (i + 1) = tot t xs i + x
  | y :: ys, t, 0, x, e => by
    cases e
    cases ys <;> rfl
  | y :: ys, t, i + 1, x, e => by
    show tot (t + y) ys (i + 1) = tot (t + y) ys i + x
    exact tot_succ ys (t + y) i x e
  | [], _, _, _, e => by simp at e
theorem psums_get : ∀ (xs : List Int) (t : Int) (i : Nat), i < xs.length → (psums t xs)[i]? = some (tot t xs (i + 1))
  | y :: ys, t, 0, _ => by
    cases ys <;> rfl
  | y :: ys, t, i + 1, h => psums_get ys (t + y) i (by simpa using h)
  | [], _, _, h => by simp at h
theorem ints_at : ∀ {xs : List Int} {us : List Value} {i : Nat} {x : Int}, Vals (xs.map V.int) us → xs[i]? = some x → ∃ t, us[i]? = some (.int x t)
  | y :: ys, _, 0, x, .cons h _, e => by
    obtain ⟨t, ht⟩ := h
    cases e
    exact ⟨t, by rw [ht]; rfl⟩
  | y :: ys, _, i + 1, x, .cons _ t, e => ints_at (i := i) t e
  | [], _, _, _, _, e => by simp at e
theorem vals_of_at {xs : List Int} {us : List Value} (hl : us.length = xs.length) (h : ∀ (i : Nat) x, xs[i]? = some x → ∃ t, us[i]? = some (.int x t)) : Vals (xs.map V.int) us := by
  induction xs generalizing us with
  | nil => cases us with
    | nil => exact .nil
    | cons u us => cases hl
  | cons x xs ih => cases us with
    | nil => cases hl
    | cons u us =>
      obtain ⟨t, ht⟩ := h 0 x rfl
      cases ht
      exact .cons ⟨t, rfl⟩ (ih (by simpa using hl) fun i y e => h (i + 1) y e)
section
variable {prog : Program} {w : World} {A : Around} {E : Value → Shared → Prop} {s : Shared}
theorem acc_drw {h0 : Heap} {l S : Addr} {xs : List Int} {its : List Value} (hh : A.handled = none) (hl0 : l < h0.objs.size) (hS : h0.objs.size + 1 < S) (hv : Vals (xs.map V.int) its) :
    Drw prog w A s S (h0.objs.size + 1) xs.length (fun i h acc => i ≤ xs.length ∧ (∃ u, IsAcc h (h0.objs.size + 1) h0.objs.size (.int (tot 0 xs i) u)) ∧ h.IsListIter h0.objs.size l i ∧ h.IsList l its.toArray ∧ (∀ b o, h0.get? b = some o → h.get? b = some o) ∧ acc.length = i ∧ ∀ (j : Nat), j < i → ∃ u, acc[j]? = some (.int (tot 0 xs (j + 1)) u))
      (fun h acc => (∀ b o, h0.get? b = some o → h.get? b = some o) ∧ Vals ((psums 0 xs).map V.int) acc) where
  keep := by
    intro i h h' acc ⟨hi, ⟨u, ha⟩, hit, hl, k0, e1, e2⟩ hk _
    have kx : ∀ (c : Nat) o, c < h0.objs.size + 2 → h.get? c = some o → h'.get? c = some o := fun c o hc e => hk c o (Nat.ne_of_lt (Nat.lt_of_lt_of_le hc hS)) e
    exact ⟨hi, ⟨u, kx _ _ (Nat.lt_succ_self _) ha⟩, hit.at fun o e => kx _ o (Nat.lt_succ_of_lt (Nat.lt_succ_self _)) e, hl.at fun o e => kx _ o (Nat.lt_of_lt_of_le hl0 (Nat.le_add_right _ 2)) e, fun b o e => kx b o (Nat.lt_of_lt_of_le (Heap.lt_size e) (Nat.le_add_right _ 2)) (k0 b o e), e1, e2⟩
  item := by
    intro i h tk acc oS Q E hlt ⟨hi, ⟨u, ha⟩, hit, hl, k0, e1, e2⟩ hS' hQ
    obtain ⟨x, hx⟩ : ∃ x, xs[i]? = some x := ⟨xs[i], List.getElem?_eq_getElem hlt⟩
    obtain ⟨t, ht⟩ := ints_at hv hx
    have hT : ({ s with heap := h, toks := tk } : Shared).TypeIs (.ref (h0.objs.size + 1)) "itertools.accumulate" := ⟨_, ha, rfl⟩
    unfold pyNext
    refine wpAny_bind (wpAny_attempt (wpAny_callSpecial?_slot (name := Str.ofString "__next__") hT slot_acc_next
      (wpAny_call_entry slot_acc_next hT entry_acc_next (acc_next (s := { s with heap := h, toks := tk }) ha hit hl (Nat.succ_ne_self _) (Nat.ne_of_lt (Nat.lt_succ_of_lt hl0)) (by simpa using ht) fun h' tk' u' ha' hit' hk' => ?_) (args_acc_next _))))
    refine wpAny_pure (hQ _ h' tk' ⟨hlt, ⟨u', by rw [tot_succ xs 0 i x hx]; exact ha'⟩, hit', hl.at fun o e => hk' l o (Nat.ne_of_lt (Nat.lt_succ_of_lt hl0)) (Nat.ne_of_lt hl0) e, fun b o e => hk' b o (Nat.ne_of_lt (Nat.lt_succ_of_lt (Heap.lt_size e))) (Nat.ne_of_lt (Heap.lt_size e)) (k0 b o e), by rw [List.length_append, e1]; rfl, fun j hj => ?_⟩ (hk' _ _ (Nat.ne_of_gt hS) (Nat.ne_of_gt (Nat.lt_trans (Nat.lt_succ_self _) hS)) hS'))
    by_cases hji : j < i
    · obtain ⟨u2, h2⟩ := e2 j hji
      exact ⟨u2, by rw [List.getElem?_append_left (by rw [e1]; exact hji)]; exact h2⟩
    · have : j = i := by omega
      subst this
      refine ⟨u', ?_⟩
      rw [List.getElem?_append_right (by omega), e1, Nat.sub_self, tot_succ xs 0 j x hx]
      rfl
  done := by
    intro h tk acc oS Q E ⟨hi, ⟨u, ha⟩, hit, hl, k0, e1, e2⟩ hS' hQ
    have hT : ({ s with heap := h, toks := tk } : Shared).TypeIs (.ref (h0.objs.size + 1)) "itertools.accumulate" := ⟨_, ha, rfl⟩
    unfold pyNext
    refine wpAny_bind (wpAny_attempt (wpAny_callSpecial?_slot (name := Str.ofString "__next__") hT slot_acc_next
      (wpAny_call_entry slot_acc_next hT entry_acc_next ?_ (args_acc_next _))))
    show wpAny _ _ (field (.ref (h0.objs.size + 1)) 3 >>= _) _ _ _
    refine wpAny_bind (wpAny_field ha rfl (x := .none) rfl ?_)
    show wpAny _ _ (field (.ref (h0.objs.size + 1)) 0 >>= _) _ _ _
    refine wpAny_bind (wpAny_field ha rfl (x := .ref h0.objs.size) rfl ?_)
    refine wpAny_bind (itRaw_end (s := { s with heap := h, toks := tk }) hh hit hl (by have := hv.length; simp at this; simp [← this]) fun h' e hs' he => ?_)
    obtain ⟨o, ho, hc⟩ := he
    refine wpAny_bind (wpAny_isInstance (T := "StopIteration") (b := true) ⟨o, ho, hc⟩ isSubtype_stop ?_)
    refine wpAny_pure (hQ h' tk ⟨fun b o e => hs' b o (Nat.ne_of_lt (Heap.lt_size e)) (k0 b o e), vals_of_at (by rw [e1, psums_len]) fun j x hx => ?_⟩ (hs' S _ (Nat.ne_of_gt (Nat.lt_trans (Nat.lt_succ_self _) hS)) hS'))
    have hj : j < xs.length := by rw [← psums_len xs 0]; exact (List.getElem?_eq_some_iff.mp hx).1
    rw [psums_get xs 0 j hj] at hx
    cases hx
    exact e2 j hj
end
section
variable {X : Cx} {e : Expr} {te : TE} {p p2 sp_ cpos pos : Pos}
/-- list(accumulate(e)) -/
theorem pe_listAcc {x : Str} (hc : X.calm = true) (he : PE X e te) (hg : Gl X "list") (hm : X.mg "list" = none) (hv : bootBuiltins "list" = some (.type "list")) (hg2 : Gl X x) (hm2 : X.mg x = some (.type "itertools.accumulate")) (hd2 : (x == ("__debug__" : Str)) = false := by decide)
    (hs : starEach [.Call (.Name x p2) [e] [] cpos] X.env = (false, eval (.Call (.Name x p2) [e] [] cpos) X.env) :: starEach [] X.env := by rfl)
    (hst : starEach [e] X.env = (false, eval e X.env) :: starEach [] X.env := by rfl) :
    PE X (.Call (.Name "list" p) [.Call (.Name x p2) [e] [] cpos] [] pos) (fun σ H Q => te σ H fun y H1 => ∃ a xs, y = V.ref a ∧ H1 a = some (.lst (xs.map V.int)) ∧ ∀ S, H1 S = none → Q (.ref S) (upd H1 S (.lst ((psums 0 xs).map V.int)))) := by
  refine ⟨fun pins s σ H Q I hq => ?_⟩
  refine wpAny_Call_Name_kw (ld_blt I hg hm hv ?_)
  refine PyProof.Rows.callWith_type1 ?_ hs rfl
  rw [hs]
  show wpAny _ _ (spliced ((false, eval (.Call (.Name x p2) [e] [] cpos) X.env) :: backTo pos (starEach [] X.env))) _ _ s
  refine Calls.spliced_cons ?_
  refine wpAny_Call_Name_kw (ld_glob I hg2 hm2 ?_ hd2)
  refine PyProof.Rows.callWith_type1 ?_ hst rfl
  rw [hst]
  refine Calls.spliced_cons ?_
  refine thn (he.run pins s σ H _ I hq) fun v s1 ⟨y, H1, I1, ry, a, xs, ey, hx, q⟩ => ?_
  subst ey
  obtain rfl : v = Value.ref a := ry
  refine Calls.spliced_nil ?_
  obtain ⟨its, rv, pl, hz⟩ := I1.list (.of hx)
  have hl := pl.isList
  have hal : a < s1.heap.objs.size := pl.lt
  refine acc_call hl ?_
  refine Calls.spliced_nil ?_
  have hAh : X.A.handled = none := I1.ok.hd hc
  have hsz : (accH s1.heap a).objs.size = s1.heap.objs.size + 2 := by unfold accH; rw [Heap.size_push, Heap.size_push]
  have kk : ∀ b o, s1.heap.get? b = some o → (accH s1.heap a).get? b = some o := fun b o e => Heap.get?_push_of_some _ (Heap.get?_push_of_some _ e)
  have ha0 : IsAcc (accH s1.heap a) (s1.heap.objs.size + 1) s1.heap.objs.size (.int 0 0) := by
    have : (accH s1.heap a).get? (s1.heap.push (itO true a)).objs.size = some { cls := .type "itertools.accumulate", dict := none, data := .fields #[.ref s1.heap.objs.size, .none, .int 0 0, .none], slots := #[] } := Heap.get?_push_size _ rfl
    rw [Heap.size_push] at this
    exact this
  have hi0 : (accH s1.heap a).IsListIter s1.heap.objs.size a 0 := itO_at (kd := true) (Heap.get?_push_of_some _ (Heap.get?_push_size _ rfl))
  have hxl : xs.length ≤ sizeLine := by have h1 := hz; have h2 := rv.length; rw [List.length_map] at h2; simp at h1; omega
  have D := acc_drw (prog := X.prog) (w := X.w) (A := X.A.in1.in1) (s := { s1 with heap := accH s1.heap a }) (h0 := s1.heap) (l := a) (S := s1.heap.objs.size + 2) (xs := xs) (its := its) hAh hal (Nat.lt_succ_self _) rv
  rw [← hsz] at D
  refine drw_call (T := "itertools.accumulate") (s := { s1 with heap := accH s1.heap a }) ⟨_, ha0, rfl⟩ acc_no_len acc_no_hint (by decide) (by decide) (fun A' h' Q' E' hk q => acc_iter (s := { s1 with heap := h' }) (hk _ _ ha0) q) D hxl
    ⟨Nat.zero_le _, ⟨0, by cases xs <;> exact ha0⟩, hi0, hl.at fun o e => kk _ o e, kk, rfl, fun j hj => absurd hj (Nat.not_lt_zero j)⟩ ?_
  intro h' tk acc c ⟨hk, hvv⟩ hal2 hS
  dsimp only at hS ⊢
  have hSn : s1.heap.objs.size ≤ (accH s1.heap a).objs.size := by rw [hsz]; exact Nat.le_add_right _ _
  have new : ObjOk X.prog X.w (upd H1 (accH s1.heap a).objs.size (.lst ((psums 0 xs).map V.int))) h' (accH s1.heap a).objs.size (.lst ((psums 0 xs).map V.int)) := ⟨by rw [List.length_map, psums_len]; exact hxl, acc, c, hvv, hS⟩
  exact ⟨.ref _, _, I1.turnedNew (ch := []) (fun b o _ e => hk b o e) (fun b hb => by cases hb) hSn new, rfl, q _ (I1.hok.fresh hSn)⟩
end
end Dn
set_option maxHeartbeats 1000000
namespace Dn
open PySem PySem.Spec PyProof.Rows L2
open Evl (Ex fresh_back)
section
variable {X : Cx} {e : Expr} {p p2 sp_ cpos pos : Pos}
def gAcc : D → Option D
  | .list ds => (intsOf ds).map fun ns => .list ((psums 0 ns).map PyData.int)
  | _ => none
theorem den_listAcc {x : Str} {F : Mo D} (he : DenE X e F) (hc : X.calm = true) (hg : Gl X "list") (hm : X.mg "list" = none) (hg2 : Gl X x) (hm2 : X.mg x = some (.type "itertools.accumulate")) (hd2 : (x == ("__debug__" : Str)) = false := by decide)
    (hs : starEach [.Call (.Name x p2) [e] [] cpos] X.env = (false, eval (.Call (.Name x p2) [e] [] cpos) X.env) :: starEach [] X.env := by rfl)
    (hst : starEach [e] X.env = (false, eval e X.env) :: starEach [] X.env := by rfl) :
    DenE X (.Call (.Name "list" p) [.Call (.Name x p2) [e] [] cpos] [] pos) (mMap gAcc F) := by
  obtain ⟨t, h1, h2⟩ := he
  refine ⟨_, pe_listAcc hc h1 hg hm (by rfl) hg2 hm2 hd2 hs hst, fun P b σ env G H d env' rr h Q q => ?_⟩
  obtain ⟨z, hk, hz⟩ := mMap_some h
  refine h2 P b σ env G H _ _ rr hk _ fun v G1 H1 g r rp => ?_
  unfold gAcc at hz
  split at hz
  · rename_i ds
    cases hi : intsOf ds with
    | none => rw [hi] at hz; cases hz
    | some ns =>
      rw [hi] at hz
      cases hz
      have e1 := intsOf_some hi
      subst e1
      obtain ⟨a, xs, rfl, hG, ra⟩ := rp.inv_list
      rw [ra.ints] at hG
      refine ⟨a, ns, rfl, r.sub _ _ hG, fun S hS => ?_⟩
      have pu := Pu.new (o := .lst ((psums 0 ns).map V.int)) r.sub hS
      exact q _ _ _ (g.trans (pu.gr r.fresh)) (r.pu pu) (.lst upd_same (RpAll.ofInts _))
  · cases hz
def seqsOf : List D → Option (List (List D))
  | [] => some []
  | d :: ds => match gSeq d, seqsOf ds with
    | some r, some rs => some (r :: rs)
    | _, _ => none
def colD (rs : List (List D)) (m : Nat) : List D := (List.range m).map fun j => .tuple (rs.map fun r => r.getD j .none)
def gZipS (x : D) : Option D :=
  match gSeq x with
  | none => none
  | some ds => match seqsOf ds with
    | some (r :: rs) => if 1 ≤ r.length ∧ rs.length < 1000 ∧ (rs.all fun q => q.length == r.length) = true then some (.list (colD (r :: rs) r.length)) else none
    | _ => none
theorem seqs_rp {G : Hp} : ∀ {ds : List D} {vs : List V} {qs : List (List D)}, RpAll G vs ds → seqsOf ds = some qs → ∃ rs : Seqs, vs = rs.map (fun q => V.ref q.2.1) ∧ rs.length = qs.length ∧ (∀ q ∈ rs, HoS G q.2.1 q.1 q.2.2) ∧
    ∀ (j : Nat) q r, rs[j]? = some q → qs[j]? = some r → RpAll G q.2.2 r
  | [], _, _, .nil, h => by
    cases h
    exact ⟨[], rfl, rfl, (fun q hq => by cases hq), (fun j q r e _ => by simp at e)⟩
  | d :: ds, _, qs, .cons ra rb, h => by
    unfold seqsOf at h
    split at h
    · rename_i r rs h1 h2
      cases h
      obtain ⟨kd, a, vs, e1, e2, e3⟩ := ra.seq h1
      obtain ⟨rs', f1, f2, f3, f4⟩ := seqs_rp rb h2
      subst e1
      refine ⟨(kd, a, vs) :: rs', by rw [f1]; rfl, by simp [f2], fun q hq => ?_, fun j q r' k1 k2 => ?_⟩
      · rcases List.mem_cons.mp hq with z | z
        · subst z; exact e2
        · exact f3 q z
      · cases j with
        | zero => cases k1; cases k2; exact e3
        | succ j => exact f4 j q r' k1 k2
    · cases h
theorem getD_rpD {G : Hp} : ∀ {vs : List V} {ds : List D} (j : Nat), RpAll G vs ds → Rp G (vs.getD j .non) (ds.getD j .none)
  | _, _, _, .nil => .non
  | _, _, 0, .cons h _ => h
  | _, _, j + 1, .cons _ t => getD_rpD j t
theorem col_rp {G : Hp} {j : Nat} : ∀ {rs : Seqs} {qs : List (List D)}, rs.length = qs.length → (∀ (i : Nat) q r, rs[i]? = some q → qs[i]? = some r → RpAll G q.2.2 r) → RpAll G (rs.map fun q => q.2.2.getD j .non) (qs.map fun r => r.getD j .none)
  | [], [], _, _ => .nil
  | [], _ :: _, h, _ => by cases h
  | _ :: _, [], h, _ => by cases h
  | q :: rs, r :: qs, h, k => .cons (getD_rpD j (k 0 q r rfl rfl)) (col_rp (by simpa using h) fun i q' r' e1 e2 => k (i + 1) q' r' e1 e2)
theorem den_listZipS {F : Mo D} (he : DenE X e F) (hc : X.calm = true) (hg : Gl X "list") (hm : X.mg "list" = none) (hg2 : Gl X "zip") (hm2 : X.mg "zip" = none)
    (hs : starEach [.Call (.Name "zip" p2) [.Starred e sp_] [] cpos] X.env = (false, eval (.Call (.Name "zip" p2) [.Starred e sp_] [] cpos) X.env) :: starEach [] X.env := by rfl)
    (hst : starEach [.Starred e sp_] X.env = [(true, eval e X.env)] := by rfl) :
    DenE X (.Call (.Name "list" p) [.Call (.Name "zip" p2) [.Starred e sp_] [] cpos] [] pos) (mMap gZipS F) := by
  obtain ⟨t, h1, h2⟩ := he
  refine ⟨_, pe_listZipS hc h1 hg hm (by rfl) hg2 hm2 (by rfl) hs hst, fun P b σ env G H d env' rr h Q q => ?_⟩
  obtain ⟨z, hk, hz⟩ := mMap_some h
  refine h2 P b σ env G H _ _ rr hk _ fun v G1 H1 g r rp => ?_
  unfold gZipS at hz
  split at hz
  · cases hz
  · rename_i ds hds
    split at hz
    · rename_i r0 rs0 hq
      split at hz
      · rename_i hcond
        cases hz
        obtain ⟨h1m, hlen, hall⟩ := hcond
        obtain ⟨kd, a, vs, e1, e2, e3⟩ := rp.seq hds
        subst e1
        obtain ⟨rs, f1, f2, f3, f4⟩ := seqs_rp e3 hq
        have hm : ∀ q ∈ rs, q.2.2.length = r0.length := fun q' hq' => by
          obtain ⟨j, hj⟩ := List.mem_iff_getElem?.mp hq'
          have hjl : j < (r0 :: rs0).length := by rw [← f2]; exact (List.getElem?_eq_some_iff.mp hj).1
          have e4 : (r0 :: rs0)[j]? = some ((r0 :: rs0)[j]) := List.getElem?_eq_getElem hjl
          rw [(f4 j q' _ hj e4).length]
          have : (r0 :: rs0)[j] ∈ r0 :: rs0 := List.getElem_mem hjl
          rcases List.mem_cons.mp this with z | z
          · rw [z]
          · have := List.all_eq_true.mp hall _ z
            simpa using this
        have hsq : SqT X.K H1 a vs ∨ SqL X.K H1 a vs := by
          cases kd with
          | true => exact .inr (.of (r.sub _ _ e2))
          | false => exact .inl (TupS.sq e2 r.sub)
        refine ⟨a, vs, rfl, hsq, rs, r0.length, f1, (fun z => by rw [z] at f2; cases f2), by rw [f2, List.length_cons]; omega, h1m, fun q' hq' => ⟨(f3 q' hq').mono r.sub, hm q' hq'⟩, fun S as os hS has hSn hnd hal hos => ?_⟩
        have p1 := Pu.new (o := .lst (as.map V.ref)) r.sub hS
        have p2 := putTs_ex (os := os) p1.s as (colV rs r0.length) (fun a' ha' => by rw [upd_ne (fun z => hSn (by rw [← z]; exact ha'))]; exact has a' ha') hnd
        have pu := p1.trans p2
        refine q _ _ _ (g.trans (pu.gr r.fresh)) (r.pu pu) ?_
        refine .lst (xs := as.map V.ref) ?_ ?_
        · rw [putTs_off as _ _ hSn, upd_same]
        · refine RpAll.of_get (by simp [hal, colD]) fun j v d' k1 k2 => ?_
          rw [List.getElem?_map] at k1
          unfold colD at k2
          rw [List.getElem?_map] at k2
          cases ea : as[j]? with
          | none => rw [ea] at k1; cases k1
          | some a' =>
            rw [ea] at k1
            cases k1
            have hj : j < r0.length := by rw [← hal]; exact (List.getElem?_eq_some_iff.mp ea).1
            rw [List.getElem?_range hj] at k2
            cases k2
            have ec : (colV rs r0.length)[j]? = some (rs.map fun q => q.2.2.getD j .non) := by
              unfold colV
              rw [List.getElem?_map, List.getElem?_range hj]
              rfl
            exact .tup ⟨os a', hos a' (List.mem_of_getElem? ea), putTs_at as _ _ hnd j a' _ ea ec⟩ ((col_rp f2 f4).mono pu.g)
      · cases hz
    · cases hz
end
end Dn
set_option maxHeartbeats 1000000
namespace Dn
open PySem PySem.Spec PyProof.Rows L2
open Evl (Ex fresh_back)
section
variable {X : Cx} {e : Expr} {p p2 sp_ cpos pos : Pos}
def mStar (m : Mo D) (n : Mo (List D)) : Mo (List D) := mBind (mMap gSeq m) fun x => mBind n fun xs => mRet (x ++ xs)
theorem dena_star {es : List Expr} {F : Mo D} {F' : Mo (List D)} (h : DenE X e F) (hr : DenA X es F') (hs : starEach (.Starred e p :: es) X.env = (true, eval e X.env) :: starEach es X.env := by rfl) : DenA X (.Starred e p :: es) (mStar F F') := by
  obtain ⟨t, h1, h2⟩ := h
  obtain ⟨u, k1, k2⟩ := hr
  refine ⟨_, StX.pa_star h1 k1 hs, fun P b σ env G H d env' rr h Q q => ?_⟩
  obtain ⟨x, e1, hx, hA⟩ := mBind_some h
  obtain ⟨y, e2, hy, hB⟩ := mBind_some hA
  obtain ⟨rfl, rfl⟩ := mRet_some hB
  obtain ⟨z, hz, hg⟩ := mMap_some hx
  refine h2 P b σ env G H z e1 rr hz _ fun v G1 H1 g1 r1 p1 => ?_
  obtain ⟨kd, a, vs, rfl, ha, ra⟩ := p1.seq hg
  have hsq : SqT X.K H1 a vs ∨ SqL X.K H1 a vs := by
    cases kd with
    | true => exact .inr (.of (r1.sub _ _ ha))
    | false => exact .inl (TupS.sq ha r1.sub)
  exact ⟨a, vs, rfl, hsq, k2 P b σ e1 G1 H1 y _ r1 hy _ fun ws G2 H2 g2 r2 p2 => q _ G2 H2 (g1.trans g2) r2 ((ra.mono g2.g).append p2)⟩
def tyD : D → Option String
  | .none => some "NoneType"
  | .bool _ => some "bool"
  | .int _ => some "int"
  | .str _ => some "str"
  | .list _ => some "list"
  | .tuple _ => some "tuple"
  | _ => none
theorem Rp.tyX {K : PySem.W.Frag} {G H : Hp} {v : V} {d : D} {T : String} (s : Ex G H) (r : Rp G v d) (h : tyD d = some T) : TyX K H v (.type T) := by
  cases r with
  | non => cases h; exact .base .non
  | bl b => cases h; exact .base (.bl b)
  | int i => cases h; exact .base (.int i)
  | str x => cases h; exact .base (.str x)
  | lst ha ra => cases h; exact .base (.lst (s _ _ ha))
  | tup ha ra => cases h; obtain ⟨o, _, ha⟩ := ha; exact .fTuple (s _ _ ha)
  | dK ha hl ra => cases h
  | dT ha hl ra => cases h
  | dP ha hl ra => cases h
  | scr ha ra => cases h
  | rng ha => cases h
  | dN ha hl ra => cases h
theorem Rp.tyB {K : PySem.W.Frag} {G H : Hp} {v : V} {d : D} {T : String} (s : Ex G H) (r : Rp G v d) (h : tyD d = some T) : TyB K H v T := by
  cases r with
  | non => cases h; exact .non
  | bl b => cases h; exact .bl b
  | int i => cases h; exact .int i
  | str x => cases h; exact .str x
  | lst ha ra => cases h; exact .lst (.of (s _ _ ha))
  | tup ha ra => cases h; exact .tup (ha.sq s)
  | dK ha hl ra => cases h
  | dT ha hl ra => cases h
  | dP ha hl ra => cases h
  | scr ha ra => cases h
  | rng ha => cases h
  | dN ha hl ra => cases h
/-- isinstance(x, T) -/
structure IsiD (T : String) (g : D → Option D) : Prop where
  r : ∀ d z, g d = some z → ∃ U b, tyD d = some U ∧ z = .bool b ∧ kitB U T = some b
  name : (T : Str) ≠ "__name__"
  dbg : ((T : Str) == ("__debug__" : Str)) = false
def gIsInt : D → Option D
  | .int _ => some (.bool true)
  | .bool _ => some (.bool true)
  | .none => some (.bool false)
  | .str _ => some (.bool false)
  | .list _ => some (.bool false)
  | .tuple _ => some (.bool false)
  | _ => none
def gIsBool : D → Option D
  | .bool _ => some (.bool true)
  | .int _ => some (.bool false)
  | .none => some (.bool false)
  | .str _ => some (.bool false)
  | .list _ => some (.bool false)
  | .tuple _ => some (.bool false)
  | _ => none
def gIsTuple : D → Option D
  | .tuple _ => some (.bool true)
  | .int _ => some (.bool false)
  | .bool _ => some (.bool false)
  | .none => some (.bool false)
  | .str _ => some (.bool false)
  | .list _ => some (.bool false)
  | _ => none
theorem isi_int : IsiD "int" gIsInt := ⟨fun d z h => by
  cases d <;> cases h <;> exact ⟨_, _, rfl, rfl, by decide +kernel⟩, by decide, by decide⟩
theorem isi_bool : IsiD "bool" gIsBool := ⟨fun d z h => by
  cases d <;> cases h <;> exact ⟨_, _, rfl, rfl, by decide +kernel⟩, by decide, by decide⟩
theorem isi_tuple : IsiD "tuple" gIsTuple := ⟨fun d z h => by
  cases d <;> cases h <;> exact ⟨_, _, rfl, rfl, by decide +kernel⟩, by decide, by decide⟩
theorem den_isi {T : String} {g : D → Option D} {F : Mo D} (k : IsiD T g) (h : DenE X e F) (hg : Gl X "isinstance") (hm : X.mg "isinstance" = none) (hgT : Gl X T) (hmT : X.mg T = none) (hvT : bootBuiltins T = some (.type T))
    (hs : starEach [e, .Name T p2] X.env = (false, eval e X.env) :: starEach [.Name T p2] X.env := by rfl) (hs2 : starEach [.Name T p2] X.env = (false, eval (.Name T p2) X.env) :: starEach [] X.env := by rfl)
    (hpl : (backTo pos (starEach [.Name T p2] X.env)).any (·.1) = false := by rfl) :
    DenE X (.Call (.Name "isinstance" p) [e, .Name T p2] [] pos) (mMap g F) := by
  obtain ⟨t, h1, h2⟩ := h
  refine ⟨_, pe_callB call_isi hg hm rfl (pa_cons h1 (pa_cons (pe_bltn (v := .ty T) hgT hmT hvT rfl k.name k.dbg) pa_nil hs2) hs) (by decide) (by decide) hs hpl, fun P b σ env G H d env' rr h Q q => ?_⟩
  obtain ⟨z, hk, hz⟩ := mMap_some h
  obtain ⟨U, bb, e1, e2, e3⟩ := k.r z d hz
  subst e2
  refine h2 P b σ env G H z env' rr hk _ fun v G1 H1 g1 r1 p1 => ?_
  exact ⟨v, .ty T, _, _, bb, rfl, .ty T, p1.tyX r1.sub e1, kit_ty e3, q _ G1 H1 g1 r1 (.bl bb)⟩
/-- type(x) is not int -/
def gTyNotInt : D → Option D := fun d => (tyD d).map fun T => .bool (!decide (T = "int"))
theorem tyNot {F : Mo D} (h : DenE X e F) (hg : Gl X "type") (hm : X.mg "type" = none) (hgT : Gl X "int") (hmT : X.mg "int" = none)
    (hs : starEach [e] X.env = (false, eval e X.env) :: starEach [] X.env := by rfl) :
    (∃ t : TE, PE X (.Call (.Name "type" p) [e] [] cpos) t ∧ ∀ (P : Addr → Prop) (b : Bs) (σ : L2.St) (env : DEnv) (G H : Hp) (T : String) (d : D) (env' : DEnv), Rep P b G H σ env → F env = some (d, env') → tyD d = some T →
      ∀ Q : VK, (∀ G' H', Gr P G H G' H' → Rep P b G' H' σ env' → Q (.ty T) H') → t σ H Q) := by
  obtain ⟨t, h1, h2⟩ := h
  refine ⟨_, pe_callTy call_type1 hg hm (by decide +kernel) (pa_cons h1 pa_nil hs) (by decide) (by decide) hs rfl, fun P b σ env G H T d env' rr hF hT Q q => ?_⟩
  exact h2 P b σ env G H d env' rr hF _ fun v G1 H1 g1 r1 p1 => ⟨v, T, rfl, p1.tyB r1.sub hT, q G1 H1 g1 r1⟩
theorem dent_tyNotInt {F : Mo D} (h : DenE X e F) (hg : Gl X "type") (hm : X.mg "type" = none) (hgT : Gl X "int") (hmT : X.mg "int" = none)
    (hs : starEach [e] X.env = (false, eval e X.env) :: starEach [] X.env := by rfl) (hmk : behindInMarks .IsNot (.Name "int" p2) = false := by rfl) :
    DenT X (.Compare (.Call (.Name "type" p) [e] [] cpos) [.IsNot] [.Name "int" p2] pos) (mMap gB (mMap gTyNotInt F)) := by
  obtain ⟨t, h1, h2⟩ := tyNot (p := p) (cpos := cpos) h hg hm hgT hmT hs
  refine ⟨_, pt_cmpR op_notTyB h1 (pe_bltn (v := .ty "int") hgT hmT rfl rfl (by decide) (by decide)) hmk, fun P b σ env G H d env' rr h Q q => ?_⟩
  obtain ⟨z0, h, hz0⟩ := mMap_some h
  obtain ⟨z, hk, hz⟩ := mMap_some h
  unfold gTyNotInt at hz
  cases hT : tyD z with
  | none => rw [hT] at hz; cases hz
  | some T =>
    rw [hT] at hz
    cases hz
    cases hz0
    exact h2 P b σ env G H T z env' rr hk hT _ fun G1 H1 g1 r1 => ⟨T, "int", rfl, rfl, _, rfl, q G1 H1 g1 r1⟩
def gRevL : D → Option D
  | .list ds => some (.list ds.reverse)
  | _ => none
theorem den_revL {F : Mo D} {k : Nat} {p1 p2 p3 : Pos} (h : DenE X e F) : DenE X (.Subscript e (.Slice none none (some (.UnaryOp .USub (.Constant (.int 1) k p1) p2)) p3) pos) (mMap gRevL F) := by
  obtain ⟨t, h1, h2⟩ := h
  refine ⟨_, pe_revL h1, fun P b σ env G H d env' rr h Q q => ?_⟩
  obtain ⟨z, hk, hz⟩ := mMap_some h
  refine h2 P b σ env G H z env' rr hk _ fun v G1 H1 g1 r1 p1 => ?_
  cases p1 with
  | lst ha ra =>
    rename_i a xs ds
    cases hz
    refine ⟨a, xs, rfl, .of (r1.sub _ _ ha), fun y hy => ?_⟩
    have pu := Pu.new (o := .lst xs.reverse) r1.sub hy
    exact q _ _ _ (g1.trans (pu.gr r1.fresh)) (r1.pu pu) (.lst upd_same (ra.reverse.mono pu.g))
  | _ => cases hz
def gRevI : List D → Option (List D)
  | [.list ds] => some ds.reverse
  | _ => none
theorem deni_rev {tg : Expr} {F : Mo (List D)} (hg : Gl X "reversed") (hm : X.mg "reversed" = none) (h : DenA X [e] F) (hs : starEach [e] X.env = [(false, eval e X.env)] := by rfl) :
    DenI X tg (.Call (.Name "reversed" p) [e] [] pos) (mMap gRevI F) := by
  obtain ⟨t, h1, h2⟩ := h
  refine ⟨_, pi_reversed hg hm h1 hs, fun P b σ env G H ds env' rr h R q => ?_⟩
  obtain ⟨z, hk, hz⟩ := mMap_some h
  refine h2 P b σ env G H z env' rr hk _ fun v G' H' g r p => ?_
  unfold gRevI at hz
  split at hz
  · rename_i es
    cases hz
    obtain ⟨w, rfl, hw⟩ := p.inv1
    obtain ⟨a, xs, rfl, ha, ra⟩ := hw.inv_list
    refine ⟨a, xs, rfl, .of (r.sub _ _ ha), q _ G' H' g r fun i G1 H1 e1 e2 => ⟨fun hi => ?_, fun d hd => ?_⟩⟩
    · show xs.length ≤ i
      rw [List.length_reverse] at hi
      rw [ra.length]
      exact hi
    · have hl : i < es.length := by have := (List.getElem?_eq_some_iff.mp hd).1; simpa using this
      have hr := ra.length
      rw [List.getElem?_reverse hl] at hd
      obtain ⟨x, hx, rx⟩ := ra.get hd
      rw [← hr] at hx
      refine ⟨⟨by omega, xs, x, .of (e2 _ _ (e1 _ _ ha)), hx⟩, fun y H' hy => ?_⟩
      obtain ⟨rfl, hy⟩ := hy
      have := hy xs (.of (e2 _ _ (e1 _ _ ha)))
      rw [hx] at this
      cases this
      exact ⟨G1, Pu.refl e2, .of (rx.mono e1)⟩
  · cases hz
end
end Dn
set_option maxHeartbeats 1000000
namespace Dn
open PySem PySem.Spec PyProof.Rows L2
open Evl (Ex fresh_back)
def keyOf : D → Option Key
  | .int i => some (.inl i)
  | .str x => some (.inr x)
  | _ => none
theorem keyOf_rp {G : Hp} {v : V} {d : D} {k : Key} (h : keyOf d = some k) (r : Rp G v d) : v = kV k ∧ d = keyD k := by
  cases r with
  | int i => cases h; exact ⟨rfl, rfl⟩
  | str x => cases h; exact ⟨rfl, rfl⟩
  | _ => cases h
def dcGo (tgt : D → DEnv → Option DEnv) (test : Mo Bool) (kx vx : Mo D) (vs : List Nat) : List D → List Key → DEnv → Option (List Key × List D × DEnv)
  | [], _, e => some ([], [], e)
  | d :: ds, ks, e =>
    match tgt d e with
    | none => none
    | some e1 =>
      match test e1 with
      | none => none
      | some (b, e2) =>
        if b = true then
          match kx e2 with
          | none => none
          | some (kd, e3) =>
            match vx e3, keyOf kd with
            | some (y, e4), some k =>
              if (ks.any fun k' => decide (k' = k)) = true then none else
              match dcGo tgt test kx vx vs ds (ks ++ [k]) (wipeD e4 vs) with
              | none => none
              | some (ks', ys, e5) => some (k :: ks', y :: ys, e5)
            | _, _ => none
        else dcGo tgt test kx vx vs ds ks (wipeD e2 vs)
def mDc (items : Mo (List D)) (tgt : D → DEnv → Option DEnv) (test : Mo Bool) (kx vx : Mo D) (vs : List Nat) : Mo D := fun env =>
  match items env with
  | none => none
  | some (ds, e1) =>
    if decide (ds.length ≤ 100000) && okW e1 vs then
      match dcGo tgt test kx vx vs ds [] (wipeD e1 vs) with
      | none => none
      | some (ks, ys, e2) => some (.dict ((ks.map keyD).zip ys), restD e1 e2 vs)
    else none
theorem putK_new {kvs : List (Key × V)} {k : Key} {v : V} (h : k ∉ kvs.map (·.1)) : putK kvs k v = kvs ++ [(k, v)] := by
  unfold putK
  rw [if_neg]
  intro z
  rw [List.any_eq_true] at z
  obtain ⟨p, hp, e⟩ := z
  exact h (List.mem_map.mpr ⟨p, hp, by simpa using e⟩)
theorem zip_keys {ks : List Key} {xs : List V} (h : ks.length = xs.length) : (ks.zip xs).map (·.1) = ks := by
  rw [List.map_fst_zip]
  omega
section
variable {X : Cx} {tg e iter kx vx : Expr} {pos : Pos} {ifs : List Expr} {scope : Scope}
theorem dc_run {ts vs : List Nat} {Fi : Mo (List D)} {B : D → DEnv → Option DEnv} {Ft : Mo Bool} {Fk Fv : Mo D} {wi : TI} {g : TG} {tt : TT} {tk tv : TE}
    (i2 : ∀ (P : Addr → Prop) (b : Bs) (σ : L2.St) (env : DEnv) (G H : Hp) (ds : List D) (env' : DEnv), Rep P b G H σ env → Fi env = some (ds, env') →
      ∀ R : It → Hp → Prop, (∀ J G' H', Gr P G H G' H' → Rep P b G' H' σ env' → Yields tg J G' ds → R J H') → wi σ H R)
    (g2 : ∀ (P : Addr → Prop) (b : Bs) (σ : L2.St) (env : DEnv) (G H : Hp) (v : V) (d : D) (env' : DEnv), Rep P b G H σ env → RpT tg G v d → B d env = some env' →
      ∀ Q : L2.St → Hp → Prop, (∀ σ' : L2.St, Rep P b G H σ' env' → σ'.length = σ.length → (∀ j : Nat, j ∉ ts → σ'[j]? = σ[j]?) → Q σ' H) → g v σ H Q)
    (t2 : ∀ (P : Addr → Prop) (b : Bs) (σ : L2.St) (env : DEnv) (G H : Hp) (d : Bool) (env' : DEnv), Rep P b G H σ env → Ft env = some (d, env') →
      ∀ Q : Bool → Hp → Prop, (∀ G' H', Gr P G H G' H' → Rep P b G' H' σ env' → Q d H') → tt σ H Q)
    (k2 : ∀ (P : Addr → Prop) (b : Bs) (σ : L2.St) (env : DEnv) (G H : Hp) (d : D) (env' : DEnv), Rep P b G H σ env → Fk env = some (d, env') →
      ∀ Q : VK, (∀ v G' H', Gr P G H G' H' → Rep P b G' H' σ env' → Rp G' v d → Q v H') → tk σ H Q)
    (v2 : ∀ (P : Addr → Prop) (b : Bs) (σ : L2.St) (env : DEnv) (G H : Hp) (d : D) (env' : DEnv), Rep P b G H σ env → Fv env = some (d, env') →
      ∀ Q : VK, (∀ v G' H', Gr P G H G' H' → Rep P b G' H' σ env' → Rp G' v d → Q v H') → tv σ H Q)
    (hts : ∀ j ∈ ts, j ∈ vs) {P : Addr → Prop} {b : Bs} {σ : L2.St} {env : DEnv} {G H : Hp} {out : D} {env' : DEnv} (rr : Rep P b G H σ env) (h : mDc Fi B Ft Fk Fv vs env = some (out, env')) (Q : VK)
    (q : ∀ (p : Addr) (ks : List Key) (xs : List V) (G' H' : Hp) (ds : List D), Gr P G H G' H' → Rep (fun a => P a ∧ a ≠ p) b G' H' σ env' → P p → G' p = none → H' p = some (.dK (ks.zip xs)) → ks.length = xs.length → RpAll G' xs ds → out = .dict ((ks.map keyD).zip ds) → Q (.ref p) H') : tDc wi g tt tk tv vs σ H Q := by
  unfold mDc at h
  cases w : Fi env with
  | none => rw [w] at h; cases h
  | some pr =>
    obtain ⟨ds, e1⟩ := pr
    simp only [w] at h
    split at h
    · rename_i hc
      rw [Bool.and_eq_true, decide_eq_true_eq] at hc
      obtain ⟨hlen, hok⟩ := hc
      cases w2 : dcGo B Ft Fk Fv vs ds [] (wipeD e1 vs) with
      | none => simp only [w2] at h; cases h
      | some pr2 =>
        obtain ⟨kf, ys, ef⟩ := pr2
        simp only [w2] at h
        cases h
        refine i2 P b σ env G H ds e1 rr w _ fun J G1 H1 gr1 r1 hy Dl hD => ?_
        have hPD : P Dl := r1.fresh Dl hD
        have hGD : G1 Dl = none := fresh_back r1.sub hD
        have start0 : Rep (fun a => P a ∧ a ≠ Dl) b G1 (upd H1 Dl (.dK [])) (wipe σ vs) (wipeD e1 vs) := (r1.wipe vs).newH hD
        have gr0 : Gr P G1 H1 G1 (upd H1 Dl (.dK [])) := ⟨Ex.refl _, fun a o ha n => by
          rw [upd_ne (ne_of_none ha hD)]
          exact ha, fun _ _ n => n⟩
        refine ⟨fun i m H' => m = ds.length - i ∧ i ≤ ds.length ∧ ∃ (e : DEnv) (G' : Hp) (ks : List Key) (acc : List V) (accd : List D) (zk : List Key) (zs : List D), Gr P G1 H1 G' H' ∧ Rep (fun a => P a ∧ a ≠ Dl) b G' H' (wipe σ vs) e ∧ H' Dl = some (.dK (ks.zip acc)) ∧ ks.length = acc.length ∧ G' Dl = none ∧ RpAll G' acc accd ∧ acc.length ≤ i ∧
          dcGo B Ft Fk Fv vs (ds.drop i) ks e = some (zk, zs, ef) ∧ ks ++ zk = kf ∧ accd ++ zs = ys, ⟨_, rfl, Nat.zero_le _, _, G1, [], [], [], kf, ys, gr0, start0, upd_same, rfl, hGD, .nil, Nat.zero_le _, by rw [List.drop_zero]; exact w2, rfl, rfl⟩, ?_⟩
        rintro i m H' ⟨rfl, hi, e, G', ks, acc, accd, zk, zs, gr, r', hacc, hkl, hGn, ra, hal, hf, hk', hout⟩
        by_cases hlt : i < ds.length
        · have hdi : ds[i]? = some ds[i] := List.getElem?_eq_getElem hlt
          obtain ⟨go, yl⟩ := (hy i G' H' gr.g r'.sub).2 _ hdi
          refine .inr ⟨go, fun H2 => i + 1 ≤ ds.length ∧ ∃ (e : DEnv) (G' : Hp) (ks : List Key) (acc : List V) (accd : List D) (zk : List Key) (zs : List D), Gr P G1 H1 G' H2 ∧ Rep (fun a => P a ∧ a ≠ Dl) b G' H2 (wipe σ vs) e ∧ H2 Dl = some (.dK (ks.zip acc)) ∧ ks.length = acc.length ∧ G' Dl = none ∧ RpAll G' acc accd ∧ acc.length ≤ i + 1 ∧
            dcGo B Ft Fk Fv vs (ds.drop (i + 1)) ks e = some (zk, zs, ef) ∧ ks ++ zk = kf ∧ accd ++ zs = ys, fun H2 h2 => ⟨ds.length - (i + 1), by omega, rfl, h2⟩, fun x H2 y => ?_⟩
          obtain ⟨G2, pu, rx⟩ := yl x H2 y
          rw [List.drop_eq_getElem_cons hlt] at hf
          unfold dcGo at hf
          have r2 := r'.pu pu
          have nP : ¬ (P Dl ∧ Dl ≠ Dl) := fun z => z.2 rfl
          have wk : ∀ {Ga Ha Gb Hb : Hp}, Gr (fun a => P a ∧ a ≠ Dl) Ga Ha Gb Hb → Gr P Ga Ha Gb Hb := fun g => g.wk fun x h => h.1
          have grA : Gr P G1 H1 G2 H2 := gr.trans (wk (pu.gr r'.fresh))
          have accA : H2 Dl = some (.dK (ks.zip acc)) := pu.h _ _ hacc
          have gnA : G2 Dl = none := pu.n Dl (some_ne hacc) hGn
          cases w3 : B ds[i] e with
          | none => simp only [w3] at hf; cases hf
          | some eb =>
            simp only [w3] at hf
            refine g2 _ b (wipe σ vs) e G2 H2 x _ eb r2 rx w3 _ fun σ2 r3 l3 o3 => ⟨wipe_eq l3 o3 hts, ?_⟩
            have ew : wipe σ2 vs = wipe σ vs := wipe_eq l3 o3 hts
            cases w4 : Ft eb with
            | none => simp only [w4] at hf; cases hf
            | some pr4 =>
              obtain ⟨k, et⟩ := pr4
              simp only [w4] at hf
              refine t2 _ b σ2 eb G2 H2 k et r3 w4 _ fun G3 H3 g3 r4 => ?_
              have accB : H3 Dl = some (.dK (ks.zip acc)) := g3.h _ _ accA nP
              have gnB : G3 Dl = none := g3.n Dl nP gnA
              cases k with
              | false =>
                simp only [if_neg (show ¬ (false = true) by decide)] at hf ⊢
                refine ⟨hlt, wipeD et vs, G3, ks, acc, accd, zk, zs, grA.trans (wk g3), ?_, accB, hkl, gnB, (ra.mono pu.g).mono g3.g, Nat.le_succ_of_le hal, hf, hk', hout⟩
                rw [← ew]
                exact r4.wipe vs
              | true =>
                simp only [if_pos (show true = true from rfl)] at hf ⊢
                cases w5 : Fk et with
                | none => simp only [w5] at hf; cases hf
                | some pr5 =>
                  obtain ⟨kd, ek⟩ := pr5
                  simp only [w5] at hf
                  refine k2 _ b σ2 et G3 H3 kd ek r4 w5 _ fun vk G4 H4 g4 r5 pk => ?_
                  have accC : H4 Dl = some (.dK (ks.zip acc)) := g4.h _ _ accB nP
                  have gnC : G4 Dl = none := g4.n Dl nP gnB
                  cases w6 : Fv ek with
                  | none => simp only [w6] at hf; cases hf
                  | some pr6 =>
                    obtain ⟨yd, ee⟩ := pr6
                    cases w7 : keyOf kd with
                    | none => simp only [w6, w7] at hf; cases hf
                    | some key =>
                      simp only [w6, w7] at hf
                      by_cases hnew : (ks.any fun k' => decide (k' = key)) = true
                      · rw [if_pos hnew] at hf
                        cases hf
                      · rw [if_neg hnew] at hf
                        cases w8 : dcGo B Ft Fk Fv vs (ds.drop (i + 1)) (ks ++ [key]) (wipeD ee vs) with
                        | none => simp only [w8] at hf; cases hf
                        | some pr8 =>
                          obtain ⟨ks8, ys8, e8⟩ := pr8
                          simp only [w8] at hf
                          cases hf
                          refine v2 _ b σ2 ek G4 H4 yd ee r5 w6 _ fun v G5 H5 g5 r6 pv => ?_
                          have accD : H5 Dl = some (.dK (ks.zip acc)) := g5.h _ _ accC nP
                          have gnD : G5 Dl = none := g5.n Dl nP gnC
                          obtain ⟨ekv, _⟩ := keyOf_rp w7 pk
                          have hnk : key ∉ (ks.zip acc).map (·.1) := by
                            rw [zip_keys hkl]
                            exact fun z => hnew (List.any_eq_true.mpr ⟨key, z, decide_eq_true rfl⟩)
                          have hput : putK (ks.zip acc) key v = (ks ++ [key]).zip (acc ++ [v]) := by
                            rw [putK_new hnk, List.zip_append hkl]
                            rfl
                          refine ⟨ks.zip acc, key, ekv, accD, line_lt (by rw [List.length_zip, hkl, Nat.min_self]; omega), hlt, wipeD ee vs, G5, ks ++ [key], acc ++ [v], accd ++ [yd], ks8, ys8, ?_, ?_, by rw [hput]; exact upd_same, by rw [List.length_append, List.length_append, hkl]; rfl, gnD, ((((ra.mono pu.g).mono g3.g).mono g4.g).mono g5.g).append (.cons pv .nil), by rw [List.length_append]; simpa using hal, w8, by rw [List.append_assoc]; exact hk', by rw [List.append_assoc]; exact hout⟩
                          · have gg := ((grA.trans (wk g3)).trans (wk g4)).trans (wk g5)
                            exact ⟨gg.g, fun a o ha n => by
                              rw [upd_ne (show a ≠ Dl from fun z => n (by rw [z]; exact hPD))]
                              exact gg.h a o ha n, gg.n⟩
                          · rw [← ew]
                            exact (r6.wipe vs).updH nP gnD
        · have e0 : i = ds.length := by omega
          subst e0
          rw [List.drop_length] at hf
          cases hf
          rw [List.append_nil] at hout hk'
          subst hout hk'
          exact .inl ⟨(hy _ G' H' gr.g r'.sub).1 (Nat.le_refl _), q Dl ks acc G' H' accd (gr1.trans gr) (r1.back r' gr.g hok) hPD hGn hacc hkl ra rfl⟩
    · cases h
end
section
variable {X : Cx}
/-- x in a dict, x an int or a text -/
def gInK (neg : Bool) : D → D → Option D
  | .int i, .dict kvs => if (!kvs.isEmpty && kvs.all (fun p => match p.1 with | .int _ => true | _ => false)) = true then some (.bool (if neg then !(kvs.any fun p => match p.1 with | .int j => j == i | _ => false) else kvs.any fun p => match p.1 with | .int j => j == i | _ => false)) else none
  | _, _ => none
theorem zip_any_int {ks : List Key} {xs : List V} {ds : List D} (h : ks.length = xs.length) (hd : xs.length = ds.length) (i : Int) :
    (valV (ks.zip xs) (.inl i)).isSome = ((ks.map keyD).zip ds).any fun p => match p.1 with | .int j => j == i | _ => false := by
  rw [← valV_any]
  induction ks generalizing xs ds with
  | nil => rfl
  | cons k ks ih =>
    cases xs with
    | nil => cases h
    | cons x xs =>
      cases ds with
      | nil => cases hd
      | cons d ds =>
        have := ih (xs := xs) (ds := ds) (by simpa using h) (by simpa using hd)
        simp only [List.map_cons, List.zip_cons_cons, List.any_cons]
        rw [this]
        congr 1
        cases k with
        | inl j =>
          by_cases hji : j = i <;> simp [keyD, hji]
        | inr x => simp [keyD]
theorem opR_dIn (hu : X.A.units + 1 < cLine) : OpR X (compareOp .In) (fun y x H Q => ∃ a o, x = .ref a ∧ DGet H a y o ∧ Q (.bl o.isSome) H) := by
  intro pins s σ H x y v u Q I rx ry h
  obtain ⟨a, o, rfl, g, q⟩ := h
  cases (show u = Value.ref a from ry)
  exact d_in hu I g rx fun s' I' => ⟨.bl _, H, I', rfl, q⟩
theorem opD_inK (hu : X.A.units + 1 < cLine) : OpD X (compareOp .In) (gInK false) := by
  refine ⟨_, opR_dIn hu, fun G H x y d e z s rx ry hg Q q => ?_⟩
  unfold gInK at hg
  split at hg
  · rename_i i kvs
    split at hg
    · rename_i hall
      cases hg
      cases rx.inv_int
      cases ry with
      | dK ha hl ra =>
        rename_i a ks xs ds
        refine ⟨a, _, rfl, DGet.k (k := .inl i) (s _ _ ha), ?_⟩
        rw [zip_any_int hl ra.length i]
        exact q _ G H (Pu.refl s) (.bl _)
      | dT ha hl ra =>
        rename_i a rows ds
        cases rows with
        | nil => simp at hall
        | cons k ks =>
          cases ra with
          | cons r1 r2 => simp at hall
      | dP ha hl ra => simp at hall
      | scr ha ra => simp at hall
      | rng ha => simp at hall
      | dN ha hl ra => simp at hall
    · cases hg
  · cases hg
end
end Dn
set_option maxHeartbeats 1000000
namespace Dn
open PySem PySem.Spec PyProof.Rows L2
open Evl (Ex fresh_back)
open Classical
section
variable {X : Cx} {e : Expr} {pos : Pos}
def gMulB : D → D → Option D := fun d e => match gInt (fun i j => if i.natAbs < 2 ^ 4000 ∧ j.natAbs < 2 ^ 4000 then some (i * j) else none) d e with | some z => some z | none => gRep d e
theorem opD_mulB : OpD X (binaryOp .Mult) gMulB := (opD_int op_mulW fun i j z h => by
  split at h
  · rename_i hc; cases h; exact ⟨wide_mul hc.1 hc.2 (by decide) (by decide) (by decide), rfl⟩
  · cases h).or opD_rep
abbrev Ro := DEnv → Option (D × DEnv)
def DenSsN (X : Cx) (st : List Stmt) (k : Nat) (F : Ro) : Prop :=
  ∃ t : TS, PSs X st t ∧ ∀ (P : Addr → Prop) (b : Bs) (σ : L2.St) (env : DEnv) (G H : Hp) (d : D) (env' : DEnv), Rep P b G H σ env → F env = some (d, env') →
    ∀ Dd : Ends, (∀ v σ' G' H' N, Gr P G H G' H' → Rep (fun a => P a ∧ ¬ N a) b G' H' σ' env' → Tree P G' H' N k v d → Dd.rt v H') → t Dd σ H
def rRet (m : Mo D) : Ro := m
def rIf (c : Mo Bool) (F F' : Ro) : Ro := fun env =>
  match c env with
  | some (k, e1) => if k = true then F e1 else F' e1
  | none => none
def rSeq (F : So) (F' : Ro) : Ro := fun env =>
  match F env with
  | some (.nx e1) => F' e1
  | _ => none
theorem denssN_ret {k : Nat} {F : Mo D} (h : DenN X e k F) : DenSsN X [.Return (some e) pos] k (rRet F) := by
  obtain ⟨t, h1, h2⟩ := h
  exact ⟨_, pss_one (ps_ret h1), fun P b σ env G H d env' rr hF Dd q => h2 P b σ env G H d env' rr hF _ fun v G' H' N g r t => q v σ G' H' N g r t⟩
theorem denssN_if {k : Nat} {c : Expr} {u rest : List Stmt} {Fc : Mo Bool} {F F' : Ro} (hc : DenT X c Fc) (h1 : DenSsN X u k F) (h2 : DenSsN X rest k F') : DenSsN X (.If c u [] pos :: rest) k (rIf Fc F F') := by
  obtain ⟨t, c1, c2⟩ := hc
  obtain ⟨t1, h1, h1'⟩ := h1
  obtain ⟨t2, h2, h2'⟩ := h2
  refine ⟨_, pss_cons (ps_if c1 h1 pss_nil) h2, fun P b σ env G H d env' rr h Dd q => ?_⟩
  unfold rIf at h
  split at h
  · rename_i kk e1 hk
    refine c2 P b σ env G H kk e1 rr hk _ fun G' H' g r' => ?_
    cases kk with
    | true =>
      rw [if_pos rfl] at h ⊢
      exact h1' P b σ e1 G' H' d env' r' h _ fun v σ' G2 H2 N g2 r2 t2 => q v σ' G2 H2 N (g.trans g2) r2 t2
    | false =>
      rw [if_neg (by decide)] at h ⊢
      exact h2' P b σ e1 G' H' d env' r' h Dd fun v σ' G2 H2 N g2 r2 t2 => q v σ' G2 H2 N (g.trans g2) r2 t2
  · cases h
theorem denssN_cons {k : Nat} {st : Stmt} {rest : List Stmt} {F : So} {F' : Ro} (h1 : DenS X st F) (h2 : DenSsN X rest k F') : DenSsN X (st :: rest) k (rSeq F F') := by
  obtain ⟨t, h1, h1'⟩ := h1
  obtain ⟨u, k1, k2⟩ := h2
  refine ⟨_, pss_cons h1 k1, fun P b σ env G H d env' rr h Dd q => ?_⟩
  unfold rSeq at h
  split at h
  · rename_i e1 w
    exact h1' P b σ env G H _ rr w { Dd with nx := u Dd } fun σ' G' H' g r' => k2 P b σ' e1 G' H' d env' r' h Dd fun v σ2 G2 H2 N g2 r2 t2 => q v σ2 G2 H2 N (g.trans g2) r2 t2
  · cases h
def outN : Option (D × DEnv) → Option D := Option.map (·.1)
def spN (n k : Nat) (F : List D → Option D) : Sp := fun vs H Q _ => ∃ (G : Hp) (ds : List D) (d : D), Ex G H ∧ RpAll G vs ds ∧ ds.length = n ∧ F ds = some d ∧ ∀ v G' H' N, Pu G H G' H' → Tree (fun a => H a = none) G' H' N k v d → Q v H'
structure FdN (P : Program) (w : World) (K : PySem.W.Frag) (mg : Str → Option Value) (base : Heap) (x : Str) (j n k : Nat) (F : List D → Option D) : Prop where
  ex : ∃ (f : Addr) (fd : FuncData) (ps : List Str), mg x = some (.ref f) ∧ PySem.W.keepIn K (.ref f) = true ∧ Binds K fd ps [] ∧ ps.length = n ∧ FnOk P w K mg base CX0 j f fd ps (spN n k F)
end
section
variable {P : Program} {w : World} {K : PySem.W.Frag} {mg : Str → Option Value} {base : Heap}
theorem FdN.mk' {x qual : Str} {st : Stmt} {f : Addr} {fd : FuncData} {N ps : List Str} {j k : Nat} {B : Ro} (F : Fun K x qual st f fd) (S : FnScope N ps (defScope st)) (hg : mg x = some (.ref f)) (hb : Binds K fd ps [])
    (body : ∀ (cdv : Value) (A : Around) (outer : List Env) (s : Shared) (H : Hp) (E : XK), Room j (A.deeper (envOfC qual (defScope st) s.heap.objs.size f cdv)) → DenSsN (cxOf CX0 P w K mg base N qual (defScope st) f cdv A outer s H E).nox (defBody st) k B) :
    FdN P w K mg base x (j + 1) ps.length k (fun ds => outN (B (envOf N ds))) := by
  refine ⟨f, fd, ps, hg, F.kp, hb, rfl, F.ok S (fun vs H Q E h => ?_) fun cdv A outer s H vs Q E hr h => ?_⟩
  · obtain ⟨G, ds, d, _, r, hl, _⟩ := h
    rw [r.length, hl]
  · obtain ⟨G, ds, d, hs, r, hl, hF, q⟩ := h
    obtain ⟨t, h1, h2⟩ := body cdv A outer s H E hr
    refine ⟨t, h1, ?_⟩
    have rep : Rep (fun a => H a = none) (fun _ => 0) G H (L2.start N vs) (envOf N ds) := start_rep hs (fun _ h => h) r
    cases hB : B (envOf N ds) with
    | none => simp only [hB] at hF; cases hF
    | some r1 =>
      obtain ⟨d', e1⟩ := r1
      simp only [hB, outN, Option.map_some] at hF
      cases hF
      refine h2 _ (fun _ => 0) _ _ G H _ e1 rep hB _ fun v σ' G' H' N g r' t => q v G' H' N ⟨g.g, fun a o e => g.h a o e (some_ne e), r'.sub, fun a h n => g.n a h n⟩ t
theorem FdN.of {x : Str} {st : Stmt} {N ps : List Str} {j n k : Nat} {B : Ro} (d : Df K mg x st ps) (S : FnScope N ps (defScope st)) (hn : ps.length = n)
    (body : ∀ (f : Addr) (cdv : Value) (A : Around) (outer : List Env) (s : Shared) (H : Hp) (E : XK), Room j (A.deeper (envOfC x (defScope st) s.heap.objs.size f cdv)) → DenSsN (cxOf CX0 P w K mg base N x (defScope st) f cdv A outer s H E).nox (defBody st) k B) :
    FdN P w K mg base x (j + 1) n k (fun ds => outN (B (envOf N ds))) := by
  obtain ⟨f, fd, h1, h2, h3⟩ := d.ex
  subst hn
  exact FdN.mk' h2 S h1 h3 (body f)
theorem FdN.mono {x : Str} {i j n k : Nat} {F : List D → Option D} (h : FdN P w K mg base x i n k F) (hk : i ≤ j) : FdN P w K mg base x j n k F := by
  obtain ⟨f, fd, ps, h1, h2, h3, h4, h5⟩ := h.ex
  exact ⟨f, fd, ps, h1, h2, h3, h4, h5.mono hk⟩
end
section
variable {X : Cx} {e : Expr} {pos : Pos}
theorem denn_call {x : Str} {j n k : Nat} {p : Pos} {es : List Expr} {F : List D → Option D} {m : Mo (List D)} (h : FdN X.prog X.w X.K X.mg X.base x j n k F) (hr : Room j X.A) (hg : Gl X x) (ha : DenA X (e :: es) m) (hdb : (x == ("__debug__" : Str)) = false := by decide)
    (he : starEach (e :: es) X.env = (false, eval e X.env) :: starEach es X.env := by rfl) (hpl : (backTo pos (starEach es X.env)).any (·.1) = false := by rfl) : DenN X (.Call (.Name x p) (e :: es) [] pos) k (mMap (lenIs n F) m) := by
  obtain ⟨f, fd, ps, h1, h2, h3, h4, h5⟩ := h.ex
  obtain ⟨t, a1, a2⟩ := ha
  refine ⟨_, pe_call h5 hr hg h1 h2 h3 .nil pass0 a1 hdb he hpl, fun P b σ env G H d env' rr h Q q => ?_⟩
  obtain ⟨ds, hds, hF⟩ := mMap_some h
  unfold lenIs at hF
  split at hF
  · rename_i hl
    refine a2 P b σ env G H _ _ rr hds _ fun vs G' H' g r p => ?_
    show spN n k F (vs ++ []) H' Q _
    rw [List.append_nil]
    refine ⟨G', ds, d, r.sub, p, hl, hF, fun v G2 H2 N pu t => ?_⟩
    have tP : Tree P G2 H2 N k v d := ⟨fun a ha => ⟨r.fresh a (t.n a ha).1, (t.n a ha).2⟩, t.r⟩
    refine q v G2 H2 N (g.trans (pu.gr r.fresh)) ?_ tP
    refine r.keep pu.g pu.s (fun a ha => ⟨r.fresh a (fresh_back pu.h ha), fun z => (t.n a z).2.2 ha⟩) fun a h1 h2 h3 => ⟨⟨h1, fun z => h3 (t.n a z).1⟩, pu.n a h3 h2, fun o e => pu.h a o e⟩
  · cases hF
def forOwnGo (i : Nat) (body : So) : List D → DEnv → Option Fl
  | [], e => some (.nx e)
  | d :: ds, e =>
    match body (e.set i (some (SV.ow false 0 d))) with
    | none => none
    | some (.nx e2) => forOwnGo i body ds e2
    | some (.ct e2) => forOwnGo i body ds e2
    | some (.bk e2) => some (.nx e2)
    | some (.rt d e2) => some (.rt d e2)
def sForOwn (i : Nat) (m : Mo D) (body : So) : So := fun env =>
  match m env with
  | some (.list ds, e1) => forOwnGo i body ds e1
  | _ => none
theorem dens_forOwn (i : Nat) {x : Str} {pos' : Pos} {iter : Expr} {body : List Stmt} {F : Mo D} {Fb : So} (hp : PassesOwn (model X.prog X.w) X.A X.env X.xe) (hc : X.calm = true) (hN : X.N.Nodup) (hi : X.N[i]? = some x) (hx : Loc X.env.scope x)
    (he : DenN X iter 2 F) (hb : DenSs X body Fb) (hs : ∀ x, foldedSetIterable iter X.env x = pure x := by intro _; rfl)
    (hf : X.fn x = true ∨ X.env.scope.names.lookup x = some .local := by first | exact .inl rfl | exact .inr rfl | assumption) : DenS X (.For (.Name x pos') iter body [] pos) (sForOwn i F Fb) := by
  obtain ⟨te, i1, i2⟩ := he
  obtain ⟨tb, b1, b2⟩ := hb
  refine ⟨_, ps_for hp hc (pi_list i1) (pg_name hN hi hx hf) b1 hs, fun P b σ env G H r rr h Dd q => ?_⟩
  unfold sForOwn at h
  split at h
  · rename_i ds e1 hd
    refine i2 P b σ env G H _ e1 rr hd _ fun v G1 H1 N gr1 r1 t => ?_
    obtain ⟨Lt, hLt, ht⟩ := t.r
    unfold OwnR at ht
    obtain ⟨a, vs, rfl, ha, hla, hn, hch⟩ := ht
    let M : Nat → Addr → Prop := fun i c => Lt c = some [] ∨ ∃ j q, i ≤ j ∧ Lt c = some (j :: q)
    have hMN : ∀ i c, M i c → N c := fun i c z => by
      rcases z with z | ⟨j, q, _, z⟩
      · exact hLt c _ z
      · exact hLt c _ z
    have hM : ∀ i c, M (i + 1) c → M i c := fun i c z => by
      rcases z with z | ⟨j, q, hj, z⟩
      · exact .inl z
      · exact .inr ⟨j, q, by omega, z⟩
    refine ⟨a, rfl, ⟨vs, .of ha⟩, fun i m σ' H' => m = ds.length - i ∧ i ≤ ds.length ∧ ∃ e G', Gr P G1 H1 G' H' ∧ Rep (fun c => P c ∧ ¬ M i c) b G' H' σ' e ∧ H' a = some (.lst vs) ∧ (∀ c, M i c → G' c = none ∧ ∀ o, H1 c = some o → H' c = some o) ∧ forOwnGo _ Fb (ds.drop i) e = some r,
      ⟨_, rfl, Nat.zero_le _, e1, G1, Gr.refl, r1.wkP fun c z => ⟨z.1, fun y => z.2 (hMN 0 c y)⟩, ha, fun c z => ⟨(t.n c (hMN 0 c z)).2.1, fun _ e => e⟩, by rw [List.drop_zero]; exact h⟩, ?_⟩
    rintro j m σ' H' ⟨rfl, hj, e, G', gr, r', haj, hk, hf'⟩
    by_cases hlt : j < ds.length
    · have hdj : ds[j]? = some ds[j] := List.getElem?_eq_getElem hlt
      have hvl : j < vs.length := by omega
      have hvj : vs[j]? = some vs[j] := List.getElem?_eq_getElem hvl
      refine .inr ⟨⟨vs, vs[j], .of haj, hvj⟩, fun σ2 H2 => j + 1 ≤ ds.length ∧ ∃ e G2, Gr P G1 H1 G2 H2 ∧ Rep (fun c => P c ∧ ¬ M (j + 1) c) b G2 H2 σ2 e ∧ H2 a = some (.lst vs) ∧ (∀ c, M (j + 1) c → G2 c = none ∧ ∀ o, H1 c = some o → H2 c = some o) ∧ forOwnGo _ Fb (ds.drop (j + 1)) e = some r, fun σ2 H2 h2 => ⟨ds.length - (j + 1), by omega, rfl, h2⟩, fun x H2 y => ?_⟩
      obtain ⟨rfl, y⟩ := y
      have hy := y vs (.of haj)
      rw [hvj] at hy
      cases hy
      rw [List.drop_eq_getElem_cons hlt] at hf'
      unfold forOwnGo at hf'
      have hcj := hch j _ _ hvj hdj
      have tj : Tree (fun c => P c ∧ ¬ M (j + 1) c) G' H2 (fun c => ∃ q, Lt c = some (j :: q)) 1 vs[j] ds[j] := by
        refine ⟨fun c hc' => ?_, fun c => match Lt c with | some (m :: q) => if m = j then some q else none | _ => none, fun c p hc' => ?_, ?_⟩
        · obtain ⟨q', hq'⟩ := hc'
          have hMc : M j c := .inr ⟨j, q', Nat.le_refl _, hq'⟩
          have hNc := t.n c (hMN j c hMc)
          refine ⟨⟨hNc.1, fun z => ?_⟩, (hk c hMc).1, ?_⟩
          · rcases z with z | ⟨m, q2, hm, z⟩
            · rw [hq'] at z; cases z
            · rw [hq'] at z; cases z; omega
          · cases w : H1 c with
            | none => exact absurd w hNc.2.2
            | some o => exact some_ne ((hk c hMc).2 o w)
        · simp only [] at hc'
          split at hc'
          · rename_i m q' w
            split at hc'
            · rename_i e2
              subst e2
              exact ⟨q', w⟩
            · cases hc'
          · cases hc'
        · refine hcj.keep gr.g 1 fun c q' hq' => ?_
          have hq2 : Lt c = some (j :: q') := by simpa using hq'
          refine ⟨by simp [hq2], fun o ho => (hk c (.inr ⟨j, q', Nat.le_refl _, hq2⟩)).2 o ho⟩
      have rj : Rep (fun c => (P c ∧ ¬ M (j + 1) c) ∧ ¬ ∃ q, Lt c = some (j :: q)) b G' H2 σ' e := r'.wkP fun c z => ⟨⟨z.1, fun y => z.2 (hM j c y)⟩, fun ⟨q', hq'⟩ => z.2 (.inr ⟨j, q', Nat.le_refl _, hq'⟩)⟩
      have r2 := rj.ownNew tj i
      have wk : ∀ {Ga Ha Gb Hb : Hp}, Gr (fun c => P c ∧ ¬ M (j + 1) c) Ga Ha Gb Hb → Gr P Ga Ha Gb Hb := fun g => g.wk fun x h => h.1
      have hMa : M (j + 1) a := .inl hla
      cases w2 : Fb (e.set i (some (SV.ow false 0 ds[j]))) with
      | none => simp only [w2] at hf'; cases hf'
      | some r3 =>
        simp only [w2] at hf'
        refine b2 _ b _ _ G' H2 r3 r2 w2 _ ?_
        have stay : ∀ {G3 H3 : Hp}, Gr (fun c => P c ∧ ¬ M (j + 1) c) G' H2 G3 H3 → H3 a = some (.lst vs) ∧ (∀ c, M (j + 1) c → G3 c = none ∧ ∀ o, H1 c = some o → H3 c = some o) := fun g3 =>
          ⟨g3.h _ _ haj fun z => z.2 hMa, fun c hc' => ⟨g3.n c (fun z => z.2 hc') (hk c (hM j c hc')).1, fun o ho => g3.h c o ((hk c (hM j c hc')).2 o ho) fun z => z.2 hc'⟩⟩
        cases r3 with
        | nx e3 => exact fun σ3 G3 H3 g3 r3 => ⟨hlt, e3, G3, gr.trans (wk g3), r3, (stay g3).1, (stay g3).2, hf'⟩
        | ct e3 => exact fun σ3 G3 H3 g3 r3 => ⟨hlt, e3, G3, gr.trans (wk g3), r3, (stay g3).1, (stay g3).2, hf'⟩
        | bk e3 =>
          cases hf'
          exact fun σ3 G3 H3 g3 r3 => q σ3 G3 H3 ((gr1.trans gr).trans (wk g3)) (r3.wkP fun _ z => z.1)
        | rt d e3 =>
          cases hf'
          exact fun v σ3 G3 H3 g3 r3 p => q v σ3 G3 H3 ((gr1.trans gr).trans (wk g3)) (r3.wkP fun _ z => z.1) p
    · have e0 : j = ds.length := by omega
      subst e0
      rw [List.drop_length] at hf'
      cases hf'
      exact .inl ⟨⟨vs, .of haj, by omega⟩, q σ' G' H' (gr1.trans gr) (r'.wkP fun _ z => z.1)⟩
  · cases h
end
end Dn
set_option maxHeartbeats 1000000
namespace Dn
open PySem PySem.Spec PyProof.Rows L2
open Evl (Ex fresh_back)
abbrev gLe : D → D → Option D := gCmp fun i j => decide (i ≤ j)
abbrev gGt : D → D → Option D := gCmp fun i j => decide (j < i)
abbrev gGe : D → D → Option D := gCmp fun i j => decide (j ≤ i)
section
variable {X : Cx} {a b e : Expr} {pos : Pos}
theorem rgV_rp2 {G : Hp} (i j : Int) : RpAll G (rgV i j) (rangeD i (j - i).toNat) := by
  unfold rgV rangeD
  induction List.range (j - i).toNat with
  | nil => exact .nil
  | cons n ns ih => exact .cons (.int _) ih
def gTupRg2 : D → D → Option D
  | .int i, .int j => if -(2 ^ 62) ≤ i ∧ i < 1000 ∧ -(2 ^ 62) ≤ j ∧ j < 1000 ∧ j - i < 1000 then some (.tuple (rangeD i (j - i).toNat)) else none
  | _, _ => none
theorem den_tupRange2 {a b : Expr} {p p2 pos2 : Pos} {F F' : Mo D} (hg : Gl X "tuple") (hm : X.mg "tuple" = none) (hg2 : Gl X "range") (hm2 : X.mg "range" = none) (hc : X.calm = true) (ha : DenE X a F) (hb : DenE X b F')
    (na : starEach [a, b] X.env = (false, eval a X.env) :: starEach [b] X.env := by rfl) (nb : starEach [b] X.env = (false, eval b X.env) :: starEach [] X.env := by rfl) (hp : (backTo pos2 (starEach [b] X.env)).any (·.1) = false := by rfl)
    (hs : starEach [.Call (.Name "range" p) [a, b] [] pos2] X.env = (false, eval (.Call (.Name "range" p) [a, b] [] pos2) X.env) :: starEach [] X.env := by rfl) :
    DenE X (.Call (.Name "tuple" p2) [.Call (.Name "range" p) [a, b] [] pos2] [] pos) (mBin gTupRg2 F F') := by
  obtain ⟨t, h1, h2⟩ := ha
  obtain ⟨u, k1, k2⟩ := hb
  refine ⟨_, pe_tupRgS hc hg hm (prg_2 hg2 hm2 h1 k1 na nb hp) hs, fun P b σ env G H d env' rr h Q q => ?_⟩
  obtain ⟨x, e1, hx, h⟩ := mBind_some h
  obtain ⟨y, e2, hy, h⟩ := mBind_some h
  obtain ⟨hz, rfl⟩ := mLift_some h
  refine h2 P b σ env G H x e1 rr hx _ fun v G1 H1 g1 r1 p1 => k2 P b σ e1 G1 H1 y _ r1 hy _ fun w G2 H2 g2 r2 p2 => ?_
  unfold gTupRg2 at hz
  clear h hy
  split at hz
  · rename_i i j
    split at hz
    · rename_i hj
      cases hz
      refine ⟨i, j, p1.inv_int, p2.inv_int, ?_, fun y o hy ho => ?_⟩
      · have hz : sizeLine = 16777216 := sizeLine_eq
        unfold RgOk
        omega
      · have pu := Pu.new (o := .frz o (.tup (rgV i j))) r2.sub hy
        exact q _ _ _ ((g1.trans g2).trans (pu.gr r2.fresh)) (r2.pu pu) (.tup (.new ho) (rgV_rp2 i j))
    · cases hz
  · cases hz
/-- list(x), a new list -/
theorem denn_listc {p : Pos} {F : Mo (List D)} (hg : Gl X "list") (hm : X.mg "list" = none) (ha : DenA X [e] F) (he : starEach [e] X.env = (false, eval e X.env) :: starEach [] X.env := by rfl) :
    DenN X (.Call (.Name "list" p) [e] [] pos) 1 (mMap gList F) := by
  obtain ⟨t, a1, a2⟩ := ha
  refine ⟨_, pe_callTy call_list_of hg hm (by rfl) a1 (by decide) (by decide) he rfl, fun P b σ env G H d env' rr h Q q => ?_⟩
  obtain ⟨ds, hds, hF⟩ := mMap_some h
  refine a2 P b σ env G H _ _ rr hds _ fun vs G' H' g r p => ?_
  have fin : ∀ (a : Addr) (ws : List V) (zs : List D), vs = [.ref a] → (SqL X.K H' a ws ∨ SqT X.K H' a ws) → RpAll G' ws zs → d = .list zs → ∃ p ys, vs = [.ref p] ∧ (SqL X.K H' p ys ∨ SqT X.K H' p ys) ∧ ∀ l, H' l = none → Q (.ref l) (upd H' l (.lst ys)) := fun a ws zs e1 hsq ra e2 => by
    subst e2
    refine ⟨a, ws, e1, hsq, fun y hy => ?_⟩
    have hPy := r.fresh y hy
    exact q (.ref y) G' (upd H' y _) (fun a => a = y) ⟨g.g, fun a o ha n => by
      rw [upd_ne (show a ≠ y from fun z => n (by rw [z]; exact hPy))]
      exact g.h a o ha n, g.n⟩ (r.newH hy) (Tree.one hPy (fresh_back r.sub hy) upd_same ra)
  unfold gList at hF
  split at hF
  · cases hF
    obtain ⟨v, rfl, h⟩ := p.inv1
    obtain ⟨a, ws, rfl, ha, ra⟩ := h.inv_list
    exact fin a ws _ rfl (.inl (.of (r.sub _ _ ha))) ra rfl
  · cases hF
    obtain ⟨v, rfl, h⟩ := p.inv1
    obtain ⟨a, ws, rfl, ha, ra⟩ := h.inv_tup
    exact fin a ws _ rfl (.inr (ha.sq r.sub)) ra rfl
  · cases hF
end
end Dn
namespace L2
open PySem PySem.Spec PyProof.Rows
theorem Room.units0' {k : Nat} {A : Around} (r : Room k A) : A.units + 1 < cLine := by have := r.units; omega
end L2
namespace Dn
open PySem PySem.Spec PyProof.Rows L2
structure Blt2 (mg : Str → Option Value) : Prop extends Blt mg where
  type_ : mg "type" = none
structure Imps (mg : Str → Option Value) : Prop where
  acc : mg "accumulate" = some (.type "itertools.accumulate")
abbrev gIAdd : D → D → Option D := gInt fun i j => some (i + j)
end Dn
namespace Dn
open PySem PySem.Spec PyProof.Rows L2
theorem den_glb {X : Cx} {x : Str} {pos : Pos} {i : Int} (hm : ∃ t, X.mg x = some (.int i t)) (hg : Gl X x) (hd : (x == ("__debug__" : Str)) = false := by decide) : DenE X (.Name x pos) (mRet (.int i)) := den_glob (u := .none) hm hg hd
end Dn
set_option maxHeartbeats 1000000
namespace Dn
open PySem PySem.Spec PyProof.Rows L2
open Evl (Ex fresh_back)
section
variable {X : Cx}
theorem swD_true {kx vx : Expr} {gs : List Comprehension} {scope : Scope} {pos py : Pos} {y : Str} {l : Nat} {env : Env} (hk : env.scope.kind = .function) (hy : env.scope.names.lookup y = some .local) (hl : (py.line == pos.line) = true)
    (ha : (scope.names.any fun (n, k) => n == y && (k == .local || k == .cell)) = false) : swapsWith (.DictComp kx vx gs scope pos) (some (.Name y py)) l env = pure true := by
  have ky : env.kindOf y = some .local := hy
  have hb : env.blockKind = .function := by unfold Env.blockKind; rw [hk]; rfl
  unfold swapsWith
  simp only [hb, ky, ha, Expr.pos, hl]
  rfl
theorem ps_setDc {i : Nat} {y : Str} {py : Pos} {kx vx tg iter : Expr} {ifs : List Expr} {scope : Scope} {own : List (Str × Nat)} {pos spos : Pos} {wi : TI} {g : TG} {tt : TT} {tk tv : TE} (hc : X.calm = true) (hN : X.N.Nodup) (hy : X.N[i]? = some y) (hyl : X.env.scope.names.lookup y = some .local)
    (hsw : swapsWith (.DictComp kx vx [⟨tg, iter, ifs, 0⟩] scope pos) (some (.Name y py)) spos.line X.env = pure true) (hi : PI X tg iter wi) (ok : BlkOk X.N X.env.scope scope own)
    (hg : ∀ (s : Shared) (H : Hp) (C : Addr) (cl : List (Str × Addr)) (fp : List Addr), PG (X.blk s H scope (compEnvC scope cl C X.env) fp) tg g) (ht : ∀ (s : Shared) (H : Hp) (C : Addr) (cl : List (Str × Addr)) (fp : List Addr), PTs (X.blk s H scope (compEnvC scope cl C X.env) fp) ifs tt)
    (hk : ∀ (s : Shared) (H : Hp) (C : Addr) (cl : List (Str × Addr)) (fp : List Addr), PE (X.blk s H scope (compEnvC scope cl C X.env) fp) kx tk)
    (he : ∀ (s : Shared) (H : Hp) (C : Addr) (cl : List (Str × Addr)) (fp : List Addr), PE (X.blk s H scope (compEnvC scope cl C X.env) fp) vx tv) (hs : ∀ x, foldedSetIterable iter X.env x = pure x := by intro _; rfl) :
    PS X (.Assign [.Name y py] (.DictComp kx vx [⟨tg, iter, ifs, 0⟩] scope pos) spos) (tAsg (tDc wi g tt tk tv (own.map (·.2))) (gName i)) := by
  refine ⟨fun pins s σ H D I h => ?_⟩
  rw [exec_Assign_Name_used _ _ _ _ hsw]
  refine wpAny_bind (wpAny_standAt (wpAny_bind ?_))
  show wpAny _ X.A (do let _ ← comprehension (.DictComp kx vx [⟨tg, iter, ifs, 0⟩] scope pos) scope X.env (firstIterPos [⟨tg, iter, ifs, 0⟩] pos) newDict false (eval iter X.env) (some (assign (.Name y py) X.env))) _ _ s
  have h : tDc wi g tt tk tv (own.map (·.2)) σ H (fun x H1 => gName i x σ H1 D.nx) := h
  refine wpAny_bind (thn (dc_core (Qf := fun _ s' => SP X pins D .next s') hc hN I hi ok hg ht hk he hs h fun L C s' m H' I' q hn f => ?_) fun _ s' hq => wpAny_pure (wpAny_pure hq))
  show wpAny _ _ (assign (.Name y py) X.env (.ref L)) _ _ _
  refine wpAny_assign_Name (store_ok2 (v := V.ref L) I' hN hy (.inl hyl) rfl (fun s2 I2 ⟨a, sb, ha⟩ => ?_) (.inr hyl))
  obtain ⟨f0, f1, f2, f3, f4, f5⟩ := f
  have haC : C ≠ a := by
    rcases ha with z | z
    · rw [z]; exact f1
    · exact fun e => f4 y a z e.symm
  refine ⟨m, hn.sameBut sb haC, fun h3 sb3 => ?_⟩
  exact ⟨_, H', I2.turned (t' := s2.toks) (fun b o hb e => (sb3.2 b hb).trans e) f0 f1 f3 f4 f5, q⟩
theorem dens_setDc (i : Nat) {y : Str} {kx vx tg iter : Expr} {py pos spos : Pos} {ifs : List Expr} {scope : Scope} (own : List (Str × Nat)) {ts vs : List Nat} {Fi : Mo (List D)} {B : D → DEnv → Option DEnv} {Ft : Mo Bool} {Fk Fv : Mo D} (hc : X.calm = true) (hN : X.N.Nodup) (hy : X.N[i]? = some y) (hyl : X.env.scope.names.lookup y = some .local)
    (hsw : swapsWith (.DictComp kx vx [⟨tg, iter, ifs, 0⟩] scope pos) (some (.Name y py)) spos.line X.env = pure true) (hi : DenI X tg iter Fi) (ok : BlkOk X.N X.env.scope scope own)
    (hg : ∀ (s : Shared) (H : Hp) (C : Addr) (cl : List (Str × Addr)) (fp : List Addr), DenG (X.blk s H scope (compEnvC scope cl C X.env) fp) tg ts B)
    (ht : ∀ (s : Shared) (H : Hp) (C : Addr) (cl : List (Str × Addr)) (fp : List Addr), DenTs (X.blk s H scope (compEnvC scope cl C X.env) fp) ifs Ft)
    (hk : ∀ (s : Shared) (H : Hp) (C : Addr) (cl : List (Str × Addr)) (fp : List Addr), DenE (X.blk s H scope (compEnvC scope cl C X.env) fp) kx Fk)
    (he : ∀ (s : Shared) (H : Hp) (C : Addr) (cl : List (Str × Addr)) (fp : List Addr), DenE (X.blk s H scope (compEnvC scope cl C X.env) fp) vx Fv)
    (hvs : own.map (·.2) = vs := by rfl) (hts : ∀ j ∈ ts, j ∈ vs := by decide) (hs : ∀ x, foldedSetIterable iter X.env x = pure x := by intro _; rfl) :
    DenS X (.Assign [.Name y py] (.DictComp kx vx [⟨tg, iter, ifs, 0⟩] scope pos) spos) (sSet i (mDc Fi B Ft Fk Fv vs)) := by
  obtain ⟨wi, i1, i2⟩ := hi
  subst hvs
  have base := ps_setDc hc hN hy hyl hsw i1 ok (fun s H C cl fp => (hg s H C cl fp).pe) (fun s H C cl fp => (ht s H C cl fp).pe) (fun s H C cl fp => (hk s H C cl fp).pe) (fun s H C cl fp => (he s H C cl fp).pe) hs
  refine ⟨_, base, fun P b σ env G H r rr h Dd q => ?_⟩
  unfold sSet at h
  split at h
  · rename_i d e1 hd
    cases h
    refine dc_run i2 (fun P b σ env G H v d env' r rv hB Q q => cG_run r rv hB Q q) (fun P b σ env G H d env' r hF Q q => cTs_run r hF Q q) (fun P b σ env G H d env' r hF Q q => cE_run r hF Q q) (fun P b σ env G H d env' r hF Q q => cE_run r hF Q q) hts rr hd _ fun p ks xs G' H' ds g r hP hg hh hl ra hout => ?_
    subst hout
    have hgx : Ex G' (upd G' p (.dK (ks.zip xs))) := Ex.new hg
    have r2 : Rep P b (upd G' p (.dK (ks.zip xs))) H' σ e1 := by
      refine r.keep hgx (fun a o ha => ?_) (fun a ha => (r.fresh a ha).1) fun a h1 h2 h3 => ⟨h1.1, ?_, fun _ e => e⟩
      · by_cases hap : a = p
        · subst hap
          rw [upd_same] at ha
          rw [hh, ← ha]
        · rw [upd_ne hap] at ha
          exact r.sub a o ha
      · rw [upd_ne h1.2]
        exact h2
    exact q _ _ H' ⟨g.g.trans hgx, g.h, fun a ha hn => by
      rw [upd_ne (fun z => ha (by rw [z]; exact hP))]
      exact g.n a ha hn⟩ (r2.set (.dK upd_same hl (ra.mono hgx)))
  · cases h
end
end Dn
namespace Dn
open PySem PySem.Spec PyProof.Rows L2
open Evl (Ex fresh_back)
section
variable {P : Program} {w : World} {K : PySem.W.Frag} {mg : Str → Option Value} {base : Heap}
theorem fnOk_of {x qual : Str} {st : Stmt} {f : Addr} {fd : FuncData} {N ps : List Str} {k : Nat} {B : So} (F : Fun K x qual st f fd) (S : FnScope N ps (defScope st))
    (body : ∀ (cdv : Value) (A : Around) (outer : List Env) (s : Shared) (H : Hp) (E : XK), Room k (A.deeper (envOfC qual (defScope st) s.heap.objs.size f cdv)) → DenSs (cxOf CX0 P w K mg base N qual (defScope st) f cdv A outer s H E).nox (defBody st) B) :
    FnOk P w K mg base CX0 (k + 1) f fd ps (spF ps.length (fun ds => outF (B (envOf N ds)))) := by
  refine F.ok S (fun vs H Q E h => ?_) fun cdv A outer s H vs Q E hr h => ?_
  · obtain ⟨G, ds, d, _, r, hl, _⟩ := h
    rw [r.length, hl]
  · obtain ⟨G, ds, d, hs, r, hl, hF, q⟩ := h
    obtain ⟨t, h1, h2⟩ := body cdv A outer s H E hr
    refine ⟨t, h1, ?_⟩
    have rep : Rep (fun a => H a = none) (fun _ => 0) G H (L2.start N vs) (envOf N ds) := start_rep hs (fun _ h => h) r
    have pu : ∀ {σ' : L2.St} {env' : DEnv} {G' H' : Hp}, Gr (fun a => H a = none) G H G' H' → Rep (fun a => H a = none) (fun _ => 0) G' H' σ' env' → Pu G H G' H' := fun g r => ⟨g.g, fun a o e => g.h a o e (some_ne e), r.sub, fun a h n => g.n a h n⟩
    cases hB : B (envOf N ds) with
    | none => simp only [hB] at hF; cases hF
    | some r1 =>
      simp only [hB] at hF
      refine h2 _ (fun _ => 0) _ _ G H r1 rep hB _ ?_
      cases r1 with
      | nx e1 =>
        cases hF
        exact fun σ' G' H' g r' => q _ G' H' (pu g r') .non
      | rt d' e1 =>
        cases hF
        exact fun v σ' G' H' g r' p => q v G' H' (pu g r') p
      | bk e1 => cases hF
      | ct e1 => cases hF
end
/-- a, b = .. -/
def sTup (m : Mo D) (t : D → DEnv → Option DEnv) : So := fun env => match m env with | some (d, e1) => (t d e1).map .nx | none => none
end Dn
set_option maxHeartbeats 1000000
namespace Dn
open PySem PySem.Spec PyProof.Rows L2
section
variable {X : Cx} {a b c e : Expr} {pos : Pos} {ta tb tc te : TE}
def tChain3 (r r' r2 : R2) (ta tb tc te : TE) : TE := fun σ H Q => ta σ H fun x H1 => tb σ H1 fun y H2 => r x y H2 fun z H3 => ∃ k, z = .bl k ∧
  (if k = true then tc σ H3 fun w' H4 => r' y w' H4 fun z2 H5 => ∃ k2, z2 = .bl k2 ∧ (if k2 = true then te σ H5 fun v2 H6 => r2 w' v2 H6 Q else Q (.bl false) H5) else Q (.bl false) H3)
theorem pe_chain3 {op op' op2 : CmpOp} {r r' r2 : R2} (ho : OpR X (compareOp op) r) (ho' : OpR X (compareOp op') r') (ho2 : OpR X (compareOp op2) r2) (ha : PE X a ta) (hb : PE X b tb) (hc : PE X c tc) (he : PE X e te)
    (hm : lastMarks [op, op', op2] [b, c, e] = false := by with_unfolding_all rfl) : PE X (.Compare a [op, op', op2] [b, c, e] pos) (tChain3 r r' r2 ta tb tc te) := by
  refine ⟨fun pins s σ H Q I h => ?_⟩
  refine Compare_chain (thn (ha.run pins s σ H _ I h) fun v s1 ⟨x, H1, I1, r1, q1⟩ => chain_link (thn (hb.run pins s1 σ H1 _ I1 q1) fun u s2 ⟨y, H2, I2, r2', q2⟩ =>
    thn (ho pins s2 σ H2 x y v u _ I2 r1 r2' q2) fun d s3 ⟨z, H3, I3, r3, k, e, q3⟩ => ?_)) hm
  subst e
  cases r3
  refine wpAny_truthy_bool ?_
  cases k with
  | false => exact ite_ff ⟨.bl false, H3, I3, rfl, q3⟩
  | true =>
    refine ite_tt (chain_link (thn (hc.run pins s3 σ H3 _ I3 q3) fun w' s4 ⟨z', H4, I4, r4, q4⟩ => thn (ho' pins s4 σ H4 y z' u w' _ I4 r2' r4 q4) fun d' s5 ⟨z2, H5, I5, r5, k2, e2, q5⟩ => ?_))
    subst e2
    cases r5
    refine wpAny_truthy_bool ?_
    cases k2 with
    | false => exact ite_ff ⟨.bl false, H5, I5, rfl, q5⟩
    | true => exact ite_tt (chain_last (thn (he.run pins s5 σ H5 _ I5 q5) fun w2 s6 ⟨z3, H6, I6, r6, q6⟩ => ho2 pins s6 σ H6 z' z3 w' w2 Q I6 r4 r6 q6))
def mChain3 (g g' g2 : D → D → Option D) (m n l o : Mo D) : Mo D := mBind m fun x => mBind n fun y => mBind (mMap gB (mLift (g x y))) fun k => if k = true then mBind l fun z => mBind (mMap gB (mLift (g' y z))) fun k2 => if k2 = true then mBind o fun w => mMap (fun k => some (.bool k)) (mMap gB (mLift (g2 z w))) else mRet (.bool false) else mRet (.bool false)
theorem dene_chain3 {op op' op2 : CmpOp} {g g' g2 : D → D → Option D} {F F' F'' F3 : Mo D} (ho : OpD X (compareOp op) g) (ho' : OpD X (compareOp op') g') (ho2 : OpD X (compareOp op2) g2) (ha : DenE X a F) (hb : DenE X b F') (hc : DenE X c F'') (he : DenE X e F3)
    (hm : lastMarks [op, op', op2] [b, c, e] = false := by with_unfolding_all rfl) : DenE X (.Compare a [op, op', op2] [b, c, e] pos) (mChain3 g g' g2 F F' F'' F3) := by
  obtain ⟨t, h1, h2⟩ := ha
  obtain ⟨u, k1, k2⟩ := hb
  obtain ⟨v, l1, l2⟩ := hc
  obtain ⟨w, m1, m2⟩ := he
  obtain ⟨r, o1, o2⟩ := ho
  obtain ⟨r', o1', o2'⟩ := ho'
  obtain ⟨r2, p1, p2⟩ := ho2
  refine ⟨_, pe_chain3 o1 o1' p1 h1 k1 l1 m1 hm, fun P b σ env G H d env' rr h Q q => ?_⟩
  obtain ⟨x, e1, hx, h⟩ := mBind_some h
  obtain ⟨y, e2, hy, h⟩ := mBind_some h
  obtain ⟨k, e3, hk, h⟩ := mBind_some h
  obtain ⟨kd, hk1, hk2⟩ := mMap_some hk
  obtain ⟨hg, rfl⟩ := mLift_some hk1
  have hk3 := gB_some hk2
  subst hk3
  refine two h2 k2 rr hx hy fun v w G' H' gr r' p1 p2' => o2 G' H' v w x y _ r'.sub p1 p2' hg _ fun z G2 H2 pu pz => ⟨k, pz.inv_bl, ?_⟩
  have R2 := r'.pu pu
  have g2' := gr.trans (pu.gr r'.fresh)
  cases k with
  | true =>
    rw [if_pos rfl] at h ⊢
    obtain ⟨z', e5, hz', h⟩ := mBind_some h
    obtain ⟨k2', e6, hk', h⟩ := mBind_some h
    obtain ⟨kd, hk4, hk5⟩ := mMap_some hk'
    obtain ⟨hg', rfl⟩ := mLift_some hk4
    have hk6 := gB_some hk5
    subst hk6
    refine l2 P b σ _ G2 H2 z' _ R2 hz' _ fun v3 G3 H3 g3 R3 p3 => o2' G3 H3 w v3 y z' _ R3.sub ((p2'.mono pu.g).mono g3.g) p3 hg' _ fun z4 G4 H4 pu4 pz4 => ⟨k2', pz4.inv_bl, ?_⟩
    have R4 := R3.pu pu4
    have g4 := (g2'.trans g3).trans (pu4.gr R3.fresh)
    cases k2' with
    | true =>
      rw [if_pos rfl] at h ⊢
      obtain ⟨z5, e7, hz5, h⟩ := mBind_some h
      obtain ⟨kd, h7, h8⟩ := mMap_some h
      obtain ⟨kd2, h9, h10⟩ := mMap_some h7
      obtain ⟨hg2, rfl⟩ := mLift_some h9
      have h11 := gB_some h10
      subst h11
      cases h8
      exact m2 P b σ _ G4 H4 z5 _ R4 hz5 _ fun v6 G6 H6 g6 R6 p6 => p2 G6 H6 v3 v6 z' z5 _ R6.sub ((p3.mono pu4.g).mono g6.g) p6 hg2 _ fun z7 G7 H7 pu7 pz7 => q z7 G7 H7 ((g4.trans g6).trans (pu7.gr R6.fresh)) (R6.pu pu7) pz7
    | false =>
      rw [if_neg (by decide)] at h ⊢
      obtain ⟨rfl, rfl⟩ := mRet_some h
      exact q _ G4 H4 g4 R4 (.bl _)
  | false =>
    rw [if_neg (by decide)] at h ⊢
    obtain ⟨rfl, rfl⟩ := mRet_some h
    exact q _ G2 H2 g2' R2 (.bl _)
end
end Dn
set_option maxHeartbeats 1000000
namespace Dn
open PySem PySem.Spec PyProof.Rows L2
/-- while, so many turns at most -/
def whileGo (c : Mo Bool) (body : So) : Nat → DEnv → Option Fl
  | 0, _ => none
  | n + 1, e =>
    match c e with
    | none => none
    | some (false, e1) => some (.nx e1)
    | some (true, e1) =>
      match body e1 with
      | none => none
      | some (.nx e2) => whileGo c body n e2
      | some (.ct e2) => whileGo c body n e2
      | some (.bk e2) => some (.nx e2)
      | some (.rt d e2) => some (.rt d e2)
def sWhile (c : Mo Bool) (body : So) : So := whileGo c body 1000000
section
variable {X : Cx} {c : Expr} {pos : Pos} {body : List Stmt}
def gDivB : D → D → Option D := gInt fun i j => if 0 < j ∧ j.natAbs < 2 ^ 4000 then some (i / j) else none
theorem opD_divB : OpD X (binaryOp .FloorDiv) gDivB := opD_int op_fdivW fun i j z h => by
  split at h
  · rename_i hc
    cases h
    refine ⟨⟨hc.1, ?_⟩, rfl⟩
    have hj : j.natAbs ≠ 0 := by omega
    have := (Nat.log2_lt hj).mpr hc.2
    omega
  · cases h
end
end Dn
set_option maxHeartbeats 4000000
namespace Dn
open PySem PySem.Spec PyProof.Rows L2 PySem.W PySem.Calls
open Evl (Ex fresh_back)
theorem paired_snoc {α β : Type} {F : α → β → Prop} {l : List α} {m : List β} (r : Paired F l m) {x : α} {y : β} (h : F x y) : Paired F (l ++ [x]) (m ++ [y]) := by
  induction r with
  | nil => exact .cons h .nil
  | cons h1 t ih => exact .cons h1 ih
section
variable {X : Cx} {pins : List (Addr × Obj)} {σ : L2.St} {H : Hp} {s : Shared} {a : Addr} {A : Around} {E : Value → Shared → Prop}
end
end Dn
set_option maxHeartbeats 4000000
namespace Dn
open PySem PySem.Spec PyProof.Rows L2 PySem.W PySem.Calls
open Evl (Ex fresh_back)
abbrev tI (k : List Int) : D := .tuple (k.map PyData.int)
/-- a key, a tuple of ints -/
def keyInts : D → Option (List Int)
  | .tuple ds => intsOf ds
  | _ => none
theorem ints_rp {G : Hp} : ∀ {k : List Int} {vs : List V}, RpAll G vs (k.map PyData.int) → vs = k.map V.int
  | [], _, .nil => rfl
  | i :: k, _, .cons r rs => by
    rw [List.map_cons, ← ints_rp rs]
    congr 1
    exact r.inv_int
section
variable {P : Addr → Prop} {bs : Bs} {G H : Hp} {σ : L2.St} {env : DEnv} {N : Addr → Prop}
end
section
variable {X : Cx} {x : Str} {e k o : Expr} {pos pos' : Pos} {td ty tv : TE}
end
end Dn
set_option maxHeartbeats 4000000
namespace Dn
open PySem PySem.Spec PyProof.Rows L2 PySem.W PySem.Calls
open Evl (Ex fresh_back)
section
variable {P : Program} {w : World} {A : Around} {s : Shared} {E : Value → Shared → Prop}
end
section
variable {X : Cx}
end
theorem rp_keys {G : Hp} : ∀ (L : List (Addr × List Int)), (∀ q ∈ L, TupS G q.1 (q.2.map V.int)) → RpAll G (L.map fun q => V.ref q.1) (L.map fun q => tI q.2)
  | [], _ => .nil
  | q :: L, h => .cons (.tup (h q (by simp)) (RpAll.ofInts q.2)) (rp_keys L fun r hr => h r (by simp [hr]))
section
variable {X : Cx}
end
end Dn
set_option maxHeartbeats 4000000
namespace Dn
open PySem PySem.Spec PyProof.Rows L2
open Evl (Ex fresh_back)
/-- how often a number stands among numbers and None -/
def cntD (k : Int) : List D → Option Nat
  | [] => some 0
  | .none :: r => cntD k r
  | .int i :: r => (cntD k r).map fun n => if i = k then n + 1 else n
  | _ => none
def gCnt : D → D → Option D
  | .tuple xs, .int k => (cntD k xs).map fun n => .int n
  | _, _ => none
theorem cntD_eqv {k : Int} : ∀ {xs : List D} {n : Nat}, cntD k xs = some n → PyData.plainAll xs = true ∧ PyData.canLayAll0 xs = true ∧ (xs.countP fun y => PyData.eqv y (.int k)) = n
  | [], n, h => by cases h; exact ⟨rfl, rfl, rfl⟩
  | .none :: r, n, h => by
    obtain ⟨h1, h2, h3⟩ := cntD_eqv (xs := r) (n := n) h
    refine ⟨by simpa [PyData.plainAll, PyData.plain] using h1, by simpa [PyData.canLayAll0, PyData.canLay0] using h2, ?_⟩
    rw [List.countP_cons, h3]
    simp [PyData.eqv]
  | .int i :: r, n, h => by
    unfold cntD at h
    cases w : cntD k r with
    | none => rw [w] at h; cases h
    | some m =>
      rw [w] at h
      cases h
      obtain ⟨h1, h2, h3⟩ := cntD_eqv (xs := r) (n := m) w
      refine ⟨by simpa [PyData.plainAll, PyData.plain] using h1, by simpa [PyData.canLayAll0, PyData.canLay0] using h2, ?_⟩
      rw [List.countP_cons, h3]
      by_cases e : i = k <;> simp [PyData.eqv, e]
  | .bool _ :: _, n, h => by cases h
  | .str _ :: _, n, h => by cases h
  | .list _ :: _, n, h => by cases h
  | .tuple _ :: _, n, h => by cases h
  | .dict _ :: _, n, h => by cases h
section
variable {X : Cx} {o e : Expr} {apos cpos : Pos} {to : TE} {t : TA}
theorem pe_count (ho : PE X o to) (ha : PA X [e] t) (hu : X.A.units + 64 < cLine) (hbase : attributeBase o "count" X.env (eval o X.env) = eval o X.env := by rfl)
    (hline : (apos.endLine == cpos.line) = true := by rfl) (hs : starEach [e] X.env = (false, eval e X.env) :: starEach [] X.env := by rfl) :
    PE X (.Call (.Attribute o "count" apos) [e] [] cpos) (fun σ H Q => to σ H fun x H1 => ∃ (a : Addr) (xs : List V), x = .ref a ∧ TupS H1 a xs ∧
      t σ H1 fun ys H2 => ∃ (k : Int) (ds : List D) (n : Nat), ys = [.int k] ∧ TupS H2 a xs ∧ DpAll X.K H2 xs ds ∧ cntD k ds = some n ∧ Q (.int n) H2) := by
  refine ⟨fun pins s σ H Q I h => wpAny_Call_method1_late (e := e) hbase hline (by rw [hs]; rfl) (thn (ho.run pins s σ H _ I h) fun v s1 hx => ?_)⟩
  obtain ⟨x, H1, I1, r1, a, xs, rfl, ⟨ob, hd, hH⟩, q1⟩ := hx
  cases r1
  obtain ⟨hg, hk⟩ : s1.heap.get? a = some ob ∧ ObjOk X.prog X.w H1 s1.heap a (.tup xs) := I1.hok a _ hH
  obtain ⟨_, its, _, ht⟩ := hk
  refine ⟨"tuple", "tuple.count", PySem.F.plainAttrs_tuple, PySem.F.slot_tuple_count, PySem.F.type_tuple_count, ht.typeIs, fun b e => by cases e; exact ⟨ob, hg, hd⟩, ?_⟩
  have hA := ha.run cpos pins s1 σ H1 _ I1 q1
  rw [hs] at hA
  refine Calls.callWith_builtin rfl (Calls.evalArgs_plain (thn hA fun us s2 hy => ?_))
  obtain ⟨vs, H2, I2, r2, k, ds, n, rfl, ht2, hdp, hc, q2⟩ := hy
  obtain ⟨u, rfl, ru⟩ := r2.one
  obtain ⟨tk, rfl⟩ := ru
  obtain ⟨its2, rv2, p2, _⟩ := I2.tuple (ht2.sq (Ex.refl H2))
  obtain ⟨as, rs⟩ := Dp.readsAll I2 ds xs its2 hdp rv2
  obtain ⟨c1, c2, c3⟩ := cntD_eqv hc
  refine SeqAt.count_tuple_data (vs := its2.toArray) (xs := ds) (d := .int k) p2 (by simpa using rs) (Reads.int k tk) c1 rfl ?_ ?_
  · have : min (PyData.depthAll ds) (PyData.int k).depth ≤ (PyData.int k).depth := Nat.min_le_right _ _
    have h2 : (PyData.int k).depth = 0 := rfl
    omega
  · rw [c3]
    exact ⟨.int n, H2, I2.tok _, ⟨s2.toks, rfl⟩, q2⟩
theorem den_count {F F' : Mo D} (h : DenE X o F) (ha : DenE X e F') (hu : X.A.units + 64 < cLine) (hbase : attributeBase o "count" X.env (eval o X.env) = eval o X.env := by rfl)
    (hline : (apos.endLine == cpos.line) = true := by rfl) (hs : starEach [e] X.env = (false, eval e X.env) :: starEach [] X.env := by rfl) : DenE X (.Call (.Attribute o "count" apos) [e] [] cpos) (mBin gCnt F F') := by
  obtain ⟨to, h1, h2⟩ := h
  obtain ⟨te, k1, k2⟩ := ha
  refine ⟨_, pe_count h1 (pa_cons k1 pa_nil hs) hu hbase hline hs, fun P b σ env G H d env' rr h Q q => ?_⟩
  obtain ⟨x, e1, hx, h⟩ := mBind_some h
  obtain ⟨y, e2, hy, h⟩ := mBind_some h
  obtain ⟨hg, rfl⟩ := mLift_some h
  refine h2 P b σ env G H x e1 rr hx _ fun v G1 H1 g1 r1 p1 => ?_
  unfold gCnt at hg
  clear h
  split at hg
  · rename_i xs k
    cases w : cntD k xs with
    | none => rw [w] at hg; cases hg
    | some n =>
      rw [w] at hg
      cases hg
      obtain ⟨a, vs, rfl, ha, ra⟩ := p1.inv_tup
      refine ⟨a, vs, rfl, ha.mono r1.sub, k2 P b σ e1 G1 H1 _ _ r1 hy _ fun w' G2 H2 g2 r2 p2 => ?_⟩
      exact ⟨k, xs, n, by rw [p2.inv_int], (ha.mono g2.g).mono r2.sub, (ra.mono g2.g).dp r2.sub (cntD_eqv w).2.1, w, q _ G2 H2 (g1.trans g2) r2 (.int _)⟩
  · cases hg
end
end Dn
set_option maxHeartbeats 4000000
namespace Dn
open PySem PySem.Spec PyProof.Rows L2 PySem.W PySem.Calls
open Evl (Ex fresh_back)
section
variable {P : Program} {w : World} {A : Around} {s : Shared} {E : Value → Shared → Prop}
/-- a tuple's things, collected -/
theorem tup_collect {l : Addr} {us : List Value} {R : List Value → Shared → Prop} (ht : s.heap.IsTuple l us.toArray) (hz : us.length ≤ sizeLine)
    (fin : ∀ hp : Heap, (∀ b u, s.heap.get? b = some u → hp.get? b = some u) → s.heap.objs.size < hp.objs.size → R us { s with heap := hp }) : wpAny (model P w) A (collect (.ref l)) R E s := by
  obtain ⟨ob, ho, hc, k, hd⟩ := id ht
  obtain ⟨g, hg⟩ : ∃ g, s.heap.push (seqObj "list" #[] 0) = g := ⟨_, rfl⟩
  have gS : g.get? s.heap.objs.size = some (seqObj "list" #[] 0) := by rw [← hg]; exact Heap.get?_push_size _ rfl
  have gl : g.get? l = some ob := by rw [← hg]; exact Heap.get?_push_of_some _ ho
  have tT : ((Value.type "tuple" == Value.type "list") || (Value.type "tuple" == Value.type "tuple")) = true := by decide
  unfold collect
  refine wpAny_bind (wpAny_runValue (codeAny_builtin entry_proto_collect' ?_))
  show wpAny _ _ (newList [] >>= fun r => again (.builtin "list.__iadd__" ⟨[r, .ref l], []⟩)) _ _ s
  refine wpAny_bind (wpAny_newList (wpAny_pure (And.intro (Code.quiet_builtin _ (by decide +kernel)) (codeAny_builtin entry_list_iadd' ?_))))
  show wpAny _ _ (Builtin.List.listExtendWith (.ref s.heap.objs.size) (.ref l) (.ref s.heap.objs.size)) _ _ { s with heap := s.heap.push (seqObj "list" #[] 0) }
  rw [hg]
  unfold Builtin.List.listExtendWith
  refine wpAny_bind (wpAny_typeOf (s := { s with heap := g }) (T := "tuple") ⟨ob, gl, hc⟩ ?_)
  rw [if_pos (by rw [Bool.or_assoc, tT, Bool.or_true])]
  refine wpAny_bind (listItems_at (s := { s with heap := g }) gl hd ?_)
  refine wpAny_bind (listItems_at (s := { s with heap := g }) (xs := #[]) (n := 0) gS rfl ?_)
  rw [if_neg (by simp)]
  refine wpAny_bind (listUpdate_at (s := { s with heap := g }) (xs := #[]) (n := 0) gS rfl ?_ (Nat.zero_le _) (by
    rw [Array.size_append]
    simp only [List.size_toArray, List.size_toArray, List.length_nil]
    omega))
  refine wpAny_pure ?_
  show wpAny (model P w) A (load s.heap.objs.size >>= _) R E _
  refine wpAny_bind (wpAny_load (get?_update_seq gS _) ?_)
  refine wpAny_pure ?_
  have e : ((#[] : Array Value) ++ us.toArray).toList = us := by simp
  rw [e]
  refine fin _ (fun b u q => ?_) ?_
  · rw [Heap.get?_update_ne _ _ _ _ (Nat.ne_of_lt (Heap.lt_size q)), ← hg]
    exact Heap.get?_push_of_some _ q
  · rw [Heap.size_update, ← hg, size_push']
    exact Nat.lt_succ_self _
end
section
variable {X : Cx}
end
end Dn
set_option maxHeartbeats 4000000
namespace Dn
open PySem PySem.Spec PyProof.Rows L2 PySem.W PySem.Calls
open Evl (Ex fresh_back)
section
variable {P : Program} {w : World} {A : Around} {s : Shared} {E : Value → Shared → Prop}
end
end Dn
set_option maxHeartbeats 4000000
namespace Dn
open PySem PySem.Spec PyProof.Rows L2 PySem.W PySem.Calls
open Evl (Ex fresh_back)
def rowsInts : List D → Option (List (List Int))
  | [] => some []
  | d :: ds => (keyInts d).bind fun k => (rowsInts ds).map (k :: ·)
theorem keyInts_some {d : D} {k : List Int} (h : keyInts d = some k) : d = tI k := by
  unfold keyInts at h
  split at h
  · rw [intsOf_some h]
  · cases h
theorem rows_ks {G : Hp} : ∀ {vs : List V} {ds : List D} {is : List (List Int)}, RpAll G vs ds → rowsInts ds = some is → ∃ ks : List (Addr × List Int), vs = ks.map (fun p => V.ref p.1) ∧ is = ks.map (·.2) ∧ ∀ p ∈ ks, TupS G p.1 (p.2.map V.int)
  | _, _, is, .nil, h => by cases h; exact ⟨[], rfl, rfl, fun p hp => (by cases hp)⟩
  | _, _, is, .cons (v := v) (vs := vs) (d := d) (ds := ds) rv ra, h => by
    unfold rowsInts at h
    cases w : keyInts d with
    | none => rw [w] at h; cases h
    | some k =>
      cases w2 : rowsInts ds with
      | none => rw [w, w2] at h; cases h
      | some js =>
        rw [w, w2] at h
        cases h
        obtain ⟨ks, e1, e2, e3⟩ := rows_ks ra w2
        have := keyInts_some w
        subst this
        obtain ⟨a, ws, rfl, ha, rc⟩ := rv.inv_tup
        have := ints_rp rc
        subst this
        exact ⟨(a, k) :: ks, by rw [e1]; rfl, by rw [e2]; rfl, fun p hp => by
          rcases List.mem_cons.mp hp with e | e
          · rw [e]; exact ha
          · exact e3 p e⟩
section
variable {X : Cx} {e : Expr}
end
end Dn
set_option maxHeartbeats 4000000
namespace Dn
open PySem PySem.Spec PyProof.Rows L2
open Evl (Ex fresh_back)
section
variable {X : Cx} {e : Expr} {p p1 p2 p3 tp pos : Pos}
end
section
variable {P : Program} {w : World} {K : PySem.W.Frag} {mg : Str → Option Value} {base : Heap}
/-- of a def nothing need be known where it isn't called -/
theorem Fd.zero {x : Str} {st : Stmt} {N ps : List Str} {n : Nat} (d : Df K mg x st ps) (S : FnScope N ps (defScope st)) (hn : ps.length = n) : Fd P w K mg base x 1 n (fun _ => none) := by
  obtain ⟨f, fd, h1, h2, h3⟩ := d.ex
  subst hn
  exact ⟨f, fd, ps, h1, h2.kp, h3, rfl, h2.ok (k := 0) S (fun vs H Q E h => by obtain ⟨G, ds, d, _, r, hl, hF, _⟩ := h; cases hF) fun cdv A outer s H vs Q E hr h => by
    obtain ⟨G, ds, d, _, r, hl, hF, _⟩ := h
    cases hF⟩
end
end Dn
set_option maxHeartbeats 1000000
namespace Dn
open PySem PySem.Spec PyProof.Rows L2
open Evl (Ex)
def gTuL (n : Nat) (Bs : List D → DEnv → Option DEnv) : D → DEnv → Option DEnv
  | .list ds, env => if ds.length = n then Bs ds env else none
  | _, _ => none
theorem ev_tuL {n : Nat} {Bs : List D → DEnv → Option DEnv} {ds : List D} {env e1 : DEnv} (h : ds.length = n) (h2 : Bs ds env = some e1) : gTuL n Bs (.list ds) env = some e1 := (if_pos h).trans h2
end Dn
set_option maxHeartbeats 1000000
namespace Dn
open PySem PySem.Spec PyProof.Rows L2
open Evl (Ex fresh_back)
section
variable {X : Cx} {pos : Pos} {e e2 : Expr} {p p2 cpos : Pos}
end
end Dn
set_option maxHeartbeats 4000000
namespace Dn
open PySem PySem.Spec PyProof.Rows L2 PySem.W PySem.Calls
open Evl (Ex fresh_back)
section
variable {P : Program} {w : World} {A : Around} {s : Shared} {E : Value → Shared → Prop}
end
end Dn
set_option maxHeartbeats 1000000
namespace Dn
open PySem PySem.Spec PyProof.Rows L2
open Evl (Ex fresh_back)
section
variable {X : Cx} {e : Expr}
end
end Dn
set_option maxHeartbeats 1000000
namespace Dn
open PySem PySem.Spec PyProof.Rows L2
open Evl (Ex fresh_back)
section
variable {X : Cx} {pos : Pos}
end
end Dn
set_option maxHeartbeats 1000000
namespace Dn
open PySem PySem.Spec PyProof.Rows L2
open Evl (Ex fresh_back)
end Dn
set_option maxHeartbeats 1000000
namespace Dn
open PySem PySem.Spec PyProof.Rows L2 PySem.W
open Evl (Ex fresh_back)
def gMinDef : D → Option D
  | .list xs => (intsOf xs).map fun ns => match ns with
    | [] => .none
    | y :: ys => .int (minOf y ys)
  | _ => none
def rMinDef (K : PySem.W.Frag) : List V → List V → Hp → VK → Prop := fun vs zs H Q => ∃ (a : Addr) (ns : List Int), vs = [V.ref a] ∧ zs = [V.non] ∧ SqL K H a (ns.map V.int) ∧ (ns = [] → Q .non H) ∧ ∀ y ys, ns = y :: ys → Q (.int (minOf y ys)) H
section
variable {X : Cx}
theorem cr_minDef (hc : X.calm = true) (hu : X.A.units + 64 < cLine) : CallRK X (.builtin "min") [PySem.Str.ofString "default"] (rMinDef X.K) := by
  intro pins s σ H vs zs us ws Q I r rz h
  obtain ⟨a, ns, rfl, rfl, hs, h0, h1⟩ := h
  cases r with
  | cons ra rr =>
    cases rr
    cases ra
    cases rz with
    | cons rb rr2 =>
      cases rr2
      cases rb
      obtain ⟨its, rv, hl, hz⟩ := I.list hs
      have hints := rv.ints
      refine min_list_datum_default (α := Int) (xs := ns) (d := .none) (I.ok.hd hc) hl.isList (HoldAll.of_ints (by simpa using hints)) (by show X.A.units + 1 + 0 < cLine; omega) (fun e h' tk k => ?_) (fun y ys i v h' tk e hi hv k => ?_)
      · exact ⟨.non, H, I.kept (t' := tk) k, rfl, h0 e⟩
      · obtain ⟨as, hr⟩ := hv
        have hr' : Reads h' v (.int (minOf y ys)) as := hr
        cases hr'
        exact ⟨.int (minOf y ys), H, I.kept (t' := tk) k, ⟨_, rfl⟩, h1 y ys e⟩
theorem den_minDef {e e2 : Expr} {p pos kpos : Pos} {F : Mo D} (hc : X.calm = true) (hu : X.A.units + 64 < cLine) (he : DenE X e F) (hk : PE X e2 (tC V.non)) (hg : Gl X "min") (hm : X.mg "min" = none)
    (h1 : backTo pos (starEach [e] X.env) = (false, eval e X.env) :: backTo pos (starEach [] X.env) := by rfl) (hpl : (backTo pos (starEach [e] X.env)).any (·.1) = false := by rfl)
    (hall : (backToKw pos (keywordEach [⟨some "default", e2, kpos⟩] X.env)).all (·.1.isSome) = true := by rfl) (hnone : (backToKw pos (keywordEach [⟨some "default", e2, kpos⟩] X.env)).any (·.1.isNone) = false := by rfl)
    (hks : (backToKw pos (keywordEach [⟨some "default", e2, kpos⟩] X.env)).filterMap (·.1) = [PySem.Str.ofString "default"] := by rfl) (hs : starEach [e] X.env = (false, eval e X.env) :: starEach [] X.env := by rfl) :
    DenE X (.Call (.Name "min" p) [e] [⟨some "default", e2, kpos⟩] pos) (mMap gMinDef F) := by
  obtain ⟨t, k1, k2⟩ := he
  refine ⟨_, pe_callBK (cr_minDef hc hu) hg hm (by decide +kernel) (pa_cons k1 pa_nil hs) (pk_cons hk pk_nil) (by decide) (by decide) h1 hpl hall hnone hks, fun P b σ env G H d env' rr h Q q => ?_⟩
  obtain ⟨z, hz1, hz⟩ := mMap_some h
  refine k2 P b σ env G H z env' rr hz1 _ fun v G1 H1 g1 r1 p1 => ?_
  unfold gMinDef at hz
  split at hz
  · rename_i xs
    cases w : intsOf xs with
    | none => rw [w] at hz; cases hz
    | some ns =>
      rw [w] at hz
      have w' := intsOf_some w
      subst w'
      cases p1 with
      | lst ha ra =>
        rename_i a vs
        have e1 := ra.ints
        subst e1
        refine ⟨a, ns, rfl, rfl, .of (r1.sub _ _ ha), fun e => ?_, fun y ys e => ?_⟩
        · subst e
          cases hz
          exact q _ _ _ g1 r1 .non
        · subst e
          cases hz
          exact q _ _ _ g1 r1 (.int _)
  · cases hz
end
end Dn
set_option maxHeartbeats 1000000
namespace Dn
open PySem PySem.Spec PyProof.Rows L2
open Evl (Ex fresh_back)
def TreeO (P : Addr → Prop) (G H : Hp) (N : Addr → Prop) (k : Nat) (v : V) (d : D) : Prop := (d = .none ∧ v = .non ∧ ∀ a, ¬ N a) ∨ (d ≠ .none ∧ Tree P G H N k v d)
theorem TreeO.n {P : Addr → Prop} {G H : Hp} {N : Addr → Prop} {k : Nat} {v : V} {d : D} (t : TreeO P G H N k v d) : ∀ a, N a → P a ∧ G a = none ∧ H a ≠ none := fun a ha => t.elim (fun t => absurd ha (t.2.2 a)) fun t => t.2.n a ha
def DenNo (X : Cx) (e : Expr) (k : Nat) (F : Mo D) : Prop :=
  ∃ t : TE, PE X e t ∧ ∀ (P : Addr → Prop) (b : Bs) (σ : L2.St) (env : DEnv) (G H : Hp) (d : D) (env' : DEnv), Rep P b G H σ env → F env = some (d, env') →
    ∀ Q : VK, (∀ v G' H' N, Gr P G H G' H' → Rep (fun a => P a ∧ ¬ N a) b G' H' σ env' → TreeO P G' H' N k v d → Q v H') → t σ H Q
theorem OwnR.not_none {L : Lab} {G H : Hp} {k : Nat} {p : List Nat} {v : V} {d : D} (h : OwnR L G H (k + 1) p v d) : d ≠ .none := fun e => by subst e; unfold OwnR at h; exact h
section
variable {X : Cx} {e a b c : Expr} {pos : Pos}
theorem denno_of {k : Nat} {F : Mo D} (h : DenN X e (k + 1) F) : DenNo X e (k + 1) F := by
  obtain ⟨t, h1, h2⟩ := h
  exact ⟨t, h1, fun P b σ env G H d env' rr h Q q => h2 P b σ env G H d env' rr h Q fun v G' H' N g r t => q v G' H' N g r (.inr ⟨by obtain ⟨L, _, o⟩ := t.r; exact o.not_none, t⟩)⟩
theorem denno_non {j k : Nat} : DenNo X (.Constant .none j pos) k (mRet .none) := by
  refine ⟨_, pe_non, fun P b σ env G H d env' rr h Q q => ?_⟩
  obtain ⟨rfl, rfl⟩ := mRet_some h
  exact q .non G H (fun _ => False) Gr.refl (rr.wkP fun a h => ⟨h, id⟩) (.inl ⟨rfl, rfl, fun _ => id⟩)
theorem denno_if {k : Nat} {Fc : Mo Bool} {F F' : Mo D} (hc : DenT X c Fc) (ha : DenNo X a k F) (hb : DenNo X b k F') : DenNo X (.IfExp c a b pos) k (mIf Fc F F') := by
  obtain ⟨t, h1, h2⟩ := hc
  obtain ⟨u, k1, k2⟩ := ha
  obtain ⟨w, l1, l2⟩ := hb
  refine ⟨_, pe_ifExp h1 k1 l1, fun P b σ env G H d env' rr h Q q => ?_⟩
  obtain ⟨k, e1, hk, h⟩ := mBind_some h
  refine h2 P b σ env G H k _ rr hk _ fun G' H' g r => ?_
  cases k with
  | true =>
    rw [if_pos rfl] at h ⊢
    exact k2 P b σ _ G' H' d _ r h _ fun v G2 H2 N g2 r2 t => q v G2 H2 N (g.trans g2) r2 t
  | false =>
    rw [if_neg (by decide)] at h ⊢
    exact l2 P b σ _ G' H' d _ r h _ fun v G2 H2 N g2 r2 t => q v G2 H2 N (g.trans g2) r2 t
theorem denno_frz {k : Nat} {F : Mo D} (h : DenNo X e k F) : DenE X e F := by
  obtain ⟨t, h1, h2⟩ := h
  refine ⟨t, h1, fun P b σ env G H d env' r h Q q => h2 P b σ env G H d env' r h Q fun v G' H' N g r' t => ?_⟩
  rcases t with ⟨rfl, rfl, _⟩ | ⟨_, t⟩
  · exact q _ G' H' g (r'.wkP fun _ h => h.1) .non
  · obtain ⟨G2, e1, e2, n, rv, r2⟩ := r'.know t
    exact q v G2 H' ⟨g.g.trans e1, g.h, fun a ha hn => n a ha (g.n a ha hn)⟩ r2 rv
def DenSsO (X : Cx) (st : List Stmt) (k : Nat) (F : Ro) : Prop :=
  ∃ t : TS, PSs X st t ∧ ∀ (P : Addr → Prop) (b : Bs) (σ : L2.St) (env : DEnv) (G H : Hp) (d : D) (env' : DEnv), Rep P b G H σ env → F env = some (d, env') →
    ∀ Dd : Ends, (∀ v σ' G' H' N, Gr P G H G' H' → Rep (fun a => P a ∧ ¬ N a) b G' H' σ' env' → TreeO P G' H' N k v d → Dd.rt v H') → t Dd σ H
theorem denssO_ret {k : Nat} {F : Mo D} (h : DenNo X e k F) : DenSsO X [.Return (some e) pos] k (rRet F) := by
  obtain ⟨t, h1, h2⟩ := h
  exact ⟨_, pss_one (ps_ret h1), fun P b σ env G H d env' rr hF Dd q => h2 P b σ env G H d env' rr hF _ fun v G' H' N g r t => q v σ G' H' N g r t⟩
theorem denssO_cons {k : Nat} {st : Stmt} {rest : List Stmt} {F : So} {F' : Ro} (h1 : DenS X st F) (h2 : DenSsO X rest k F') : DenSsO X (st :: rest) k (rSeq F F') := by
  obtain ⟨t, h1, h1'⟩ := h1
  obtain ⟨u, k1, k2⟩ := h2
  refine ⟨_, pss_cons h1 k1, fun P b σ env G H d env' rr h Dd q => ?_⟩
  unfold rSeq at h
  split at h
  · rename_i e1 w
    exact h1' P b σ env G H _ rr w { Dd with nx := u Dd } fun σ' G' H' g r' => k2 P b σ' e1 G' H' d env' r' h Dd fun v σ2 G2 H2 N g2 r2 t2 => q v σ2 G2 H2 N (g.trans g2) r2 t2
  · cases h
end
def spO (n k : Nat) (F : List D → Option D) : Sp := fun vs H Q _ => ∃ (G : Hp) (ds : List D) (d : D), Ex G H ∧ RpAll G vs ds ∧ ds.length = n ∧ F ds = some d ∧ ∀ v G' H' N, Pu G H G' H' → TreeO (fun a => H a = none) G' H' N k v d → Q v H'
structure FdO (P : Program) (w : World) (K : PySem.W.Frag) (mg : Str → Option Value) (base : Heap) (x : Str) (j n k : Nat) (F : List D → Option D) : Prop where
  ex : ∃ (f : Addr) (fd : FuncData) (ps : List Str), mg x = some (.ref f) ∧ PySem.W.keepIn K (.ref f) = true ∧ Binds K fd ps [] ∧ ps.length = n ∧ FnOk P w K mg base CX0 j f fd ps (spO n k F)
section
variable {P : Program} {w : World} {K : PySem.W.Frag} {mg : Str → Option Value} {base : Heap}
theorem FdO.mk' {x qual : Str} {st : Stmt} {f : Addr} {fd : FuncData} {N ps : List Str} {j k : Nat} {B : Ro} (F : Fun K x qual st f fd) (S : FnScope N ps (defScope st)) (hg : mg x = some (.ref f)) (hb : Binds K fd ps [])
    (body : ∀ (cdv : Value) (A : Around) (outer : List Env) (s : Shared) (H : Hp) (E : XK), Room j (A.deeper (envOfC qual (defScope st) s.heap.objs.size f cdv)) → DenSsO (cxOf CX0 P w K mg base N qual (defScope st) f cdv A outer s H E).nox (defBody st) k B) :
    FdO P w K mg base x (j + 1) ps.length k (fun ds => outN (B (envOf N ds))) := by
  refine ⟨f, fd, ps, hg, F.kp, hb, rfl, F.ok S (fun vs H Q E h => ?_) fun cdv A outer s H vs Q E hr h => ?_⟩
  · obtain ⟨G, ds, d, _, r, hl, _⟩ := h
    rw [r.length, hl]
  · obtain ⟨G, ds, d, hs, r, hl, hF, q⟩ := h
    obtain ⟨t, h1, h2⟩ := body cdv A outer s H E hr
    refine ⟨t, h1, ?_⟩
    have rep : Rep (fun a => H a = none) (fun _ => 0) G H (L2.start N vs) (envOf N ds) := start_rep hs (fun _ h => h) r
    cases hB : B (envOf N ds) with
    | none => simp only [hB] at hF; cases hF
    | some r1 =>
      obtain ⟨d', e1⟩ := r1
      simp only [hB, outN, Option.map_some] at hF
      cases hF
      refine h2 _ (fun _ => 0) _ _ G H _ e1 rep hB _ fun v σ' G' H' N g r' t => q v G' H' N ⟨g.g, fun a o e => g.h a o e (some_ne e), r'.sub, fun a h n => g.n a h n⟩ t
theorem FdO.of {x : Str} {st : Stmt} {N ps : List Str} {j n k : Nat} {B : Ro} (d : Df K mg x st ps) (S : FnScope N ps (defScope st)) (hn : ps.length = n)
    (body : ∀ (f : Addr) (cdv : Value) (A : Around) (outer : List Env) (s : Shared) (H : Hp) (E : XK), Room j (A.deeper (envOfC x (defScope st) s.heap.objs.size f cdv)) → DenSsO (cxOf CX0 P w K mg base N x (defScope st) f cdv A outer s H E).nox (defBody st) k B) :
    FdO P w K mg base x (j + 1) n k (fun ds => outN (B (envOf N ds))) := by
  obtain ⟨f, fd, h1, h2, h3⟩ := d.ex
  subst hn
  exact FdO.mk' h2 S h1 h3 (body f)
theorem FdO.mono {x : Str} {i j n k : Nat} {F : List D → Option D} (h : FdO P w K mg base x i n k F) (hk : i ≤ j) : FdO P w K mg base x j n k F := by
  obtain ⟨f, fd, ps, h1, h2, h3, h4, h5⟩ := h.ex
  exact ⟨f, fd, ps, h1, h2, h3, h4, h5.mono hk⟩
end
section
variable {X : Cx} {e a b c : Expr} {pos : Pos}
theorem denno_call {x : Str} {j n k : Nat} {p : Pos} {es : List Expr} {F : List D → Option D} {m : Mo (List D)} (h : FdO X.prog X.w X.K X.mg X.base x j n k F) (hr : Room j X.A) (hg : Gl X x) (ha : DenA X (e :: es) m) (hdb : (x == ("__debug__" : Str)) = false := by decide)
    (he : starEach (e :: es) X.env = (false, eval e X.env) :: starEach es X.env := by rfl) (hpl : (backTo pos (starEach es X.env)).any (·.1) = false := by rfl) : DenNo X (.Call (.Name x p) (e :: es) [] pos) k (mMap (lenIs n F) m) := by
  obtain ⟨f, fd, ps, h1, h2, h3, h4, h5⟩ := h.ex
  obtain ⟨t, a1, a2⟩ := ha
  refine ⟨_, pe_call h5 hr hg h1 h2 h3 .nil pass0 a1 hdb he hpl, fun P b σ env G H d env' rr h Q q => ?_⟩
  obtain ⟨ds, hds, hF⟩ := mMap_some h
  unfold lenIs at hF
  split at hF
  · rename_i hl
    refine a2 P b σ env G H _ _ rr hds _ fun vs G' H' g r p => ?_
    show spO n k F (vs ++ []) H' Q _
    rw [List.append_nil]
    refine ⟨G', ds, d, r.sub, p, hl, hF, fun v G2 H2 N pu t => ?_⟩
    have tP : TreeO P G2 H2 N k v d := t.imp id fun t => ⟨t.1, fun a ha => ⟨r.fresh a (t.2.n a ha).1, (t.2.n a ha).2⟩, t.2.r⟩
    refine q v G2 H2 N (g.trans (pu.gr r.fresh)) ?_ tP
    refine r.keep pu.g pu.s (fun a ha => ⟨r.fresh a (fresh_back pu.h ha), fun z => (t.n a z).2.2 ha⟩) fun a h1 h2 h3 => ⟨⟨h1, fun z => h3 (t.n a z).1⟩, pu.n a h3 h2, fun o e => pu.h a o e⟩
  · cases hF
end
section
variable {X : Cx} {e a b c : Expr} {pos : Pos}
theorem denn_revL {F : Mo D} {k : Nat} {p1 p2 p3 : Pos} (h : DenE X e F) : DenN X (.Subscript e (.Slice none none (some (.UnaryOp .USub (.Constant (.int 1) k p1) p2)) p3) pos) 1 (mMap gRevL F) := by
  obtain ⟨t, h1, h2⟩ := h
  refine ⟨_, pe_revL h1, fun P b σ env G H d env' rr h Q q => ?_⟩
  obtain ⟨z, hk, hz⟩ := mMap_some h
  refine h2 P b σ env G H z env' rr hk _ fun v G1 H1 g1 r1 p1 => ?_
  cases p1 with
  | lst ha ra =>
    rename_i a xs ds
    cases hz
    refine ⟨a, xs, rfl, .of (r1.sub _ _ ha), fun y hy => ?_⟩
    have hPy := r1.fresh y hy
    exact q (.ref y) G1 (upd H1 y (.lst xs.reverse)) (fun a => a = y) ⟨g1.g, fun a o ha n => by
      rw [upd_ne (show a ≠ y from fun z => n (by rw [z]; exact hPy))]
      exact g1.h a o ha n, g1.n⟩ (r1.newH hy) (Tree.one hPy (fresh_back r1.sub hy) upd_same ra.reverse)
  | _ => cases hz
def rFrz (i : Nat) (F : Ro) : Ro := fun env =>
  match env[i]? with
  | some (some (SV.ow _ _ d)) => F (env.set i (some (.fz d)))
  | _ => none
theorem denssN_frz (i : Nat) {k : Nat} {st : List Stmt} {F : Ro} (h : DenSsN X st k F) : DenSsN X st k (rFrz i F) := by
  obtain ⟨t, h1, h2⟩ := h
  refine ⟨_, h1, fun P b σ env G H d env' rr h Dd q => ?_⟩
  unfold rFrz at h
  split at h
  · rename_i io k d hd
    obtain ⟨G', g, s, n, r'⟩ := rr.ownKnow hd
    exact h2 P b σ _ G' H _ env' r' h Dd fun v σ' G2 H2 N g2 r2 t => q v σ' G2 H2 N (Gr.trans ⟨g, fun _ _ h _ => h, n⟩ g2) r2 t
  · cases h
end
theorem ev_rret {m : Mo D} {env e1 : DEnv} {d : D} (h : m env = some (d, e1)) : rRet m env = some (d, e1) := h
theorem ev_rseq {F : So} {F' : Ro} {env e1 : DEnv} {r : D × DEnv} (h : F env = some (.nx e1)) (h2 : F' e1 = some r) : rSeq F F' env = some r := by
  unfold rSeq
  simp only [h, h2]
theorem ev_rif {c : Mo Bool} {F F' : Ro} {env e1 : DEnv} {k : Bool} {r : D × DEnv} (h : c env = some (k, e1)) (h2 : (if k = true then F e1 else F' e1) = some r) : rIf c F F' env = some r := by
  unfold rIf
  simp only [h, h2]
theorem ev_rfrz {i k : Nat} {io : Bool} {d : D} {F : Ro} {env e1 : DEnv} {r : D × DEnv} (h : env[i]? = some (some (SV.ow io k d))) (h1 : env.set i (some (.fz d)) = e1) (h2 : F e1 = some r) : rFrz i F env = some r := by
  unfold rFrz
  simp only [h, h1, h2]
end Dn
set_option maxHeartbeats 1000000
namespace Dn
open PySem PySem.Spec PyProof.Rows L2
open Evl (Ex fresh_back)
section
variable {X : Cx} {a b : Expr} {pos : Pos}
end
end Dn
set_option maxHeartbeats 4000000
namespace Dn
open PySem PySem.Spec PyProof.Rows L2 PySem.W PySem.Calls
open Evl (Ex fresh_back)
section
variable {X : Cx} {pins : List (Addr × Obj)} {σ : L2.St} {H : Hp} {s : Shared} {a : Addr} {o : Obj} {rows : List XRow}
end
section
variable {X : Cx} {tg e : Expr} {td : TE}
end
end Dn
set_option maxHeartbeats 4000000
namespace Dn
open PySem PySem.Spec PyProof.Rows L2 PySem.W PySem.Calls
open Evl (Ex fresh_back)
section
variable {X : Cx} {pins : List (Addr × Obj)} {σ : L2.St} {H : Hp} {s : Shared} {a : Addr} {o : Obj} {rows : List XRow}
end
section
variable {X : Cx} {o i e f : Expr} {pos apos cpos : Pos} {td ty tx tk tv : TE}
end
end Dn
set_option maxHeartbeats 4000000
namespace Dn
open PySem PySem.Spec PyProof.Rows L2 PySem.W PySem.Calls
open Evl (Ex fresh_back)
section
variable {X : Cx} {e f a b k : Expr} {pos apos cpos p1 p2 : Pos} {x : Str}
end
section
variable {X : Cx}
end
end Dn
set_option maxHeartbeats 4000000
namespace Dn
open PySem PySem.Spec PyProof.Rows L2 PySem.W PySem.Calls
open Evl (Ex fresh_back)
section
variable {X : Cx}
end
end Dn
set_option maxHeartbeats 4000000
namespace Dn
open PySem PySem.Spec PyProof.Rows L2 PySem.W
open Evl (Ex fresh_back)
def minT (y : List Int) (ys : List (List Int)) : List Int := (minOf (Tup.mk y) (ys.map Tup.mk)).items
def gMinTs : List D → Option D
  | [.list xs] => (rowsInts xs).bind fun ks => match ks with
    | [] => none
    | y :: ys => some (tI (minT y ys))
  | _ => none
def rMinTs (K : PySem.W.Frag) : List V → Hp → VK → Prop := fun vs H Q => ∃ (a : Addr) (p : Addr × List Int) (ps : List (Addr × List Int)), vs = [V.ref a] ∧ SqL K H a ((p :: ps).map fun p => V.ref p.1) ∧ (∀ q ∈ p :: ps, SqT K H q.1 (q.2.map V.int)) ∧
  ∀ q ∈ p :: ps, q.2 = minT p.2 (ps.map (·.2)) → Q (.ref q.1) H
theorem intsAre_det : ∀ {vs : List Value} {a b : List Int}, IntsAre vs a → IntsAre vs b → a = b
  | [], _, _, ha, hb => by
    cases ha
    cases hb
    rfl
  | v :: vs, _, _, ha, hb => by
    cases ha with
    | cons n t ha =>
      cases hb with
      | cons _ _ hb => rw [intsAre_det ha hb]
section
variable {X : Cx}
theorem cr_minTs (hc : X.calm = true) (hu : X.A.units + 64 < cLine) : CallR X (.builtin "min") (rMinTs X.K) := by
  intro pins s σ H vs us Q I r h
  obtain ⟨a, p, ps, rfl, hs, hk, q⟩ := h
  rw [Vals.ref1 r]
  obtain ⟨its, rv, hl, hz⟩ := I.list hs
  have eits := refs_of_vals rv
  subst eits
  have hall : ∀ L : List (Addr × List Int), (∀ q ∈ L, q ∈ p :: ps) → HoldAll s.heap (L.map fun q => Value.ref q.1) (L.map fun q => Tup.mk q.2) := by
    intro L
    induction L with
    | nil => intro _; exact HoldAll.nil
    | cons q L ih =>
      intro hL
      obtain ⟨its, rv', pt, _⟩ := I.tuple (hk q (hL q (by simp)))
      exact HoldAll.cons (holds_tup pt (HoldAll.of_ints (by simpa using rv'.ints))) (ih fun x hx => hL x (by simp [hx]))
  have hA := hall (p :: ps) fun q hq => hq
  refine min_list_datum (α := Tup Int) (x := Tup.mk p.2) (xs := ps.map fun q => Tup.mk q.2) (I.ok.hd hc) hl.isList (by simpa using hA) (by show X.A.units + 1 + 1 < cLine; omega) (fun i v h' tk hi hv k => ?_)
  have hi' : ((p :: ps).map fun q => Value.ref q.1)[i]? = some v := by simpa using hi
  obtain ⟨x, hx, Hx⟩ := hA.at hi'
  rw [List.getElem?_map] at hi' hx
  cases e : (p :: ps)[i]? with
  | none => rw [e] at hi'; cases hi'
  | some z =>
    rw [e] at hi' hx
    cases hi'
    cases hx
    obtain ⟨l1, v1, e1, t1, w1⟩ := tup_of_holds (Hx.keeps k)
    obtain ⟨l2, v2, e2, t2, w2⟩ := tup_of_holds hv
    cases e1
    cases e2
    have ev : v1 = v2 := by
      obtain ⟨o1, g1, _, k1, d1⟩ := t1
      obtain ⟨o2, g2, _, k2, d2⟩ := t2
      rw [g1] at g2
      cases g2
      rw [d1] at d2
      cases d2
      rfl
    subst ev
    have ez : z.2 = minT p.2 (ps.map (·.2)) := by
      have := intsAre_det w1.toInts w2.toInts
      unfold minT
      rw [List.map_map]
      exact this
    exact ⟨.ref z.1, H, I.kept (t' := tk) k, rfl, q z (List.mem_of_getElem? e) ez⟩
theorem callD_minTs (hc : X.calm = true) (hu : X.A.units + 64 < cLine) : CallD X (.builtin "min") gMinTs := by
  refine ⟨_, cr_minTs hc hu, fun G H vs ds z s r hg Q q => ?_⟩
  unfold gMinTs at hg
  split at hg
  · rename_i xs
    cases w : rowsInts xs with
    | none => rw [w] at hg; cases hg
    | some is =>
      simp only [w, Option.bind_some] at hg
      obtain ⟨v, rfl, h⟩ := r.inv1
      obtain ⟨a, ws, rfl, ha, ra⟩ := h.inv_list
      obtain ⟨ks, e1, e2, e3⟩ := rows_ks ra w
      subst e1 e2
      cases ks with
      | nil => cases hg
      | cons p ps =>
        cases hg
        refine ⟨a, p, ps, rfl, .of (s _ _ ha), fun q hq => (e3 q hq).sq s, fun x hx hm => ?_⟩
        have hm' : x.2 = minT p.2 (ps.map (·.2)) := hm
        have rk := rp_keys [x] fun y hy => by
          rw [List.mem_singleton] at hy
          subst hy
          exact e3 y hx
        cases rk with
        | cons rd _ =>
          have rd' : Rp G (V.ref x.1) (tI x.2) := rd
          rw [hm'] at rd'
          exact q _ G H (Pu.refl s) rd'
  · cases hg
end
end Dn
set_option maxHeartbeats 4000000
namespace Dn
open PySem PySem.Spec PyProof.Rows L2 PySem.W PyProof
section
variable {P : Program} {w : World} {A : Around} {s : Shared} {E : Value → Shared → Prop}
theorem inplace_list {l b : Addr} {items items2 : Array Value} {n n2 : Nat} {Q : Value → Shared → Prop} (hl : s.heap.get? l = some { cls := .type "list", dict := none, data := .seq items n, slots := #[] }) (hb : s.heap.get? b = some { cls := .type "list", dict := none, data := .seq items2 n2, slots := #[] })
    (hs0 : ¬(!items.isEmpty && Builtin.List.listTooLong (items.size + items2.size)) = true) (hs1 : items.size ≤ sizeLine) (hs2 : items.size + items2.size ≤ sizeLine + 1)
    (h : Q (.ref l) { s with heap := s.heap.update l (Obj.mapSeq fun x => x ++ items2) }) : wpAny (model P w) A (inplaceOp .Add (.ref l) (.ref b)) Q E s := by
  have ha : s.TypeIs (.ref l) "list" := ⟨_, hl, rfl⟩
  have hb' : s.TypeIs (.ref b) "list" := ⟨_, hb, rfl⟩
  have hlk : typeLookup (.type "list") (dunderI "add") = pure (some (.builtin "list.__iadd__")) := PySem.F.slot_list_iadd.lookup
  have hsq : isSeqSlot (some (Value.builtin "list.__iadd__")) = true := by decide +kernel
  have hfi : fillsInplaceSlot (.type "list") "add" (Operator.Add == .Add) = pure false := by
    unfold fillsInplaceSlot
    show (typeLookup (.type "list") (dunderI "add") >>= fun fi => pure (fi.isSome && !isSeqSlot fi)) = pure false
    rw [hlk]
    rw [pure_bind, hsq]
    rfl
  unfold inplaceOp
  refine wpAny_holding ?_
  refine wpAny_bind (wpAny_typeOf ha (wpAny_bind (wpAny_of_eq hfi ?_)))
  show wpAny _ A (if false = true then _ else _) Q E s
  rw [if_neg Bool.false_ne_true]
  refine wpAny_bind (wpAny_binaryOp1_none (nm := "add") ha hb' noFill_list_add ?_)
  refine wpAny_bind (wpAny_of_eq (PySem.seqSlot_of hlk hsq) ?_)
  exact wpAny_bind (wpAny_rule (call_meets PySem.F.slot_list_iadd ha PySem.F.entry_list_iadd (PySem.F.args_list_iadd_2 _ _) (PySem.AutoSeq1.list___iadd___list_list_0 l items n b items2 n2 hs0 hs1 hs2) ⟨hl, hb, h⟩))
end
/-- x += y, x a list of one's own -/
def rIExt : V → V → Hp → VK → Prop := fun x y H Q => ∃ (l b : Addr) (xs zs : List V), x = .ref l ∧ y = .ref b ∧ H l = some (.lst xs) ∧ H b = some (.lst zs) ∧ xs.length + zs.length ≤ sizeLine ∧ Q (.ref l) (upd H l (.lst (xs ++ zs)))
section
variable {X : Cx}
theorem op_iext : OpR X (inplaceOp .Add) rIExt := by
  intro pins s σ H x y v u Q I rx ry h
  obtain ⟨l, b, xs, zs, rfl, rfl, hH, hB, hz, q⟩ := h
  cases rx
  cases ry
  obtain ⟨z, its, n, r, hl, e⟩ := I.lstM hH
  obtain ⟨z2, its2, n2, r2, hl2, e2⟩ := I.lstM hB
  have hsz : its.toArray.size + its2.toArray.size ≤ sizeLine := by rw [List.size_toArray, List.size_toArray]; omega
  have hlong : ¬ (!its.toArray.isEmpty && Builtin.List.listTooLong (its.toArray.size + its2.toArray.size)) = true := by
    rw [notLongL hsz, Bool.and_false]
    exact Bool.false_ne_true
  refine inplace_list e e2 hlong (by rw [List.size_toArray]; omega) (by omega) ?_
  refine ⟨.ref l, _, I.lset (its' := its ++ its2) hH e (by simp) (r.append r2) ?_, rfl, q⟩
  rw [List.length_append]
  exact hz
def sExt (i : Nat) (m : Mo D) : So := fun env =>
  match ownAt env i with
  | none => none
  | some _ =>
    match m env with
    | some (.list zs, e1) => (match ownAt e1 i with | some (io, ds) => if ds.length + zs.length ≤ 100000 then some (.nx (e1.set i (some (.ow io 0 (.list (ds ++ zs)))))) else none | none => none)
    | _ => none
theorem dens_ext (i : Nat) {e : Expr} {pos pos' : Pos} {x : Str} {F : Mo D} (hN : X.N.Nodup) (hi : X.N[i]? = some x) (hx : Loc X.env.scope x) (he : DenE X e F)
    (hf : X.fn x = true ∨ X.env.scope.names.lookup x = some .local := by first | exact .inl rfl | exact .inr rfl | assumption) : DenS X (.AugAssign (.Name x pos') .Add e pos) (sExt i F) := by
  obtain ⟨t, h1, h2⟩ := he
  refine ⟨_, ps_aug hN hi hx h1 (ti := rIExt) (fun pins s σ H x y v u Q I rx ry q => op_iext pins s σ H x y v u Q I rx ry q) hf, fun P b σ env G H r rr h Dd q => ?_⟩
  unfold sExt at h
  cases w0 : ownAt env i with
  | none => simp only [w0] at h; cases h
  | some ds0 =>
    simp only [w0] at h
    obtain ⟨a, vs0, ha, hh0, _⟩ := rr.own1 (ownAt_some w0)
    split at h
    · rename_i zs e1 w
      cases w2 : ownAt e1 i with
      | none => simp only [w2] at h; cases h
      | some ds =>
        obtain ⟨io, ds⟩ := ds
        simp only [w2] at h
        split at h
        · rename_i hl
          cases h
          refine ⟨.ref a, ha, h2 P b σ env G H _ e1 rr w _ fun v G' H' g r' p => ?_⟩
          obtain ⟨a', vs, ha', hh, ra, fin⟩ := r'.own1 (ownAt_some w2)
          rw [ha] at ha'
          cases ha'
          obtain ⟨c, ws, rfl, hc, rc⟩ := p.inv_list
          obtain ⟨g2, r2⟩ := fin (vs ++ ws) (ds ++ zs) (ra.append rc)
          have es : σ.set i (some (V.ref a)) = σ := by
            refine List.ext_getElem? fun k => ?_
            rw [List.getElem?_set]
            split
            · rename_i hk
              subst hk
              split
              · exact ha.symm
              · rename_i hn
                rw [List.getElem?_eq_none (by omega)]
            · rfl
          refine ⟨a, c, vs, ws, rfl, rfl, hh, r'.sub _ _ hc, by rw [ra.length, rc.length]; exact line_of hl, ?_⟩
          have fq := q σ G' _ (g.trans g2) r2
          rw [← es] at fq
          exact fq
        · cases h
    · cases h
end
end Dn
set_option maxHeartbeats 4000000
namespace Dn
open PySem PySem.Spec PyProof.Rows L2 PySem.W
open Evl (Ex fresh_back)
section
variable {X : Cx}
end
end Dn
set_option maxHeartbeats 4000000
namespace Dn
open PySem PySem.Spec PyProof.Rows L2 PySem.W PySem.Calls
open Evl (Ex fresh_back)
/-- the name's own thing, given away -/
def mGive (i k : Nat) : Mo D := fun env => match env[i]? with
  | some (some (SV.ow false j d)) => if j = k then some (d, env.set i none) else none
  | _ => none
section
variable {X : Cx} {pos : Pos}
theorem denn_give (i k : Nat) {x : Str} (hN : X.N[i]? = some x) (hv : Vis X.env.scope x) (hd : (x == ("__debug__" : Str)) = false := by decide) (hcd : (x == ("__classdict__" : Str)) = false := by decide) : DenN X (.Name x pos) (k + 1) (mGive i k) := by
  refine ⟨_, pe_var hN hv hd hcd, fun P b σ env G H d env' rr h Q q => ?_⟩
  unfold mGive at h
  split at h
  · rename_i j d' hd
    split at h
    · rename_i e
      subst e
      cases h
      obtain ⟨N, v, hσ, t, r', _⟩ := rr.take hd
      exact ⟨v, hσ, q v G H N Gr.refl r' t⟩
    · cases h
  · cases h
end
section
variable {prog : Program} {w : World} {A : Around} {E : Value → Shared → Prop} {s : Shared}
end
section
variable {X : Cx} {e : Expr} {pos p : Pos}
end
/-- x[k], x a list of one's own -/
def mIxO (i : Nat) (k : Mo D) : Mo D := fun env =>
  match ownAt env i with
  | none => none
  | some _ =>
    match k env with
    | some (.int j, e1) => (match ownAt e1 i with | some (_, ds) => (atI ds j).map (fun d => (d, e1)) | none => none)
    | _ => none
section
variable {X : Cx} {k : Expr} {pos p : Pos}
theorem den_ixO (i : Nat) {x : Str} {F : Mo D} (hN : X.N[i]? = some x) (hv : Vis X.env.scope x) (hk : DenE X k F) (hd : (x == ("__debug__" : Str)) = false := by decide) (hcd : (x == ("__classdict__" : Str)) = false := by decide) (hs : PlainIx k := by exact fun _ _ => rfl) :
    DenE X (.Subscript (.Name x p) k pos) (mIxO i F) := by
  obtain ⟨u, k1, k2⟩ := hk
  refine ⟨_, pe_ix ix_list (pe_var hN hv hd hcd) k1 hs, fun P b σ env G H d env' rr h Q q => ?_⟩
  unfold mIxO at h
  split at h
  · cases h
  · rename_i p0 h0
    split at h
    · rename_i j e1 hj
      split at h
      · rename_i io ds h1
        obtain ⟨a, vs, hσ, _, _, _⟩ := rr.own1 (ownAt_some h0)
        refine ⟨_, hσ, k2 P b σ env G H _ e1 rr hj _ fun w G' H' g r' pw => ?_⟩
        obtain ⟨a', vs', hσ', ha', ra', _⟩ := r'.own1 (ownAt_some h1)
        rw [hσ] at hσ'
        cases hσ'
        cases hq : atI ds j with
        | none => rw [hq] at h; cases h
        | some z0 =>
          rw [hq] at h
          cases h
          obtain ⟨z, hz, rz⟩ := ra'.atI hq
          exact ⟨a, vs', j, z, rfl, pw.inv_int, .of ha', hz, q z G' H' g r' rz⟩
      · cases h
    · cases h
end
theorem ev_give {i k : Nat} {env e1 : DEnv} {d : D} (h : env[i]? = some (some (SV.ow false k d))) (h2 : env.set i none = e1) : mGive i k env = some (d, e1) := by
  unfold mGive
  simp only [h, if_true, h2]
theorem ev_ixO {i : Nat} {k : Mo D} {env e1 : DEnv} {io : Bool} {ds : List D} {d : D} {j : Int} {p : Bool × List D} (h0 : ownAt env i = some p) (hk : k env = some (.int j, e1)) (h1 : ownAt e1 i = some (io, ds)) (h2 : atI ds j = some d) : mIxO i k env = some (d, e1) := by
  unfold mIxO
  simp only [h0, hk, h1, h2, Option.map_some]
end Dn
set_option maxHeartbeats 4000000
namespace Dn
open PySem PySem.Spec PyProof.Rows L2
open Evl (Ex fresh_back)
section
variable {X : Cx}
end
end Dn
set_option maxHeartbeats 4000000
namespace Dn
open PySem PySem.Spec PyProof.Rows L2
open Evl (Ex fresh_back)
def IsZipV (h : Heap) (z TI TO : Addr) (v : Value) (f : Bool) : Prop := h.get? z = some { cls := .type "zip", data := .fields #[v, .bool f, .bool false, .ref TI, .ref TO] }
section
variable {prog : Program} {w : World} {A : Around} {E : Value → Shared → Prop} {s : Shared}
theorem not_alive {a : Addr} {Q : Option Obj → Shared → Prop} (ho : s.heap.get? a = none) (h : Q none s) : wpAny (model prog w) A (loadIfAlive a) Q E s := by
  have h' : Q (s.heap.get? a) s := by rw [ho]; exact h
  exact fun _ _ _ => h'
/-- a zip at work, whatever became of the tuple that it gave last -/
structure ZAn (h : Heap) (N : Nat) (r : List Src) (i : Nat) : Prop where
  z : ∃ v f, IsZipV h (N + r.length + 2) (N + r.length) (N + r.length + 1) v f ∧ (v = .none ∨ ∃ T : Nat, v = rawInt T)
  ti : IsTupA h (N + r.length) (itRefs N r).toArray
  to : ∃ vs, IsTupA h (N + r.length + 1) vs ∧ vs.size = r.length
  its : ItsAt h N r i
theorem ZAn.at {h h' : Heap} {N : Nat} {r : List Src} {i : Nat} (x : ZAn h N r i) (lo : ∀ S ∈ r, S.a < N) (k : ∀ (c : Nat) o, c < N + r.length + 3 → h.get? c = some o → h'.get? c = some o) : ZAn h' N r i where
  z := let ⟨v, f, h1, h2⟩ := x.z; ⟨v, f, k _ _ (by omega) h1, h2⟩
  ti := k _ _ (by omega) x.ti
  to := let ⟨vs, h1, h2⟩ := x.to; ⟨vs, k _ _ (by omega) h1, h2⟩
  its := x.its.at lo fun c o hc e => k c o (by omega) e
/-- the i-th item -/
theorem zipV_next_item {N : Nat} {r : List Src} {i : Nat} {Q : Value → Shared → Prop} (hh : A.handled = none) (hr : r ≠ []) (hl : r.length ≤ 1000) (lo : ∀ S ∈ r, S.a < N) (st : ZAn s.heap N r i) (hlt : ∀ S ∈ r, i < S.its.size)
    (hQ : ∀ h' tk' (T : Nat), ZAn h' N r (i + 1) → s.heap.objs.size ≤ T → IsTupA h' T (colAt r i).toArray → (∀ (c : Nat) o, (c < N ∨ N + r.length + 2 < c) → s.heap.get? c = some o → h'.get? c = some o) → Q (.ref T) { s with heap := h', toks := tk' }) :
    wpAny (model prog w) A (Builtin.«zip.__next__» ⟨[.ref (N + r.length + 2)], []⟩) (fun fin s' => ∃ v, fin = .done (.ret v) ∧ Q v s') E s := by
  obtain ⟨hp, g, d, tk, os⟩ := s
  have hsz : sizeLine = 16777216 := sizeLine_eq
  have hcl : (colAt r i).length = r.length := by simp [colAt]
  obtain ⟨v, f, hz, hv⟩ := st.z
  rcases hv with rfl | ⟨T, rfl⟩
  · show wpAny _ _ (field (.ref (N + r.length + 2)) 2 >>= _) _ _ _
    refine wpAny_bind (wpAny_field hz rfl (x := .bool false) rfl ?_)
    show wpAny _ _ (field (.ref (N + r.length + 2)) 3 >>= _) _ _ _
    refine wpAny_bind (wpAny_field hz rfl (x := .ref (N + r.length)) rfl ?_)
    refine wpAny_bind (wpAny_seqItems st.ti rfl ?_)
    simp only [itRefs_ne hr, Bool.false_eq_true, if_false]
    show wpAny _ _ (Builtin.SmallTypes.ownedTupleIsFree (.ref (N + r.length + 2)) >>= _) _ _ _
    refine wpAny_bind ?_
    unfold Builtin.SmallTypes.ownedTupleIsFree
    refine wpAny_bind (wpAny_field hz rfl (x := .none) rfl (wpAny_pure ?_))
    simp only [if_true]
    refine wpAny_bind (wpAny_rule ?_)
    refine wpAny_bind (wpAny_field hz rfl (x := .ref (N + r.length + 1)) rfl ?_)
    refine wpAny_bind (wpAny_setField_rec hz (by simp) fun g0 hz0 hs0 => ?_)
    replace hz0 : IsZipV g0 (N + r.length + 2) (N + r.length) (N + r.length + 1) .ellipsis f := hz0
    replace hs0 : Heap.SameBut (N + r.length + 2) hp g0 := hs0
    have k0 : ∀ (c : Nat) o, c ≠ N + r.length + 2 → hp.get? c = some o → g0.get? c = some o := fun c o hc e => hs0.extBut c o hc e
    obtain ⟨vs, hvs, hvl⟩ := st.to
    refine wpAny_bind ?_
    refine draw_loop0 (A := A) (s := ⟨g0, g, d, tk, os⟩) hh (TO := N + r.length + 1) (fun it k vs s Q E hvl hw => ?_) N i r N 0 vs g0 tk (Nat.le_refl _) lo (by omega) (st.its.at lo fun c o hc e => k0 c o (by omega) e) hlt (k0 _ _ (by omega) hvs) (by omega) (by omega) fun h' tk' vs' st' kp' sz' hT' ha' => ?_
    · refine wpAny_bind (wpAny_onRaise ?_)
      show wpAny _ _ (Builtin.SmallTypes.nextOf it >>= _) _ _ _
      refine wpAny_bind (wpAny_mono (hw _) (fun x s' hx => wpAny_pure ?_) fun _ _ z => z)
      obtain ⟨hU, hx⟩ := hx
      refine wpAny_bind (wpAny_seqItems (s := s') hU rfl ?_)
      refine wpAny_bind (wpAny_updateSeq hU rfl ?_ (by omega) (by rw [Array.size_setIfInBounds]; omega))
      refine wpAny_bind (wpAny_letGo (wpAny_pure ?_))
      refine hx _ ?_ (Heap.SameBut.update ..)
      show Heap.get? _ _ = _
      rw [Heap.get?_update_self _ hU rfl]
      simp [Obj.mapSeq]
    · refine wpAny_bind (wpAny_seqItems (s := ⟨h', g, d, tk', os⟩) hT' rfl ?_)
      have ha' : vs'.toList = colAt r i := by simpa using ha'
      have hvs' : vs' = (colAt r i).toArray := by rw [← ha']
      subst hvs'
      refine wpAny_bind (wpAny_newTuple ?_ (by rw [List.toList_toArray, hcl]; omega))
      rw [List.toList_toArray]
      have hz1 : IsZipV h' (N + r.length + 2) (N + r.length) (N + r.length + 1) .ellipsis f := kp' _ _ (by omega) (by omega) hz0
      have hz2 : IsZipV (h'.push { cls := .type "tuple", data := .seq (colAt r i).toArray }) (N + r.length + 2) (N + r.length) (N + r.length + 1) .ellipsis f := Heap.get?_push_of_some _ hz1
      have hzlt : N + r.length + 2 < h'.objs.size := Heap.lt_size hz1
      have hszh : h'.objs.size = hp.objs.size := by rw [sz']; exact hs0.1
      show wpAny _ _ (Builtin.SmallTypes.ownedTupleHandOut (.ref (N + r.length + 2)) (.ref h'.objs.size) >>= _) _ _ ⟨h'.push { cls := .type "tuple", data := .seq (colAt r i).toArray }, g, d, tk', os⟩
      refine wpAny_bind ?_
      unfold Builtin.SmallTypes.ownedTupleHandOut
      refine wpAny_bind (wpAny_setField_rec hz2 (by simp) fun h₇ hz₇ hs₇ => ?_)
      replace hz₇ : IsZipV h₇ (N + r.length + 2) (N + r.length) (N + r.length + 1) (rawInt h'.objs.size) f := hz₇
      refine wpAny_setField_rec hz₇ (by simp) fun h₈ hz₈ hs₈ => ?_
      replace hz₈ : IsZipV h₈ (N + r.length + 2) (N + r.length) (N + r.length + 1) (rawInt h'.objs.size) false := hz₈
      replace hs₇ : Heap.SameBut (N + r.length + 2) (h'.push { cls := .type "tuple", data := .seq (colAt r i).toArray }) h₇ := hs₇
      replace hs₈ : Heap.SameBut (N + r.length + 2) h₇ h₈ := hs₈
      have up : ∀ (c : Nat) o, c ≠ N + r.length + 2 → (h'.push { cls := .type "tuple", data := .seq (colAt r i).toArray }).get? c = some o → h₈.get? c = some o := fun c o c1 e => hs₈.extBut _ _ c1 (hs₇.extBut _ _ c1 e)
      have hT8 : IsTupA h₈ h'.objs.size (colAt r i).toArray := up _ _ (by omega) (Heap.get?_push_size _ rfl)
      refine wpAny_pure ⟨_, rfl, hQ h₈ tk' h'.objs.size ⟨⟨_, _, hz₈, .inr ⟨_, rfl⟩⟩, ?_, ⟨_, up _ _ (by omega) (Heap.get?_push_of_some _ hT'), by simp [hcl]⟩, ?_⟩ (by show hp.objs.size ≤ _; omega) hT8 fun c o hc e => ?_⟩
      · exact up _ _ (by omega) (Heap.get?_push_of_some _ (kp' _ _ (by omega) (by omega) (k0 _ _ (by omega) st.ti)))
      · exact st'.at lo fun c o hc e => up c o (by omega) (Heap.get?_push_of_some _ e)
      · exact up c o (by omega) (Heap.get?_push_of_some _ (kp' c o (by omega) (by omega) (k0 c o (by omega) e)))
  · cases hT : hp.get? T with
    | none =>
        show wpAny _ _ (field (.ref (N + r.length + 2)) 2 >>= _) _ _ _
        refine wpAny_bind (wpAny_field hz rfl (x := .bool false) rfl ?_)
        show wpAny _ _ (field (.ref (N + r.length + 2)) 3 >>= _) _ _ _
        refine wpAny_bind (wpAny_field hz rfl (x := .ref (N + r.length)) rfl ?_)
        refine wpAny_bind (wpAny_seqItems st.ti rfl ?_)
        simp only [itRefs_ne hr, Bool.false_eq_true, if_false]
        show wpAny _ _ (Builtin.SmallTypes.ownedTupleIsFree (.ref (N + r.length + 2)) >>= _) _ _ _
        refine wpAny_bind ?_
        unfold Builtin.SmallTypes.ownedTupleIsFree
        refine wpAny_bind (wpAny_field hz rfl (x := rawInt T) rfl ?_)
        show wpAny _ _ (loadIfAlive ((T : Int).toNat) >>= _) _ _ _
        rw [Int.toNat_natCast]
        refine wpAny_bind (not_alive hT ?_)
        simp only [Option.isNone_none, if_true]
        refine wpAny_pure ?_
        simp only [if_true]
        refine wpAny_bind (wpAny_rule ?_)
        refine wpAny_bind (wpAny_field hz rfl (x := .ref (N + r.length + 1)) rfl ?_)
        refine wpAny_bind (wpAny_setField_rec hz (by simp) fun g0 hz0 hs0 => ?_)
        replace hz0 : IsZipV g0 (N + r.length + 2) (N + r.length) (N + r.length + 1) .ellipsis f := hz0
        replace hs0 : Heap.SameBut (N + r.length + 2) hp g0 := hs0
        have k0 : ∀ (c : Nat) o, c ≠ N + r.length + 2 → hp.get? c = some o → g0.get? c = some o := fun c o hc e => hs0.extBut c o hc e
        obtain ⟨vs, hvs, hvl⟩ := st.to
        refine wpAny_bind ?_
        refine draw_loop0 (A := A) (s := ⟨g0, g, d, tk, os⟩) hh (TO := N + r.length + 1) (fun it k vs s Q E hvl hw => ?_) N i r N 0 vs g0 tk (Nat.le_refl _) lo (by omega) (st.its.at lo fun c o hc e => k0 c o (by omega) e) hlt (k0 _ _ (by omega) hvs) (by omega) (by omega) fun h' tk' vs' st' kp' sz' hT' ha' => ?_
        · refine wpAny_bind (wpAny_onRaise ?_)
          show wpAny _ _ (Builtin.SmallTypes.nextOf it >>= _) _ _ _
          refine wpAny_bind (wpAny_mono (hw _) (fun x s' hx => wpAny_pure ?_) fun _ _ z => z)
          obtain ⟨hU, hx⟩ := hx
          refine wpAny_bind (wpAny_seqItems (s := s') hU rfl ?_)
          refine wpAny_bind (wpAny_updateSeq hU rfl ?_ (by omega) (by rw [Array.size_setIfInBounds]; omega))
          refine wpAny_bind (wpAny_letGo (wpAny_pure ?_))
          refine hx _ ?_ (Heap.SameBut.update ..)
          show Heap.get? _ _ = _
          rw [Heap.get?_update_self _ hU rfl]
          simp [Obj.mapSeq]
        · refine wpAny_bind (wpAny_seqItems (s := ⟨h', g, d, tk', os⟩) hT' rfl ?_)
          have ha' : vs'.toList = colAt r i := by simpa using ha'
          have hvs' : vs' = (colAt r i).toArray := by rw [← ha']
          subst hvs'
          refine wpAny_bind (wpAny_newTuple ?_ (by rw [List.toList_toArray, hcl]; omega))
          rw [List.toList_toArray]
          have hz1 : IsZipV h' (N + r.length + 2) (N + r.length) (N + r.length + 1) .ellipsis f := kp' _ _ (by omega) (by omega) hz0
          have hz2 : IsZipV (h'.push { cls := .type "tuple", data := .seq (colAt r i).toArray }) (N + r.length + 2) (N + r.length) (N + r.length + 1) .ellipsis f := Heap.get?_push_of_some _ hz1
          have hzlt : N + r.length + 2 < h'.objs.size := Heap.lt_size hz1
          have hszh : h'.objs.size = hp.objs.size := by rw [sz']; exact hs0.1
          show wpAny _ _ (Builtin.SmallTypes.ownedTupleHandOut (.ref (N + r.length + 2)) (.ref h'.objs.size) >>= _) _ _ ⟨h'.push { cls := .type "tuple", data := .seq (colAt r i).toArray }, g, d, tk', os⟩
          refine wpAny_bind ?_
          unfold Builtin.SmallTypes.ownedTupleHandOut
          refine wpAny_bind (wpAny_setField_rec hz2 (by simp) fun h₇ hz₇ hs₇ => ?_)
          replace hz₇ : IsZipV h₇ (N + r.length + 2) (N + r.length) (N + r.length + 1) (rawInt h'.objs.size) f := hz₇
          refine wpAny_setField_rec hz₇ (by simp) fun h₈ hz₈ hs₈ => ?_
          replace hz₈ : IsZipV h₈ (N + r.length + 2) (N + r.length) (N + r.length + 1) (rawInt h'.objs.size) false := hz₈
          replace hs₇ : Heap.SameBut (N + r.length + 2) (h'.push { cls := .type "tuple", data := .seq (colAt r i).toArray }) h₇ := hs₇
          replace hs₈ : Heap.SameBut (N + r.length + 2) h₇ h₈ := hs₈
          have up : ∀ (c : Nat) o, c ≠ N + r.length + 2 → (h'.push { cls := .type "tuple", data := .seq (colAt r i).toArray }).get? c = some o → h₈.get? c = some o := fun c o c1 e => hs₈.extBut _ _ c1 (hs₇.extBut _ _ c1 e)
          have hT8 : IsTupA h₈ h'.objs.size (colAt r i).toArray := up _ _ (by omega) (Heap.get?_push_size _ rfl)
          refine wpAny_pure ⟨_, rfl, hQ h₈ tk' h'.objs.size ⟨⟨_, _, hz₈, .inr ⟨_, rfl⟩⟩, ?_, ⟨_, up _ _ (by omega) (Heap.get?_push_of_some _ hT'), by simp [hcl]⟩, ?_⟩ (by show hp.objs.size ≤ _; omega) hT8 fun c o hc e => ?_⟩
          · exact up _ _ (by omega) (Heap.get?_push_of_some _ (kp' _ _ (by omega) (by omega) (k0 _ _ (by omega) st.ti)))
          · exact st'.at lo fun c o hc e => up c o (by omega) (Heap.get?_push_of_some _ e)
          · exact up c o (by omega) (Heap.get?_push_of_some _ (kp' c o (by omega) (by omega) (k0 c o (by omega) e)))
    | some oT =>
        have hzh : IsZipHeld hp (N + r.length + 2) (N + r.length) (N + r.length + 1) T f := hz
        show wpAny _ _ (field (.ref (N + r.length + 2)) 2 >>= _) _ _ _
        refine wpAny_bind (wpAny_field hz rfl (x := .bool false) rfl ?_)
        show wpAny _ _ (field (.ref (N + r.length + 2)) 3 >>= _) _ _ _
        refine wpAny_bind (wpAny_field hz rfl (x := .ref (N + r.length)) rfl ?_)
        refine wpAny_bind (wpAny_seqItems st.ti rfl ?_)
        simp only [itRefs_ne hr, Bool.false_eq_true, if_false]
        show wpAny _ _ (Builtin.SmallTypes.ownedTupleIsFree (.ref (N + r.length + 2)) >>= _) _ _ _
        refine wpAny_bind (wpAny_tupleHeld_zip hzh hT fun g0 hz0 hs0 => ?_)
        replace hs0 : Heap.SameBut (N + r.length + 2) hp g0 := hs0
        have k0 : ∀ (c : Nat) o, c ≠ N + r.length + 2 → hp.get? c = some o → g0.get? c = some o := fun c o hc e => hs0.extBut c o hc e
        simp only [Bool.false_eq_true, if_false]
        refine wpAny_bind ?_
        rw [← Array.forIn_toList, List.toList_toArray]
        refine draw_loop (A := A) (s := ⟨g0, g, d, tk, os⟩) hh (fun it acc s Q E hw => ?_) N i r N #[] g0 tk (Nat.le_refl _) lo (st.its.at lo fun c o hc e => k0 c o (by omega) e) hlt fun h' tk' acc' st' kp' sz' ha' => ?_
        · refine wpAny_bind (wpAny_holding ?_)
          show wpAny _ _ (Builtin.SmallTypes.nextOf it >>= _) _ _ _
          exact wpAny_bind (wpAny_mono hw (fun x s' hx => wpAny_pure (wpAny_pure hx)) fun _ _ z => z)
        · have ha' : acc'.toList = colAt r i := by simpa using ha'
          rw [ha']
          refine wpAny_bind (wpAny_newTuple ?_ (by rw [hcl]; omega))
          have hz1 : IsZipHeld h' (N + r.length + 2) (N + r.length) (N + r.length + 1) T true := kp' _ _ (by omega) hz0
          have hzlt : N + r.length + 2 < h'.objs.size := Heap.lt_size hz1
          have hszh : h'.objs.size = hp.objs.size := by rw [sz']; exact hs0.1
          have up : ∀ (c : Nat) o, h'.get? c = some o → (h'.push { cls := .type "tuple", data := .seq (colAt r i).toArray }).get? c = some o := fun c o e => Heap.get?_push_of_some _ e
          obtain ⟨vs, hvs, hvl⟩ := st.to
          refine wpAny_pure ⟨_, rfl, hQ _ tk' h'.objs.size ⟨⟨_, _, up _ _ hz1, .inr ⟨_, rfl⟩⟩, up _ _ (kp' _ _ (by omega) (k0 _ _ (by omega) st.ti)), ⟨vs, up _ _ (kp' _ _ (by omega) (k0 _ _ (by omega) hvs)), hvl⟩, st'.at lo fun c o hc e => up c o e⟩ (by show hp.objs.size ≤ _; omega) (Heap.get?_push_size _ rfl) fun c o hc e => up c o (kp' c o (by omega) (k0 c o (by omega) e))⟩
/-- the end -/
theorem zipV_next_end {N : Nat} {S : Src} {r : List Src} {i : Nat} {Q : Fin → Shared → Prop} (hh : A.handled = none) (lo : ∀ T ∈ S :: r, T.a < N) (st : ZAn s.heap N (S :: r) i) (hi : ∀ T ∈ S :: r, i = T.its.size)
    (hE : ∀ h' tk' e, (∀ (c : Nat) o, (c < N ∨ N + (S :: r).length + 2 < c) → s.heap.get? c = some o → h'.get? c = some o) → (∃ o, h'.get? e = some o ∧ o.cls = .type "StopIteration") → E (.ref e) { s with heap := h', toks := tk' }) :
    wpAny (model prog w) A (Builtin.«zip.__next__» ⟨[.ref (N + (S :: r).length + 2)], []⟩) Q E s := by
  obtain ⟨hp, g, d, tk, os⟩ := s
  have hS : S.a < N := lo S (by simp)
  obtain ⟨v, f, hz, hv⟩ := st.z
  rcases hv with rfl | ⟨T, rfl⟩
  · show wpAny _ _ (field (.ref (N + (S :: r).length + 2)) 2 >>= _) _ _ _
    refine wpAny_bind (wpAny_field hz rfl (x := .bool false) rfl ?_)
    show wpAny _ _ (field (.ref (N + (S :: r).length + 2)) 3 >>= _) _ _ _
    refine wpAny_bind (wpAny_field hz rfl (x := .ref (N + (S :: r).length)) rfl ?_)
    refine wpAny_bind (wpAny_seqItems st.ti rfl ?_)
    simp only [itRefs_ne (r := S :: r) (by simp), Bool.false_eq_true, if_false]
    show wpAny _ _ (Builtin.SmallTypes.ownedTupleIsFree (.ref (N + (S :: r).length + 2)) >>= _) _ _ _
    refine wpAny_bind ?_
    unfold Builtin.SmallTypes.ownedTupleIsFree
    refine wpAny_bind (wpAny_field hz rfl (x := .none) rfl (wpAny_pure ?_))
    simp only [if_true]
    refine wpAny_bind (wpAny_rule ?_)
    refine wpAny_bind (wpAny_field hz rfl (x := .ref (N + (S :: r).length + 1)) rfl ?_)
    refine wpAny_bind (wpAny_setField_rec hz (by simp) fun g0 hz0 hs0 => ?_)
    replace hz0 : IsZipV g0 (N + (S :: r).length + 2) (N + (S :: r).length) (N + (S :: r).length + 1) .ellipsis f := hz0
    replace hs0 : Heap.SameBut (N + (S :: r).length + 2) hp g0 := hs0
    have k0 : ∀ (c : Nat) o, c ≠ N + (S :: r).length + 2 → hp.get? c = some o → g0.get? c = some o := fun c o hc e => hs0.extBut c o hc e
    refine wpAny_bind ?_
    rw [show (itRefs N (S :: r)).toArray.toList.zipIdx = (.ref N, 0) :: (itRefs (N + 1) r).zipIdx 1 from rfl, List.forIn_cons]
    refine wpAny_bind ?_
    obtain ⟨h1, h2⟩ := (st.its.at lo fun c o hc e => k0 c o (by omega) e) 0 S rfl
    have hi0 := hi S (by simp)
    have D := draws_of (prog := prog) (w := w) (A := A) S.kd hh N S.a (Nat.ne_of_lt hS) S.its
    refine wpAny_bind (wpAny_onRaise ?_)
    show wpAny _ _ (Builtin.SmallTypes.nextOf (.ref N) >>= _) _ _ _
    refine wpAny_bind (D.done ⟨g0, g, d, tk, os⟩ _ _ (hi0 ▸ ⟨by simpa using h1, h2⟩) fun h' e hs' he => ?_)
    have hz1 : IsZipV h' (N + (S :: r).length + 2) (N + (S :: r).length) (N + (S :: r).length + 1) .ellipsis f := hs' (N + (S :: r).length + 2) _ (show N + (S :: r).length + 2 ≠ N by omega) hz0
    refine wpAny_setField_rec (s := ⟨h', g, d, tk, os⟩) hz1 (by simp) fun h₃ hz₃ hs₃ => ?_
    replace hs₃ : Heap.SameBut (N + (S :: r).length + 2) h' h₃ := hs₃
    obtain ⟨o, ho, hc⟩ := he
    have hen : e ≠ N + (S :: r).length + 2 := fun z => by
      rw [z, show h'.get? (N + (S :: r).length + 2) = _ from hz1] at ho
      cases ho
      exact absurd (Value.type.inj hc) (by decide)
    exact hE h₃ tk e (fun c o hc e => hs₃.extBut _ _ (show c ≠ _ by omega) (hs' c o (show c ≠ N by omega) (k0 c o (by omega) e))) ⟨o, hs₃.extBut _ _ hen ho, hc⟩
  · cases hT : hp.get? T with
    | none =>
        show wpAny _ _ (field (.ref (N + (S :: r).length + 2)) 2 >>= _) _ _ _
        refine wpAny_bind (wpAny_field hz rfl (x := .bool false) rfl ?_)
        show wpAny _ _ (field (.ref (N + (S :: r).length + 2)) 3 >>= _) _ _ _
        refine wpAny_bind (wpAny_field hz rfl (x := .ref (N + (S :: r).length)) rfl ?_)
        refine wpAny_bind (wpAny_seqItems st.ti rfl ?_)
        simp only [itRefs_ne (r := S :: r) (by simp), Bool.false_eq_true, if_false]
        show wpAny _ _ (Builtin.SmallTypes.ownedTupleIsFree (.ref (N + (S :: r).length + 2)) >>= _) _ _ _
        refine wpAny_bind ?_
        unfold Builtin.SmallTypes.ownedTupleIsFree
        refine wpAny_bind (wpAny_field hz rfl (x := rawInt T) rfl ?_)
        show wpAny _ _ (loadIfAlive ((T : Int).toNat) >>= _) _ _ _
        rw [Int.toNat_natCast]
        refine wpAny_bind (not_alive hT ?_)
        simp only [Option.isNone_none, if_true]
        refine wpAny_pure ?_
        simp only [if_true]
        refine wpAny_bind (wpAny_rule ?_)
        refine wpAny_bind (wpAny_field hz rfl (x := .ref (N + (S :: r).length + 1)) rfl ?_)
        refine wpAny_bind (wpAny_setField_rec hz (by simp) fun g0 hz0 hs0 => ?_)
        replace hz0 : IsZipV g0 (N + (S :: r).length + 2) (N + (S :: r).length) (N + (S :: r).length + 1) .ellipsis f := hz0
        replace hs0 : Heap.SameBut (N + (S :: r).length + 2) hp g0 := hs0
        have k0 : ∀ (c : Nat) o, c ≠ N + (S :: r).length + 2 → hp.get? c = some o → g0.get? c = some o := fun c o hc e => hs0.extBut c o hc e
        refine wpAny_bind ?_
        rw [show (itRefs N (S :: r)).toArray.toList.zipIdx = (.ref N, 0) :: (itRefs (N + 1) r).zipIdx 1 from rfl, List.forIn_cons]
        refine wpAny_bind ?_
        obtain ⟨h1, h2⟩ := (st.its.at lo fun c o hc e => k0 c o (by omega) e) 0 S rfl
        have hi0 := hi S (by simp)
        have D := draws_of (prog := prog) (w := w) (A := A) S.kd hh N S.a (Nat.ne_of_lt hS) S.its
        refine wpAny_bind (wpAny_onRaise ?_)
        show wpAny _ _ (Builtin.SmallTypes.nextOf (.ref N) >>= _) _ _ _
        refine wpAny_bind (D.done ⟨g0, g, d, tk, os⟩ _ _ (hi0 ▸ ⟨by simpa using h1, h2⟩) fun h' e hs' he => ?_)
        have hz1 : IsZipV h' (N + (S :: r).length + 2) (N + (S :: r).length) (N + (S :: r).length + 1) .ellipsis f := hs' (N + (S :: r).length + 2) _ (show N + (S :: r).length + 2 ≠ N by omega) hz0
        refine wpAny_setField_rec (s := ⟨h', g, d, tk, os⟩) hz1 (by simp) fun h₃ hz₃ hs₃ => ?_
        replace hs₃ : Heap.SameBut (N + (S :: r).length + 2) h' h₃ := hs₃
        obtain ⟨o, ho, hc⟩ := he
        have hen : e ≠ N + (S :: r).length + 2 := fun z => by
          rw [z, show h'.get? (N + (S :: r).length + 2) = _ from hz1] at ho
          cases ho
          exact absurd (Value.type.inj hc) (by decide)
        exact hE h₃ tk e (fun c o hc e => hs₃.extBut _ _ (show c ≠ _ by omega) (hs' c o (show c ≠ N by omega) (k0 c o (by omega) e))) ⟨o, hs₃.extBut _ _ hen ho, hc⟩
    | some oT =>
        have hzh : IsZipHeld hp (N + (S :: r).length + 2) (N + (S :: r).length) (N + (S :: r).length + 1) T f := hz
        show wpAny _ _ (field (.ref (N + (S :: r).length + 2)) 2 >>= _) _ _ _
        refine wpAny_bind (wpAny_field hz rfl (x := .bool false) rfl ?_)
        show wpAny _ _ (field (.ref (N + (S :: r).length + 2)) 3 >>= _) _ _ _
        refine wpAny_bind (wpAny_field hz rfl (x := .ref (N + (S :: r).length)) rfl ?_)
        refine wpAny_bind (wpAny_seqItems st.ti rfl ?_)
        simp only [itRefs_ne (r := S :: r) (by simp), Bool.false_eq_true, if_false]
        show wpAny _ _ (Builtin.SmallTypes.ownedTupleIsFree (.ref (N + (S :: r).length + 2)) >>= _) _ _ _
        refine wpAny_bind (wpAny_tupleHeld_zip hzh hT fun g0 hz0 hs0 => ?_)
        replace hs0 : Heap.SameBut (N + (S :: r).length + 2) hp g0 := hs0
        have k0 : ∀ (c : Nat) o, c ≠ N + (S :: r).length + 2 → hp.get? c = some o → g0.get? c = some o := fun c o hc e => hs0.extBut c o hc e
        simp only [Bool.false_eq_true, if_false]
        refine wpAny_bind ?_
        rw [← Array.forIn_toList, List.toList_toArray]
        refine draw_end (A := A) (s := ⟨g0, g, d, tk, os⟩) hh (fun it acc s Q E hw => ?_) N i (S :: r) N #[] g0 tk (Nat.le_refl _) lo (st.its.at lo fun c o hc e => k0 c o (by omega) e) (fun T hT => Nat.le_of_eq (hi T hT)) ⟨S, by simp, hi S (by simp)⟩ fun h' tk' e kp' he => ?_
        · refine wpAny_bind (wpAny_holding ?_)
          show wpAny _ _ (Builtin.SmallTypes.nextOf it >>= _) _ _ _
          exact wpAny_bind (wpAny_mono hw (fun x s' hx => wpAny_pure (wpAny_pure hx)) fun _ _ z => z)
        · exact hE h' tk' e (fun c o hc q => kp' c o (by omega) (k0 c o (by omega) q)) he
end
end Dn
set_option maxHeartbeats 4000000
namespace Dn
open PySem PySem.Spec PyProof.Rows L2
open Evl (Ex fresh_back)
section
variable {prog : Program} {w : World} {A : Around} {E : Value → Shared → Prop} {s : Shared}
theorem ZAn.ty {N : Nat} {r : List Src} {i : Nat} (st : ZAn s.heap N r i) : s.TypeIs (.ref (N + r.length + 2)) "zip" := by
  obtain ⟨v, f, hz, _⟩ := st.z
  exact ⟨_, hz, rfl⟩
theorem zipV_pyNext_item {N : Nat} {r : List Src} {i : Nat} {Q : Option Value → Shared → Prop} (hh : A.handled = none) (hr : r ≠ []) (hl : r.length ≤ 1000) (lo : ∀ S ∈ r, S.a < N) (st : ZAn s.heap N r i) (hlt : ∀ S ∈ r, i < S.its.size)
    (hQ : ∀ h' tk' (T : Nat), ZAn h' N r (i + 1) → s.heap.objs.size ≤ T → IsTupA h' T (colAt r i).toArray → (∀ (c : Nat) o, (c < N ∨ N + r.length + 2 < c) → s.heap.get? c = some o → h'.get? c = some o) → Q (some (.ref T)) { s with heap := h', toks := tk' }) :
    wpAny (model prog w) A (pyNext (.ref (N + r.length + 2))) Q E s := by
  have hTy := st.ty
  unfold pyNext
  exact wpAny_bind (wpAny_attempt (wpAny_callSpecial?_slot (name := Str.ofString "__next__") hTy F.slot_zip_next
    (wpAny_call_entry F.slot_zip_next hTy F.entry_zip_next
      (zipV_next_item hh hr hl lo st hlt fun h' tk' T a1 a2 a3 a4 => wpAny_pure (hQ h' tk' T a1 a2 a3 a4)) (F.args_zip_next_1 _))))
theorem zipV_pyNext_end {N : Nat} {r : List Src} {i : Nat} {Q : Option Value → Shared → Prop} (hh : A.handled = none) (hr : r ≠ []) (lo : ∀ S ∈ r, S.a < N) (st : ZAn s.heap N r i) (hi : ∀ S ∈ r, i = S.its.size)
    (hQ : ∀ h' tk', (∀ (c : Nat) o, (c < N ∨ N + r.length + 2 < c) → s.heap.get? c = some o → h'.get? c = some o) → Q none { s with heap := h', toks := tk' }) :
    wpAny (model prog w) A (pyNext (.ref (N + r.length + 2))) Q E s := by
  have hTy := st.ty
  cases r with
  | nil => exact absurd rfl hr
  | cons S r =>
    unfold pyNext
    refine wpAny_bind (wpAny_attempt (wpAny_callSpecial?_slot (name := Str.ofString "__next__") hTy F.slot_zip_next
      (wpAny_call_entry F.slot_zip_next hTy F.entry_zip_next (zipV_next_end hh lo st hi fun h' tk' e hk he => ?_) (F.args_zip_next_1 _))))
    obtain ⟨o, ho, hc⟩ := he
    refine wpAny_bind (wpAny_isInstance (T := "StopIteration") (b := true) ⟨o, ho, hc⟩ isSubtype_stop ?_)
    exact wpAny_pure (hQ _ _ hk)
theorem zipV_pyIter {z : Addr} {Q : Value → Shared → Prop} (hT : s.TypeIs (.ref z) "zip") (h : Q (.ref z) s) : wpAny (model prog w) A (pyIter (.ref z)) Q E s := by
  refine wpAny_pyIter_slot hT F.slot_zip_iter (wpAny_call_entry F.slot_zip_iter hT F.entry_zip_iter ?_ (F.args_zip_iter_1 _))
  show wpAny _ _ (ret (.ref z)) _ _ s
  exact wpAny_pure ⟨_, rfl, "zip", _, hT, F.slot_zip_next.lookup, h⟩
theorem zZ_an {h : Heap} {r : List Src} (hs : ∀ S ∈ r, SqAt S.kd h S.a S.its) : ZAn (zZ h r) h.objs.size r 0 := by
  have st := zZ_at hs
  refine ⟨?_, st.ti, st.to, st.its⟩
  rcases st.z with ⟨_, hz⟩ | ⟨T, f, _, hz, _⟩
  · exact ⟨.none, false, hz, .inl rfl⟩
  · exact ⟨rawInt T, f, hz, .inr ⟨T, rfl⟩⟩
end
/-- the sources of a walk, without what they hold -/
def r0 (rs : Seqs) : List Src := rs.map fun q => ⟨q.1, q.2.1, #[]⟩
theorem itRefs_same : ∀ {r r' : List Src} (N : Nat), r.length = r'.length → itRefs N r = itRefs N r'
  | [], [], _, _ => rfl
  | [], _ :: _, _, h => by cases h
  | _ :: _, [], _, h => by cases h
  | _ :: r, _ :: r', N, h => by
    show Value.ref N :: itRefs (N + 1) r = Value.ref N :: itRefs (N + 1) r'
    rw [itRefs_same (r := r) (r' := r') (N + 1) (by simpa using h)]
/-- the cells of a zip at work -/
structure CZ (h : Heap) (N : Nat) (rs : Seqs) (i : Nat) : Prop where
  z : ∃ v f, IsZipV h (N + rs.length + 2) (N + rs.length) (N + rs.length + 1) v f ∧ (v = .none ∨ ∃ T : Nat, v = rawInt T)
  ti : IsTupA h (N + rs.length) (itRefs N (r0 rs)).toArray
  to : ∃ vs, IsTupA h (N + rs.length + 1) vs ∧ vs.size = rs.length
  its : ∀ (j : Nat) q, rs[j]? = some q → ItAt q.1 h (N + j) q.2.1 i
/-- what stands in the heap, with its kind -/
theorem srcs_ofK {X : Cx} {pins : List (Addr × Obj)} {σ : L2.St} {H : Hp} {s : Shared} (I : Inv X pins σ H s) : ∀ {rs : Seqs}, (∀ q ∈ rs, HoS H q.2.1 q.1 q.2.2) →
    ∃ r : List Src, r.length = rs.length ∧ r.map (·.a) = rs.map (·.2.1) ∧ (∀ S ∈ r, SqAt S.kd s.heap S.a S.its ∧ S.a < s.heap.objs.size) ∧ ∀ (j : Nat) S q, r[j]? = some S → rs[j]? = some q → S.kd = q.1 ∧ S.a = q.2.1 ∧ Vals q.2.2 S.its.toList
  | [], _ => ⟨[], rfl, rfl, fun S h => by simp at h, fun j S q e _ => by simp at e⟩
  | q :: rs, h => by
    obtain ⟨r, e0, e1, e2, e3⟩ := srcs_ofK I (rs := rs) fun q hq => h q (by simp [hq])
    obtain ⟨its, rv, sq, lt⟩ := src_at I (h q (by simp))
    refine ⟨⟨q.1, q.2.1, its.toArray⟩ :: r, by simp [e0], by simp [e1], fun S hS => ?_, fun j S q' k1 k2 => ?_⟩
    · rcases List.mem_cons.mp hS with z | z
      · subst z; exact ⟨sq, lt⟩
      · exact e2 S z
    · cases j with
      | zero => cases k1; cases k2; exact ⟨rfl, rfl, by simpa using rv⟩
      | succ j => exact e3 j S q' k1 k2
theorem CZ.an {h : Heap} {N : Nat} {rs : Seqs} {i : Nat} {r : List Src} (c : CZ h N rs i) (e0 : r.length = rs.length) (e2 : ∀ S ∈ r, SqAt S.kd h S.a S.its) (e3 : ∀ (j : Nat) S q, r[j]? = some S → rs[j]? = some q → S.kd = q.1 ∧ S.a = q.2.1) : ZAn h N r i := by
  refine ⟨by rw [e0]; exact c.z, by rw [e0, itRefs_same N (r' := r0 rs) (by rw [e0]; simp [r0])]; exact c.ti, by rw [e0]; exact c.to, fun j S hj => ?_⟩
  have hjl : j < rs.length := by rw [← e0]; exact (List.getElem?_eq_some_iff.mp hj).1
  have hq : rs[j]? = some rs[j] := List.getElem?_eq_getElem hjl
  obtain ⟨k1, k2⟩ := e3 j S _ hj hq
  rw [k1, k2]
  refine ⟨c.its j _ hq, ?_⟩
  have := e2 S (List.mem_of_getElem? hj)
  rw [k1, k2] at this
  exact this
theorem ZAn.cz {h : Heap} {N : Nat} {rs : Seqs} {i : Nat} {r : List Src} (c : ZAn h N r i) (e0 : r.length = rs.length) (e3 : ∀ (j : Nat) S q, r[j]? = some S → rs[j]? = some q → S.kd = q.1 ∧ S.a = q.2.1) : CZ h N rs i := by
  refine ⟨by rw [← e0]; exact c.z, by rw [← e0, itRefs_same N (r' := r) (by rw [e0]; simp [r0])]; exact c.ti, by rw [← e0]; exact c.to, fun j q hj => ?_⟩
  have hjl : j < r.length := by rw [e0]; exact (List.getElem?_eq_some_iff.mp hj).1
  have hS : r[j]? = some r[j] := List.getElem?_eq_getElem hjl
  obtain ⟨k1, k2⟩ := e3 j _ q hS hj
  have := (c.its j _ hS).1
  rw [k1, k2] at this
  exact this
def cellsZ (N n : Nat) : List Addr := (List.range (n + 3)).map fun j => N + j
theorem mem_cellsZ {N n c : Nat} : c ∈ cellsZ N n ↔ N ≤ c ∧ c < N + n + 3 := by
  unfold cellsZ
  rw [List.mem_map]
  constructor
  · rintro ⟨j, hj, rfl⟩
    have := List.mem_range.mp hj
    omega
  · intro h
    exact ⟨c - N, List.mem_range.mpr (by omega), by omega⟩
theorem out_cells {N n b : Nat} (h : b ∉ cellsZ N n) : b < N ∨ N + n + 2 < b := by
  have : ¬ (N ≤ b ∧ b < N + n + 3) := fun z => h (mem_cellsZ.mpr z)
  omega
theorem cells_ne {N n b s T : Nat} (h : b ∈ cellsZ N n) (h2 : N + n + 2 < s) (h3 : s ≤ T) : b ≠ T := by
  have := mem_cellsZ.mp h
  omega
theorem cells_obj {h : Heap} {N : Nat} {rs : Seqs} {i : Nat} (c : CZ h N rs i) {b : Nat} (hb : b ∈ cellsZ N rs.length) : ∃ o, h.get? b = some o ∧ ∀ v, o.data ≠ .cell v := by
  obtain ⟨b1, b2⟩ := mem_cellsZ.mp hb
  by_cases e1 : b < N + rs.length
  · have hq : rs[b - N]? = some (rs[b - N]'(by omega)) := List.getElem?_eq_getElem (by omega)
    have := (c.its _ _ hq).live
    rw [show N + (b - N) = b by omega] at this
    exact this
  · have e : b = N + rs.length ∨ b = N + rs.length + 1 ∨ b = N + rs.length + 2 := by omega
    rcases e with e | e | e
    · rw [e]; exact ⟨_, c.ti, fun v q => nomatch q⟩
    · obtain ⟨vs, h1, _⟩ := c.to
      rw [e]; exact ⟨_, h1, fun v q => nomatch q⟩
    · obtain ⟨v, f, h1, _⟩ := c.z
      rw [e]; exact ⟨_, h1, fun v q => nomatch q⟩
def zipJN (rs : Seqs) (m : Nat) : It :=
  ⟨fun i H => (∀ q ∈ rs, HoS H q.2.1 q.1 q.2.2) ∧ i < m, fun i H v H' => ∃ (T : Addr) (o : Obj), v = .ref T ∧ H T = none ∧ o.dict = none ∧ H' = upd H T (.frz o (.tup (rs.map fun q => q.2.2.getD i .non))), fun i H => (∀ q ∈ rs, HoS H q.2.1 q.1 q.2.2) ∧ m ≤ i⟩
theorem turn_zipN {P : Program} {w : World} {K : PySem.W.Frag} {x : Str} {tp : Pos} {N : Nat} {rs : Seqs} {m : Nat} (hne : rs ≠ []) (hl : rs.length ≤ 1000) (hm : ∀ q ∈ rs, q.2.2.length = m) (lo : ∀ q ∈ rs, q.2.1 < N) :
    Turn P w K (.Name x tp) (zipJN rs m) (cellsZ N rs.length) (N + rs.length + 2) (fun i h => i ≤ m ∧ CZ h N rs i) where
  mem := mem_cellsZ.mpr (by omega)
  obj := fun i h c b hb => cells_obj c.2 hb
  keep := by
    intro i h h' ⟨hi, c⟩ k
    refine ⟨hi, ?_, k _ (mem_cellsZ.mpr (by omega)) _ c.ti, ?_, fun j q hq => ?_⟩
    · obtain ⟨v, f, h1, h2⟩ := c.z
      exact ⟨v, f, k _ (mem_cellsZ.mpr (by omega)) _ h1, h2⟩
    · obtain ⟨vs, h1, h2⟩ := c.to
      exact ⟨vs, k _ (mem_cellsZ.mpr (by omega)) _ h1, h2⟩
    · have := (List.getElem?_eq_some_iff.mp hq).1
      exact (c.its j q hq).at fun o e => k _ (mem_cellsZ.mpr (by omega)) o e
  item := by
    intro X hP hw hK hc i pins s σ H E I hf ⟨hi, c⟩ hg
    obtain ⟨hS, him⟩ := hg
    obtain ⟨r, e0, e1, e2, e3⟩ := srcs_ofK I hS
    subst hP hw hK
    have rne : r ≠ [] := fun z => hne (List.eq_nil_of_length_eq_zero (by rw [← e0, z]; rfl))
    have st := c.an e0 (fun S k => (e2 S k).1) fun j S q a b => ⟨(e3 j S q a b).1, (e3 j S q a b).2.1⟩
    have loS : ∀ S ∈ r, S.a < N := fun S k => by
      have : S.a ∈ r.map (·.a) := List.mem_map.mpr ⟨S, k, rfl⟩
      rw [e1] at this
      obtain ⟨q, hq, e⟩ := List.mem_map.mp this
      rw [← e]
      exact lo q hq
    have msz : ∀ S ∈ r, S.its.size = m := fun S k => by
      obtain ⟨j, hj⟩ := List.mem_iff_getElem?.mp k
      have hjl : j < rs.length := by rw [← e0]; exact (List.getElem?_eq_some_iff.mp hj).1
      have := (e3 j S rs[j] hj (List.getElem?_eq_getElem hjl)).2.2.length
      rw [Array.length_toList] at this
      rw [← this]
      exact hm _ (List.getElem_mem hjl)
    have nx := zipV_pyNext_item (prog := X.prog) (w := X.w) (A := X.A) (E := E) (I.ok.hd hc) rne (by omega) loS st (fun S k => by rw [msz S k]; exact him)
      (Q := fun r s1 => ∃ u, r = some u ∧ wpAny (model X.prog X.w) X.A (letOwnedTupleGo (.Name x tp) (.ref (N + rs.length + 2)) u) (fun _ s2 => ∃ y H', Inv X pins σ H' s2 ∧ RelV y u ∧ (zipJN rs m).yld i H y H' ∧ (i + 1 ≤ m ∧ CZ s2.heap N rs (i + 1)) ∧ ∀ b ∈ cellsZ N rs.length, H' b = none) E s1)
      (fun h' tk' T st' hT ht hk => ⟨_, rfl, by
        show wpAny (model X.prog X.w) X.A (pure ()) _ E _
        refine wpAny_pure ?_
        have cv : Vals (rs.map fun q => q.2.2.getD i .non) (colAt r i) := col_vals e0.symm fun j S q a b => (e3 j S q a b).2.2
        have new : ObjOk X.prog X.w (upd H T (.frz { cls := .type "tuple", data := .seq (colAt r i).toArray } (.tup (rs.map fun q => q.2.2.getD i .non)))) h' T (.frz { cls := .type "tuple", data := .seq (colAt r i).toArray } (.tup (rs.map fun q => q.2.2.getD i .non))) :=
          ⟨ht, by rw [List.length_map]; have := sizeLine_eq; omega, _, cv, ⟨_, ht, rfl, _, rfl⟩⟩
        have I1 := I.turnedNew (t' := tk') (ch := cellsZ N rs.length) (fun b o hb e => hk b o (by rw [e0]; exact out_cells hb) e) hf hT new
        refine ⟨.ref T, _, I1, rfl, ⟨T, _, rfl, I.hok.fresh hT, rfl, rfl⟩, ⟨him, st'.cz e0 fun j S q a b => ⟨(e3 j S q a b).1, (e3 j S q a b).2.1⟩⟩, fun b hb => ?_⟩
        obtain ⟨v, f, hz, _⟩ := c.z
        have hb3 : b ≠ T := cells_ne hb (Heap.lt_size hz) hT
        rw [upd_ne hb3]
        exact (hf b hb).1⟩)
    rw [e0] at nx
    exact nx
  done := by
    intro X hP hw hK hc i pins s σ H E I hf ⟨hi, c⟩ hg
    obtain ⟨hS, him⟩ := hg
    obtain ⟨r, e0, e1, e2, e3⟩ := srcs_ofK I hS
    subst hP hw hK
    have rne : r ≠ [] := fun z => hne (List.eq_nil_of_length_eq_zero (by rw [← e0, z]; rfl))
    have st := c.an e0 (fun S k => (e2 S k).1) fun j S q a b => ⟨(e3 j S q a b).1, (e3 j S q a b).2.1⟩
    have loS : ∀ S ∈ r, S.a < N := fun S k => by
      have : S.a ∈ r.map (·.a) := List.mem_map.mpr ⟨S, k, rfl⟩
      rw [e1] at this
      obtain ⟨q, hq, e⟩ := List.mem_map.mp this
      rw [← e]
      exact lo q hq
    have msz : ∀ S ∈ r, S.its.size = m := fun S k => by
      obtain ⟨j, hj⟩ := List.mem_iff_getElem?.mp k
      have hjl : j < rs.length := by rw [← e0]; exact (List.getElem?_eq_some_iff.mp hj).1
      have := (e3 j S rs[j] hj (List.getElem?_eq_getElem hjl)).2.2.length
      rw [Array.length_toList] at this
      rw [← this]
      exact hm _ (List.getElem_mem hjl)
    have nx := zipV_pyNext_end (prog := X.prog) (w := X.w) (A := X.A) (E := E) (I.ok.hd hc) rne loS st (fun S k => by rw [msz S k]; omega) (Q := fun r s1 => r = none ∧ Inv X pins σ H s1)
      (fun h' tk' hk => ⟨rfl, I.turnedL (t' := tk') (ch := cellsZ N rs.length) (fun b o hb e => hk b o (by rw [e0]; exact out_cells hb) e) hf⟩)
    rw [e0] at nx
    exact nx
  self := by
    intro A i s Q E ⟨_, c⟩ h
    obtain ⟨v, f, hz, _⟩ := c.z
    exact zipV_pyIter ⟨_, hz, rfl⟩ h
def gZipI (x : D) : Option (List D) := (gZipS x).bind gSeq
section
variable {X : Cx} {e : Expr} {p sp_ pos tp : Pos} {x : Str}
theorem deni_zipS {F : Mo D} (he : DenE X e F) (hc : X.calm = true) (hg : Gl X "zip") (hm : X.mg "zip" = none) (hst : starEach [.Starred e sp_] X.env = [(true, eval e X.env)] := by rfl) :
    DenI X (.Name x tp) (.Call (.Name "zip" p) [.Starred e sp_] [] pos) (mMap gZipI F) := by
  obtain ⟨t, h1, h2⟩ := he
  refine ⟨fun σ H R => t σ H fun y H1 => ∃ a xs, y = V.ref a ∧ (SqT X.K H1 a xs ∨ SqL X.K H1 a xs) ∧ ∃ (rs : Seqs) (m : Nat), xs = rs.map (fun q => V.ref q.2.1) ∧ rs ≠ [] ∧ rs.length ≤ 1000 ∧ (∀ q ∈ rs, HoS H1 q.2.1 q.1 q.2.2 ∧ q.2.2.length = m) ∧ R (zipJN rs m) H1, ⟨fun pins s σ H R I h => ?_⟩, fun P b σ env G H ds env' rr h R q => ?_⟩
  · refine wpAny_Call_Name_kw (ld_blt I hg hm PyProof.Rows.boot_zip ?_)
    refine callWith_tyS (thn (h1.run pins s σ H _ I h) fun v s1 ⟨y, H1, I1, ry, a, xs, ey, hx, rs, m, exs, hne, hl, hH, q⟩ => ?_) hst
    subst ey
    obtain rfl : v = Value.ref a := ry
    refine StX.star_any I1 hx fun us s2 I2 rv => ?_
    subst exs
    have eus := vals_refs_inv rv
    subst eus
    obtain ⟨r, e0, e1, e2, e3⟩ := srcs_ofK I2 (rs := rs) fun q hq => (hH q hq).1
    have eargs : (rs.map fun q => Value.ref q.2.1) = r.map srcV := by
      have := congrArg (List.map Value.ref) e1
      simpa [Function.comp_def] using this.symm
    rw [eargs]
    refine zip_callN (by omega) (fun S hS => (e2 S hS).1) ?_
    have st := zZ_an fun S hS => (e2 S hS).1
    have cz := st.cz e0 fun j S q a b => ⟨(e3 j S q a b).1, (e3 j S q a b).2.1⟩
    have ty : Shared.TypeIs { s2 with heap := zZ s2.heap r } (.ref (s2.heap.objs.size + r.length + 2)) "zip" := ZAn.ty (s := { s2 with heap := zZ s2.heap r }) st
    refine zipV_pyIter ty ?_
    have I3 : Inv X pins σ H1 { s2 with heap := zZ s2.heap r } := I2.kept (t' := s2.toks) fun b o e => zZ_keep b o e
    refine ⟨_, cellsZ s2.heap.objs.size rs.length, fun i h => i ≤ m ∧ CZ h s2.heap.objs.size rs i, zipJN rs m, H1, rfl, I3, ?_, ⟨Nat.zero_le _, cz⟩, fun b hb => ?_, q⟩
    · rw [e0]
      refine turn_zipN hne hl (fun q hq => (hH q hq).2) fun q hq => ?_
      have : q.2.1 ∈ rs.map (·.2.1) := List.mem_map.mpr ⟨q, hq, rfl⟩
      rw [← e1] at this
      obtain ⟨S, hS, e⟩ := List.mem_map.mp this
      rw [← e]
      exact (e2 S hS).2
    · have hle := (mem_cellsZ.mp hb).1
      exact I2.fpOk hle (I2.hok.fresh hle)
  · obtain ⟨z, hk, hz⟩ := mMap_some h
    refine h2 P b σ env G H z env' rr hk _ fun v G' H' g r pr => ?_
    unfold gZipI gZipS at hz
    split at hz
    · cases hz
    · rename_i ds' hds
      split at hz
      · rename_i r0' rs0 hq
        split at hz
        · rename_i hcond
          obtain ⟨h1m, hlen, hall⟩ := hcond
          have hz' : colD (r0' :: rs0) r0'.length = ds := Option.some.inj hz
          subst hz'
          obtain ⟨kd, a, vs, e1, e2, e3⟩ := pr.seq hds
          subst e1
          obtain ⟨rs, f1, f2, f3, f4⟩ := seqs_rp e3 hq
          have hlm : ∀ q ∈ rs, q.2.2.length = r0'.length := fun q' hq' => by
            obtain ⟨j, hj⟩ := List.mem_iff_getElem?.mp hq'
            have hjl : j < (r0' :: rs0).length := by rw [← f2]; exact (List.getElem?_eq_some_iff.mp hj).1
            have e4 : (r0' :: rs0)[j]? = some ((r0' :: rs0)[j]) := List.getElem?_eq_getElem hjl
            rw [(f4 j q' _ hj e4).length]
            have hmem : (r0' :: rs0)[j] ∈ r0' :: rs0 := List.getElem_mem hjl
            rcases List.mem_cons.mp hmem with z | z
            · rw [z]
            · have := List.all_eq_true.mp hall _ z
              simpa using this
          have hne : rs ≠ [] := fun z => by rw [z] at f2; simp at f2
          have hx : SqT X.K H' a vs ∨ SqL X.K H' a vs := by
            cases kd with
            | true => exact .inr (.of (r.sub _ _ (show G' a = some (.lst vs) from e2)))
            | false => exact .inl (TupS.sq (show TupS G' a vs from e2) r.sub)
          have hl2 : rs.length ≤ 1000 := by rw [f2, List.length_cons]; omega
          refine ⟨a, vs, rfl, hx, rs, r0'.length, f1, hne, hl2, fun q' hq' => ⟨(f3 q' hq').mono r.sub, hlm q' hq'⟩, q _ G' H' g r fun i G1 H1 k1 k2 => ⟨fun hi => ⟨fun q' hq' => ((f3 q' hq').mono k1).mono k2, ?_⟩, fun d hd => ?_⟩⟩
          · unfold colD at hi
            rw [List.length_map, List.length_range] at hi
            exact hi
          · unfold colD at hd
            rw [List.getElem?_map] at hd
            have hi : i < r0'.length := by
              by_cases c : i < r0'.length
              · exact c
              · rw [List.getElem?_eq_none (by rw [List.length_range]; omega)] at hd
                cases hd
            rw [List.getElem?_range hi] at hd
            cases hd
            refine ⟨⟨fun q' hq' => ((f3 q' hq').mono k1).mono k2, hi⟩, fun y H2 yl => ?_⟩
            obtain ⟨T, o, rfl, hT, ho, rfl⟩ := yl
            have pu := Pu.new (o := .frz o (.tup (rs.map fun q => q.2.2.getD i .non))) k2 hT
            refine ⟨_, pu, .of (.tup (TupS.new ho) ?_)⟩
            exact RpAll.mono pu.g (RpAll.mono k1 (col_rp f2 f4))
        · cases hz
      · cases hz
end
end Dn
namespace Dn
open PySem PySem.Spec PyProof.Rows L2
open Evl (Ex fresh_back)
def lc2Go (tgt : D → DEnv → Option DEnv) (test : Mo Bool) (items1 : Mo (List D)) (tgt1 : D → DEnv → Option DEnv) (test1 : Mo Bool) (elt : Mo D) (vs vs1 : List Nat) : List D → DEnv → Option (List D × DEnv)
  | [], e => some ([], e)
  | d :: ds, e =>
    match tgt d e with
    | none => none
    | some e1 =>
      match test e1 with
      | none => none
      | some (k, e2) =>
        if k = true then
          match items1 e2 with
          | none => none
          | some (ds1, e3) =>
            match lcGo tgt1 test1 elt vs1 ds1 (wipeD e3 vs1) with
            | none => none
            | some (ys, e4) =>
              match lc2Go tgt test items1 tgt1 test1 elt vs vs1 ds (wipeD e4 vs) with
              | none => none
              | some (zs, e5) => some (ys ++ zs, e5)
        else lc2Go tgt test items1 tgt1 test1 elt vs vs1 ds (wipeD e2 vs)
def mLc2 (items : Mo (List D)) (tgt : D → DEnv → Option DEnv) (test : Mo Bool) (items1 : Mo (List D)) (tgt1 : D → DEnv → Option DEnv) (test1 : Mo Bool) (elt : Mo D) (vs vs1 : List Nat) : Mo (List D) := fun env =>
  match items env with
  | none => none
  | some (ds, e1) =>
    if okW e1 vs = true then
      match lc2Go tgt test items1 tgt1 test1 elt vs vs1 ds (wipeD e1 vs) with
      | none => none
      | some (ys, e2) => if ys.length ≤ 100000 then some (ys, restD e1 e2 vs) else none
    else none
theorem wipe_wipe {σ : L2.St} {vs vs1 : List Nat} (h : ∀ j ∈ vs1, j ∈ vs) : wipe (wipe σ vs1) vs = wipe σ vs := by
  refine List.ext_getElem? fun j => ?_
  by_cases hj : j ∈ vs
  · by_cases hlt : j < σ.length
    · rw [wipe_in hj (by rw [wipe_length]; exact hlt), wipe_in hj hlt]
    · rw [List.getElem?_eq_none (by rw [wipe_length, wipe_length]; omega), List.getElem?_eq_none (by rw [wipe_length]; omega)]
  · rw [wipe_out hj, wipe_out hj, wipe_out fun z => hj (h j z)]
def cI (tg : Expr) (F : Mo (List D)) : TI := fun σ H R => ∃ (P : Addr → Prop) (b : Bs) (env : DEnv) (G : Hp) (ds : List D) (env' : DEnv), Rep P b G H σ env ∧ F env = some (ds, env') ∧ ∀ J G' H', Gr P G H G' H' → Rep P b G' H' σ env' → Yields tg J G' ds → R J H'
theorem DenI.pi {X : Cx} {tg e : Expr} {F : Mo (List D)} (h : DenI X tg e F) : PI X tg e (cI tg F) := by
  obtain ⟨t, h1, h2⟩ := h
  exact ⟨fun pins s σ H R I ⟨P, b, env, G, ds, env', r, hF, q⟩ => h1.run pins s σ H R I (h2 P b σ env G H ds env' r hF R q)⟩
section
variable {X : Cx} {tg tg1 e iter iter1 elt : Expr} {pos : Pos} {ifs ifs1 : List Expr} {scope : Scope}
theorem lc2_run {ts ts1 vs vs1 : List Nat} {Fi Fi1 : Mo (List D)} {B B1 : D → DEnv → Option DEnv} {Ft Ft1 : Mo Bool} {Fe : Mo D} {wi wi1 : TI} {g g1 : TG} {tt tt1 : TT} {te : TE}
    (i2 : ∀ (P : Addr → Prop) (b : Bs) (σ : L2.St) (env : DEnv) (G H : Hp) (ds : List D) (env' : DEnv), Rep P b G H σ env → Fi env = some (ds, env') →
      ∀ R : It → Hp → Prop, (∀ J G' H', Gr P G H G' H' → Rep P b G' H' σ env' → Yields tg J G' ds → R J H') → wi σ H R)
    (g2 : ∀ (P : Addr → Prop) (b : Bs) (σ : L2.St) (env : DEnv) (G H : Hp) (v : V) (d : D) (env' : DEnv), Rep P b G H σ env → RpT tg G v d → B d env = some env' →
      ∀ Q : L2.St → Hp → Prop, (∀ σ' : L2.St, Rep P b G H σ' env' → σ'.length = σ.length → (∀ j : Nat, j ∉ ts → σ'[j]? = σ[j]?) → Q σ' H) → g v σ H Q)
    (t2 : ∀ (P : Addr → Prop) (b : Bs) (σ : L2.St) (env : DEnv) (G H : Hp) (d : Bool) (env' : DEnv), Rep P b G H σ env → Ft env = some (d, env') →
      ∀ Q : Bool → Hp → Prop, (∀ G' H', Gr P G H G' H' → Rep P b G' H' σ env' → Q d H') → tt σ H Q)
    (j2 : ∀ (P : Addr → Prop) (b : Bs) (σ : L2.St) (env : DEnv) (G H : Hp) (ds : List D) (env' : DEnv), Rep P b G H σ env → Fi1 env = some (ds, env') →
      ∀ R : It → Hp → Prop, (∀ J G' H', Gr P G H G' H' → Rep P b G' H' σ env' → Yields tg1 J G' ds → R J H') → wi1 σ H R)
    (h2 : ∀ (P : Addr → Prop) (b : Bs) (σ : L2.St) (env : DEnv) (G H : Hp) (v : V) (d : D) (env' : DEnv), Rep P b G H σ env → RpT tg1 G v d → B1 d env = some env' →
      ∀ Q : L2.St → Hp → Prop, (∀ σ' : L2.St, Rep P b G H σ' env' → σ'.length = σ.length → (∀ j : Nat, j ∉ ts1 → σ'[j]? = σ[j]?) → Q σ' H) → g1 v σ H Q)
    (u2 : ∀ (P : Addr → Prop) (b : Bs) (σ : L2.St) (env : DEnv) (G H : Hp) (d : Bool) (env' : DEnv), Rep P b G H σ env → Ft1 env = some (d, env') →
      ∀ Q : Bool → Hp → Prop, (∀ G' H', Gr P G H G' H' → Rep P b G' H' σ env' → Q d H') → tt1 σ H Q)
    (e2 : ∀ (P : Addr → Prop) (b : Bs) (σ : L2.St) (env : DEnv) (G H : Hp) (d : D) (env' : DEnv), Rep P b G H σ env → Fe env = some (d, env') →
      ∀ Q : VK, (∀ v G' H', Gr P G H G' H' → Rep P b G' H' σ env' → Rp G' v d → Q v H') → te σ H Q)
    (hts : ∀ j ∈ ts, j ∈ vs) (hts1 : ∀ j ∈ ts1, j ∈ vs1) (hvv : ∀ j ∈ vs1, j ∈ vs) {P : Addr → Prop} {b : Bs} {σ : L2.St} {env : DEnv} {G H : Hp} {out : List D} {env' : DEnv} (rr : Rep P b G H σ env) (h : mLc2 Fi B Ft Fi1 B1 Ft1 Fe vs vs1 env = some (out, env')) (Q : VK)
    (q : ∀ p vs G' H', Gr P G H G' H' → Rep (fun a => P a ∧ a ≠ p) b G' H' σ env' → P p → G' p = none → H' p = some (.lst vs) → RpAll G' vs out → Q (.ref p) H') : tLc2 wi g tt wi1 g1 tt1 te vs vs1 σ H Q := by
  unfold mLc2 at h
  cases w : Fi env with
  | none => rw [w] at h; cases h
  | some pr =>
    obtain ⟨ds, e1⟩ := pr
    simp only [w] at h
    split at h
    · rename_i hok
      cases w2 : lc2Go B Ft Fi1 B1 Ft1 Fe vs vs1 ds (wipeD e1 vs) with
      | none => simp only [w2] at h; cases h
      | some pr2 =>
        obtain ⟨ys, ef⟩ := pr2
        simp only [w2] at h
        split at h
        · rename_i hlen
          cases h
          refine i2 P b σ env G H ds e1 rr w _ fun J G1 H1 gr1 r1 hy Dl hD => ?_
          have hPD : P Dl := r1.fresh Dl hD
          have hGD : G1 Dl = none := fresh_back r1.sub hD
          have start0 : Rep (fun a => P a ∧ a ≠ Dl) b G1 (upd H1 Dl (.lst [])) (wipe σ vs) (wipeD e1 vs) := (r1.wipe vs).newH hD
          have gr0 : Gr P G1 H1 G1 (upd H1 Dl (.lst [])) := ⟨Ex.refl _, fun a o ha n => by
            rw [upd_ne (ne_of_none ha hD)]
            exact ha, fun _ _ n => n⟩
          have wk : ∀ {Ga Ha Gb Hb : Hp}, Gr (fun a => P a ∧ a ≠ Dl) Ga Ha Gb Hb → Gr P Ga Ha Gb Hb := fun g => g.wk fun x h => h.1
          have nP : ¬ (P Dl ∧ Dl ≠ Dl) := fun z => z.2 rfl
          refine ⟨fun i m H' => m = ds.length - i ∧ i ≤ ds.length ∧ ∃ e G' acc accd zs, Gr P G1 H1 G' H' ∧ Rep (fun a => P a ∧ a ≠ Dl) b G' H' (wipe σ vs) e ∧ H' Dl = some (.lst acc) ∧ G' Dl = none ∧ RpAll G' acc accd ∧
            lc2Go B Ft Fi1 B1 Ft1 Fe vs vs1 (ds.drop i) e = some (zs, ef) ∧ accd ++ zs = out, ⟨_, rfl, Nat.zero_le _, _, G1, [], [], out, gr0, start0, upd_same, hGD, .nil, by rw [List.drop_zero]; exact w2, rfl⟩, ?_⟩
          rintro i m H' ⟨rfl, hi, e, G', acc, accd, zs, gr, r', hacc, hGn, ra, hf, hout⟩
          by_cases hlt : i < ds.length
          · have hdi : ds[i]? = some ds[i] := List.getElem?_eq_getElem hlt
            obtain ⟨go, yl⟩ := (hy i G' H' gr.g r'.sub).2 _ hdi
            refine .inr ⟨go, fun H2 => i + 1 ≤ ds.length ∧ ∃ e G' acc accd zs, Gr P G1 H1 G' H2 ∧ Rep (fun a => P a ∧ a ≠ Dl) b G' H2 (wipe σ vs) e ∧ H2 Dl = some (.lst acc) ∧ G' Dl = none ∧ RpAll G' acc accd ∧
              lc2Go B Ft Fi1 B1 Ft1 Fe vs vs1 (ds.drop (i + 1)) e = some (zs, ef) ∧ accd ++ zs = out, fun H2 h2 => ⟨ds.length - (i + 1), by omega, rfl, h2⟩, fun x H2 y => ?_⟩
            obtain ⟨G2, pu, rx⟩ := yl x H2 y
            rw [List.drop_eq_getElem_cons hlt] at hf
            unfold lc2Go at hf
            have r2 := r'.pu pu
            have grA : Gr P G1 H1 G2 H2 := gr.trans (wk (pu.gr r'.fresh))
            have accA : H2 Dl = some (.lst acc) := pu.h _ _ hacc
            have gnA : G2 Dl = none := pu.n Dl (some_ne hacc) hGn
            cases w3 : B ds[i] e with
            | none => simp only [w3] at hf; cases hf
            | some eb =>
              simp only [w3] at hf
              refine g2 _ b (wipe σ vs) e G2 H2 x _ eb r2 rx w3 _ fun σ2 r3 l3 o3 => ⟨wipe_eq l3 o3 hts, ?_⟩
              have ew : wipe σ2 vs = wipe σ vs := wipe_eq l3 o3 hts
              cases w4 : Ft eb with
              | none => simp only [w4] at hf; cases hf
              | some pr4 =>
                obtain ⟨k, et⟩ := pr4
                simp only [w4] at hf
                refine t2 _ b σ2 eb G2 H2 k et r3 w4 _ fun G3 H3 g3 r4 => ?_
                have accB : H3 Dl = some (.lst acc) := g3.h _ _ accA nP
                have gnB : G3 Dl = none := g3.n Dl nP gnA
                cases k with
                | false =>
                  simp only [if_neg (show ¬ (false = true) by decide)] at hf ⊢
                  refine ⟨hlt, wipeD et vs, G3, acc, accd, zs, grA.trans (wk g3), ?_, accB, gnB, (ra.mono pu.g).mono g3.g, hf, hout⟩
                  rw [← ew]
                  exact r4.wipe vs
                | true =>
                  simp only [if_pos (show true = true from rfl)] at hf ⊢
                  cases w5 : Fi1 et with
                  | none => simp only [w5] at hf; cases hf
                  | some pr5 =>
                    obtain ⟨ds1, e3⟩ := pr5
                    simp only [w5] at hf
                    cases w6 : lcGo B1 Ft1 Fe vs1 ds1 (wipeD e3 vs1) with
                    | none => simp only [w6] at hf; cases hf
                    | some pr6 =>
                      obtain ⟨ys6, e4⟩ := pr6
                      simp only [w6] at hf
                      cases w7 : lc2Go B Ft Fi1 B1 Ft1 Fe vs vs1 (ds.drop (i + 1)) (wipeD e4 vs) with
                      | none => simp only [w7] at hf; cases hf
                      | some pr7 =>
                        obtain ⟨zs7, e5⟩ := pr7
                        simp only [w7] at hf
                        cases hf
                        refine j2 _ b σ2 et G3 H3 ds1 e3 r4 w5 _ fun J1 G4 H4 g4 r5 hy1 => ?_
                        have accC : H4 Dl = some (.lst acc) := g4.h _ _ accB nP
                        have gnC : G4 Dl = none := g4.n Dl nP gnB
                        have grC : Gr P G1 H1 G4 H4 := (grA.trans (wk g3)).trans (wk g4)
                        have raC : RpAll G4 acc accd := ((ra.mono pu.g).mono g3.g).mono g4.g
                        refine ⟨fun j k H' => k = ds1.length - j ∧ j ≤ ds1.length ∧ ∃ e G' acc accd zs, Gr P G1 H1 G' H' ∧ Ex G4 G' ∧ Rep (fun a => P a ∧ a ≠ Dl) b G' H' (wipe σ2 vs1) e ∧ H' Dl = some (.lst acc) ∧ G' Dl = none ∧ RpAll G' acc accd ∧
                          lcGo B1 Ft1 Fe vs1 (ds1.drop j) e = some (zs, e4) ∧ accd ++ (zs ++ zs7) = out, ⟨_, rfl, Nat.zero_le _, _, G4, acc, accd, ys6, grC, Ex.refl _, r5.wipe vs1, accC, gnC, raC, by rw [List.drop_zero]; exact w6, hout⟩, ?_⟩
                        rintro j k H' ⟨rfl, hj, e', G', acc', accd', zs', gr', ex', rj, hacc', hGn', ra', hf', hout'⟩
                        by_cases hlt1 : j < ds1.length
                        · have hdj : ds1[j]? = some ds1[j] := List.getElem?_eq_getElem hlt1
                          obtain ⟨go1, yl1⟩ := (hy1 j G' H' ex' rj.sub).2 _ hdj
                          refine .inr ⟨go1, fun H2 => j + 1 ≤ ds1.length ∧ ∃ e G' acc accd zs, Gr P G1 H1 G' H2 ∧ Ex G4 G' ∧ Rep (fun a => P a ∧ a ≠ Dl) b G' H2 (wipe σ2 vs1) e ∧ H2 Dl = some (.lst acc) ∧ G' Dl = none ∧ RpAll G' acc accd ∧
                            lcGo B1 Ft1 Fe vs1 (ds1.drop (j + 1)) e = some (zs, e4) ∧ accd ++ (zs ++ zs7) = out, fun H2 h2 => ⟨ds1.length - (j + 1), by omega, rfl, h2⟩, fun x1 H5 y1 => ?_⟩
                          obtain ⟨G5, pu1, rx1⟩ := yl1 x1 H5 y1
                          rw [List.drop_eq_getElem_cons hlt1] at hf'
                          unfold lcGo at hf'
                          have r6 := rj.pu pu1
                          have grD : Gr P G1 H1 G5 H5 := gr'.trans (wk (pu1.gr rj.fresh))
                          have accD : H5 Dl = some (.lst acc') := pu1.h _ _ hacc'
                          have gnD : G5 Dl = none := pu1.n Dl (some_ne hacc') hGn'
                          cases v3 : B1 ds1[j] e' with
                          | none => simp only [v3] at hf'; cases hf'
                          | some eb1 =>
                            simp only [v3] at hf'
                            refine h2 _ b (wipe σ2 vs1) e' G5 H5 x1 _ eb1 r6 rx1 v3 _ fun σ3 r7 l7 o7 => ⟨wipe_eq l7 o7 hts1, ?_⟩
                            have ew1 : wipe σ3 vs1 = wipe σ2 vs1 := wipe_eq l7 o7 hts1
                            cases v4 : Ft1 eb1 with
                            | none => simp only [v4] at hf'; cases hf'
                            | some pv4 =>
                              obtain ⟨k1, et1⟩ := pv4
                              simp only [v4] at hf'
                              refine u2 _ b σ3 eb1 G5 H5 k1 et1 r7 v4 _ fun G6 H6 g6 r8 => ?_
                              have accE : H6 Dl = some (.lst acc') := g6.h _ _ accD nP
                              have gnE : G6 Dl = none := g6.n Dl nP gnD
                              cases k1 with
                              | false =>
                                simp only [if_neg (show ¬ (false = true) by decide)] at hf' ⊢
                                refine ⟨hlt1, wipeD et1 vs1, G6, acc', accd', zs', grD.trans (wk g6), (ex'.trans pu1.g).trans g6.g, ?_, accE, gnE, (ra'.mono pu1.g).mono g6.g, hf', hout'⟩
                                rw [← ew1]
                                exact r8.wipe vs1
                              | true =>
                                simp only [if_pos (show true = true from rfl)] at hf' ⊢
                                cases v5 : Fe et1 with
                                | none => simp only [v5] at hf'; cases hf'
                                | some pv5 =>
                                  obtain ⟨yd, ee⟩ := pv5
                                  simp only [v5] at hf'
                                  cases v6 : lcGo B1 Ft1 Fe vs1 (ds1.drop (j + 1)) (wipeD ee vs1) with
                                  | none => simp only [v6] at hf'; cases hf'
                                  | some pv6 =>
                                    obtain ⟨ysj, ej⟩ := pv6
                                    simp only [v6] at hf'
                                    cases hf'
                                    refine e2 _ b σ3 et1 G6 H6 yd ee r8 v5 _ fun v G7 H7 g7 r9 pv => ?_
                                    have accF : H7 Dl = some (.lst acc') := g7.h _ _ accE nP
                                    have gnF : G7 Dl = none := g7.n Dl nP gnE
                                    have hal : acc'.length < 100000 := by
                                      have e1 := ra'.length
                                      have e2 := congrArg List.length hout'
                                      simp only [List.length_append, List.length_cons] at e2
                                      omega
                                    refine ⟨acc', accF, line_lt hal, hlt1, wipeD ee vs1, G7, acc' ++ [v], accd' ++ [yd], ysj, ?_, ((ex'.trans pu1.g).trans g6.g).trans g7.g, ?_, upd_same, gnF, (((ra'.mono pu1.g).mono g6.g).mono g7.g).append (.cons pv .nil), v6, by rw [List.append_assoc]; exact hout'⟩
                                    · have gg := (grD.trans (wk g6)).trans (wk g7)
                                      exact ⟨gg.g, fun a o ha n => by
                                        rw [upd_ne (show a ≠ Dl from fun z => n (by rw [z]; exact hPD))]
                                        exact gg.h a o ha n, gg.n⟩
                                    · rw [← ew1]
                                      exact (r9.wipe vs1).updH nP gnF
                        · have e0 : j = ds1.length := by omega
                          subst e0
                          rw [List.drop_length] at hf'
                          cases hf'
                          refine .inl ⟨(hy1 _ G' H' ex' rj.sub).1 (Nat.le_refl _), hlt, wipeD e4 vs, G', acc', accd', zs7, gr', ?_, hacc', hGn', ra', w7, hout'⟩
                          have rw' := rj.wipe vs
                          rw [wipe_wipe hvv, ew] at rw'
                          exact rw'
          · have e0 : i = ds.length := by omega
            subst e0
            rw [List.drop_length] at hf
            cases hf
            rw [List.append_nil] at hout
            subst hout
            exact .inl ⟨(hy _ G' H' gr.g r'.sub).1 (Nat.le_refl _), q Dl acc G' H' (gr1.trans gr) (r1.back r' gr.g hok) hPD hGn hacc ra⟩
        · cases h
    · cases h
theorem denn_lcc (own : List (Str × Nat)) {ts ts1 vs vs1 : List Nat} {Fi Fi1 : Mo (List D)} {B B1 : D → DEnv → Option DEnv} {Ft Ft1 : Mo Bool} {Fe : Mo D} (hc : X.calm = true) (hN : X.N.Nodup) (hi : DenI X tg iter Fi) (ok : BlkOk X.N X.env.scope scope own)
    (hg : ∀ (s : Shared) (H : Hp) (C : Addr) (cl : List (Str × Addr)) (fp : List Addr), DenG (X.blk s H scope (compEnvC scope cl C X.env) fp) tg ts B)
    (ht : ∀ (s : Shared) (H : Hp) (C : Addr) (cl : List (Str × Addr)) (fp : List Addr), DenTs (X.blk s H scope (compEnvC scope cl C X.env) fp) ifs Ft)
    (hi1 : ∀ (s : Shared) (H : Hp) (C : Addr) (cl : List (Str × Addr)) (fp : List Addr), DenI (X.blk s H scope (compEnvC scope cl C X.env) fp) tg1 iter1 Fi1)
    (hg1 : ∀ (s : Shared) (H : Hp) (C : Addr) (cl : List (Str × Addr)) (fp : List Addr), DenG (X.blk s H scope (compEnvC scope cl C X.env) fp) tg1 ts1 B1)
    (ht1 : ∀ (s : Shared) (H : Hp) (C : Addr) (cl : List (Str × Addr)) (fp : List Addr), DenTs (X.blk s H scope (compEnvC scope cl C X.env) fp) ifs1 Ft1)
    (he : ∀ (s : Shared) (H : Hp) (C : Addr) (cl : List (Str × Addr)) (fp : List Addr), DenE (X.blk s H scope (compEnvC scope cl C X.env) fp) elt Fe)
    (hvs : own.map (·.2) = vs := by rfl) (hts : ∀ j ∈ ts, j ∈ vs := by decide) (hts1 : ∀ j ∈ ts1, j ∈ vs1 := by decide) (hvv : ∀ j ∈ vs1, j ∈ vs := by decide) (hs : ∀ x, foldedSetIterable iter X.env x = pure x := by intro _; rfl) (hs1 : ∀ env x, foldedSetIterable iter1 env x = pure x := by intro _ _; rfl) :
    DenN X (.ListComp elt [⟨tg, iter, ifs, 0⟩, ⟨tg1, iter1, ifs1, 0⟩] scope pos) 1 (mMap (fun ds => some (.list ds)) (mLc2 Fi B Ft Fi1 B1 Ft1 Fe vs vs1)) := by
  obtain ⟨wi, i1, i2⟩ := hi
  subst hvs
  exact ⟨_, pe_lc2 (vs1 := vs1) hc hN i1 ok hvv (fun s H C cl fp => (hg s H C cl fp).pe) (fun s H C cl fp => (ht s H C cl fp).pe) (fun s H C cl fp => (hi1 s H C cl fp).pi) (fun s H C cl fp => (hg1 s H C cl fp).pe) (fun s H C cl fp => (ht1 s H C cl fp).pe) (fun s H C cl fp => (he s H C cl fp).pe) hs hs1, fun P b σ env G H out env' rr h Q q => by
    obtain ⟨ds, hd, hz⟩ := mMap_some h
    cases hz
    exact lc2_run i2 (fun P b σ env G H v d env' r rv hB Q q => cG_run r rv hB Q q) (fun P b σ env G H d env' r hF Q q => cTs_run r hF Q q) (fun P b σ env G H ds env' r hF R q => ⟨P, b, env, G, ds, env', r, hF, q⟩) (fun P b σ env G H v d env' r rv hB Q q => cG_run r rv hB Q q) (fun P b σ env G H d env' r hF Q q => cTs_run r hF Q q) (fun P b σ env G H d env' r hF Q q => cE_run r hF Q q) hts hts1 hvv rr hd Q fun p vs G' H' g r hP hg hh ra => q _ G' H' (fun a => a = p) g r (Tree.one hP hg hh ra)⟩
theorem dens_setLcc (i : Nat) {y : Str} {py spos : Pos} (own : List (Str × Nat)) {ts ts1 vs vs1 : List Nat} {Fi Fi1 : Mo (List D)} {B B1 : D → DEnv → Option DEnv} {Ft Ft1 : Mo Bool} {Fe : Mo D} (hc : X.calm = true) (hN : X.N.Nodup) (hy : X.N[i]? = some y) (hyl : X.env.scope.names.lookup y = some .local)
    (hsw : swapsWith (.ListComp elt [⟨tg, iter, ifs, 0⟩, ⟨tg1, iter1, ifs1, 0⟩] scope pos) (some (.Name y py)) spos.line X.env = pure true) (hi : DenI X tg iter Fi) (ok : BlkOk X.N X.env.scope scope own)
    (hg : ∀ (s : Shared) (H : Hp) (C : Addr) (cl : List (Str × Addr)) (fp : List Addr), DenG (X.blk s H scope (compEnvC scope cl C X.env) fp) tg ts B)
    (ht : ∀ (s : Shared) (H : Hp) (C : Addr) (cl : List (Str × Addr)) (fp : List Addr), DenTs (X.blk s H scope (compEnvC scope cl C X.env) fp) ifs Ft)
    (hi1 : ∀ (s : Shared) (H : Hp) (C : Addr) (cl : List (Str × Addr)) (fp : List Addr), DenI (X.blk s H scope (compEnvC scope cl C X.env) fp) tg1 iter1 Fi1)
    (hg1 : ∀ (s : Shared) (H : Hp) (C : Addr) (cl : List (Str × Addr)) (fp : List Addr), DenG (X.blk s H scope (compEnvC scope cl C X.env) fp) tg1 ts1 B1)
    (ht1 : ∀ (s : Shared) (H : Hp) (C : Addr) (cl : List (Str × Addr)) (fp : List Addr), DenTs (X.blk s H scope (compEnvC scope cl C X.env) fp) ifs1 Ft1)
    (he : ∀ (s : Shared) (H : Hp) (C : Addr) (cl : List (Str × Addr)) (fp : List Addr), DenE (X.blk s H scope (compEnvC scope cl C X.env) fp) elt Fe)
    (hvs : own.map (·.2) = vs := by rfl) (hts : ∀ j ∈ ts, j ∈ vs := by decide) (hts1 : ∀ j ∈ ts1, j ∈ vs1 := by decide) (hvv : ∀ j ∈ vs1, j ∈ vs := by decide) (hs : ∀ x, foldedSetIterable iter X.env x = pure x := by intro _; rfl) (hs1 : ∀ env x, foldedSetIterable iter1 env x = pure x := by intro _ _; rfl) :
    DenS X (.Assign [.Name y py] (.ListComp elt [⟨tg, iter, ifs, 0⟩, ⟨tg1, iter1, ifs1, 0⟩] scope pos) spos) (sSet i (mMap (fun ds => some (.list ds)) (mLc2 Fi B Ft Fi1 B1 Ft1 Fe vs vs1))) := by
  obtain ⟨wi, i1, i2⟩ := hi
  subst hvs
  have base := ps_setLc2 (vs1 := vs1) hc hN hy hyl hsw i1 ok hvv (fun s H C cl fp => (hg s H C cl fp).pe) (fun s H C cl fp => (ht s H C cl fp).pe) (fun s H C cl fp => (hi1 s H C cl fp).pi) (fun s H C cl fp => (hg1 s H C cl fp).pe) (fun s H C cl fp => (ht1 s H C cl fp).pe) (fun s H C cl fp => (he s H C cl fp).pe) hs hs1
  refine ⟨_, base, fun P b σ env G H r rr h Dd q => ?_⟩
  unfold sSet at h
  split at h
  · rename_i d e1 hd
    cases h
    obtain ⟨ds, hds, hz⟩ := mMap_some hd
    cases hz
    refine lc2_run i2 (fun P b σ env G H v d env' r rv hB Q q => cG_run r rv hB Q q) (fun P b σ env G H d env' r hF Q q => cTs_run r hF Q q) (fun P b σ env G H ds env' r hF R q => ⟨P, b, env, G, ds, env', r, hF, q⟩) (fun P b σ env G H v d env' r rv hB Q q => cG_run r rv hB Q q) (fun P b σ env G H d env' r hF Q q => cTs_run r hF Q q) (fun P b σ env G H d env' r hF Q q => cE_run r hF Q q) hts hts1 hvv rr hds _ fun p vs G' H' g r hP hg hh ra => ?_
    obtain ⟨G2, e1, e2, n, rv, r2⟩ := Rep.know (N := fun a => a = p) r (Tree.one hP hg hh ra)
    exact q _ G2 H' ⟨g.g.trans e1, g.h, fun a ha hn => n a ha (g.n a ha hn)⟩ (r2.set rv)
  · cases h
end
end Dn
set_option maxHeartbeats 1000000
namespace Dn
open PySem PySem.Spec PyProof.Rows L2
open Evl (Ex fresh_back)
def rngD (lo hi : Int) : D := .dict [(.bool true, .tuple [.int lo, .int hi])]
def gRgV1 : List D → Option D
  | [.int j] => some (rngD 0 j)
  | _ => none
def gRgV2 : List D → Option D
  | [.int i, .int j] => some (rngD i j)
  | _ => none
def gSeqR : D → Option (List D)
  | .dict [(.bool true, .tuple [.int i, .int j])] => if -(2 ^ 62) ≤ i ∧ i < 2 ^ 62 ∧ -(2 ^ 62) ≤ j ∧ j < 2 ^ 62 then some (rangeD i (j - i).toNat) else none
  | _ => none
theorem Rp.inv_rng {G : Hp} {v : V} {lo hi : Int} (h : Rp G v (.dict [(.bool true, .tuple [.int lo, .int hi])])) : ∃ a, v = .ref a ∧ G a = some (.rng lo hi) := by
  generalize hgen : (PyData.dict [(.bool true, .tuple [.int lo, .int hi])]) = dd at h
  cases h with
  | rng ha => cases hgen; exact ⟨_, rfl, ha⟩
  | dK ha hl ra =>
    rename_i a ks xs es
    exfalso
    cases ks with
    | nil => simp at hgen
    | cons k ks => cases es with
      | nil => simp at hgen
      | cons e es => cases k <;> simp [keyD] at hgen
  | dT ha hl ra =>
    rename_i a rows es
    exfalso
    cases rows with
    | nil => simp at hgen
    | cons k ks => cases es with
      | nil => simp at hgen
      | cons e es => simp at hgen
  | _ => cases hgen
section
variable {X : Cx} {a b e tg : Expr} {p pos : Pos}
theorem cr_range1 : CallR X (.type "range") (fun vs H Q => ∃ j, vs = [V.int j] ∧ ∀ p, H p = none → Q (.ref p) (upd H p (.rng 0 j))) := by
  intro pins s σ H vs us Q I r h
  obtain ⟨j, rfl, q⟩ := h
  cases r with
  | cons rj rr =>
    cases rr
    obtain ⟨u, rfl⟩ := rj
    refine call_range_1 ⟨.ref s.heap.objs.size, upd H s.heap.objs.size (.rng 0 j), I.laid (t' := s.toks + 1 + 1) (fun b o e => Heap.get?_push_of_some _ e) (Nat.le_refl _) ?_, rfl, q _ (I.hok.fresh (Nat.le_refl _))⟩
    exact ⟨_, _, _, Heap.get?_push_size _ rfl⟩
theorem den_range1 {F : Mo (List D)} (hg : Gl X "range") (hm : X.mg "range" = none) (ha : DenA X [a] F) (hs : starEach [a] X.env = (false, eval a X.env) :: starEach [] X.env := by rfl) (hpl : (backTo pos (starEach [] X.env)).any (·.1) = false := by rfl) :
    DenE X (.Call (.Name "range" p) [a] [] pos) (mMap gRgV1 F) := by
  obtain ⟨t, h1, h2⟩ := ha
  refine ⟨_, pe_callTy cr_range1 hg hm boot_range h1 (by decide) (by decide) hs hpl, fun P b σ env G H d env' rr h Q q => ?_⟩
  obtain ⟨z, hk, hz⟩ := mMap_some h
  refine h2 P b σ env G H z env' rr hk _ fun v G' H' g r pr => ?_
  unfold gRgV1 at hz
  split at hz
  · rename_i j
    cases hz
    obtain ⟨w, rfl, hw⟩ := pr.inv1
    refine ⟨j, by rw [hw.inv_int], fun y hy => ?_⟩
    have pu := Pu.new (o := HO.rng 0 j) r.sub hy
    exact q _ _ _ (g.trans (pu.gr r.fresh)) (r.pu pu) (.rng upd_same)
  · cases hz
theorem den_range2 {F : Mo (List D)} (hg : Gl X "range") (hm : X.mg "range" = none) (ha : DenA X [a, b] F) (hs : starEach [a, b] X.env = (false, eval a X.env) :: starEach [b] X.env := by rfl) (hpl : (backTo pos (starEach [b] X.env)).any (·.1) = false := by rfl) :
    DenE X (.Call (.Name "range" p) [a, b] [] pos) (mMap gRgV2 F) := by
  obtain ⟨t, h1, h2⟩ := ha
  refine ⟨_, pe_callTy cr_range2 hg hm boot_range h1 (by decide) (by decide) hs hpl, fun P b σ env G H d env' rr h Q q => ?_⟩
  obtain ⟨z, hk, hz⟩ := mMap_some h
  refine h2 P b σ env G H z env' rr hk _ fun v G' H' g r pr => ?_
  unfold gRgV2 at hz
  split at hz
  · rename_i i j
    cases hz
    obtain ⟨w, u, rfl, hw, hu⟩ := pr.inv2
    refine ⟨i, j, by rw [hw.inv_int, hu.inv_int], fun y hy => ?_⟩
    have pu := Pu.new (o := HO.rng i j) r.sub hy
    exact q _ _ _ (g.trans (pu.gr r.fresh)) (r.pu pu) (.rng upd_same)
  · cases hz
def iRngV (te : TE) : TI := fun σ H R => te σ H fun x H1 => ∃ a lo hi, x = V.ref a ∧ H1 a = some (.rng lo hi) ∧ (-(2 ^ 62) ≤ lo ∧ lo < 2 ^ 62 ∧ -(2 ^ 62) ≤ hi ∧ hi < 2 ^ 62) ∧ R (Itr lo (hi - lo).toNat) H1
theorem pi_rngV {te : TE} (he : PE X e te) : PI X tg e (iRngV te) := by
  refine ⟨fun pins s σ H R I h => ?_⟩
  refine thn (he.run pins s σ H _ I h) fun v s1 ⟨x, H1, I1, r1, q1⟩ => ?_
  obtain ⟨a, lo, hi, rfl, ha, ⟨b1, b2, b3, b4⟩, q⟩ := q1
  cases r1
  obtain ⟨t, u, w, ho⟩ := I1.hok a _ ha
  refine wpAny_pyIter_range ho (small_one b1 b2 b3 b4) ?_
  refine ⟨s1.heap.objs.size, [s1.heap.objs.size], _, _, H1, rfl, I1.kept (t' := s1.toks) fun b o e => Heap.get?_push_of_some _ e, turn_range _ lo (hi - lo).toNat, ?_, fun b hb => ?_, q⟩
  · have e1 : lo + ((0 : Nat) : Int) * 1 = lo := by simp
    have e2 : (((hi - lo).toNat : Nat) : Int) - ((0 : Nat) : Int) = Builtin.Range.rangeSize lo hi 1 := by rw [rangeSize_one]; split <;> omega
    show IsRangeIter _ _ (lo + ((0 : Nat) : Int) * 1) ((((hi - lo).toNat : Nat) : Int) - ((0 : Nat) : Int)) 1
    rw [e1, e2]
    exact Heap.get?_push_size _ rfl
  · have e : b = s1.heap.objs.size := by simpa using hb
    subst e
    exact I1.fpOk (Nat.le_refl _) (I1.hok.fresh (Nat.le_refl _))
theorem deni_rngV {F : Mo D} (h : DenE X e F) : DenI X tg e (mMap gSeqR F) := by
  obtain ⟨t, h1, h2⟩ := h
  refine ⟨_, pi_rngV h1, fun P b σ env G H ds env' rr h R q => ?_⟩
  obtain ⟨z, hk, hz⟩ := mMap_some h
  refine h2 P b σ env G H z env' rr hk _ fun v G' H' g r pr => ?_
  unfold gSeqR at hz
  split at hz
  · rename_i i j
    split at hz
    · rename_i hb
      cases hz
      obtain ⟨a, rfl, ha⟩ := pr.inv_rng
      exact ⟨a, i, j, rfl, r.sub _ _ ha, hb, q _ G' H' g r (yields_range i _)⟩
    · cases hz
  · cases hz
end
end Dn
set_option maxHeartbeats 1000000
namespace Dn
open PySem PySem.Spec PyProof.Rows L2
open Evl (Ex fresh_back)
abbrev PT := List Nat × List Nat
def itP (n : Nat) : Nat → PT → Option PT
  | 0, p => some p
  | i + 1, p => (itP n i p).bind fun q => nxP n n q.1 q.2
def p0 (n : Nat) : PT := (List.range n, (List.range n).map fun i => n - i)
def PSt (n i : Nat) : Option PT := itP n i (p0 n)
structure PtOk (n : Nat) (p : PT) : Prop where
  a : p.1.length = n
  b : p.2.length = n
  c : ∀ x ∈ p.1, x < n
theorem mem_set_lt {n : Nat} {l : List Nat} (h : ∀ x ∈ l, x < n) {i v : Nat} (hv : v < n) : ∀ x ∈ l.set i v, x < n := fun x hx => by
  rcases List.mem_or_eq_of_mem_set hx with z | z
  · exact h x z
  · rw [z]; exact hv
theorem getD_lt {n : Nat} {l : List Nat} (h : ∀ x ∈ l, x < n) (h0 : 0 < n) (k : Nat) : l.getD k 0 < n := by
  rw [List.getD_eq_getElem?_getD]
  cases e : l[k]? with
  | none => exact h0
  | some x => exact h x (List.mem_of_getElem? e)
theorem nxP_ok {n : Nat} (h0 : 0 < n) : ∀ (k : Nat) (ix cy : List Nat) (q : PT), k ≤ n → PtOk n (ix, cy) → nxP n k ix cy = some q → PtOk n q
  | 0, ix, cy, q, _, _, h => by cases h
  | k + 1, ix, cy, q, hk, ok, h => by
    have ha : ix.length = n := ok.a
    have hb : cy.length = n := ok.b
    have hc : ∀ x ∈ ix, x < n := ok.c
    rw [nxP] at h
    cases e : cy.getD k 0 - 1 with
    | zero =>
      rw [e] at h
      refine nxP_ok h0 k _ _ q (by omega) ⟨?_, ?_, ?_⟩ h
      · show (ix.take k ++ ix.drop (k + 1) ++ [ix.getD k 0]).length = n
        simp
        omega
      · show (cy.set k (n - k)).length = n
        rw [List.length_set]; exact hb
      · intro x hx
        have hx : x ∈ ix.take k ++ ix.drop (k + 1) ++ [ix.getD k 0] := hx
        rcases List.mem_append.mp hx with z | z
        · rcases List.mem_append.mp z with z | z
          · exact hc x (List.mem_of_mem_take z)
          · exact hc x (List.mem_of_mem_drop z)
        · rw [List.mem_singleton.mp z]; exact getD_lt hc h0 k
    | succ c =>
      rw [e] at h
      cases h
      refine ⟨?_, ?_, ?_⟩
      · show ((ix.set k _).set _ _).length = n
        rw [List.length_set, List.length_set]; exact ha
      · show (cy.set k (c + 1)).length = n
        rw [List.length_set]; exact hb
      · exact mem_set_lt (mem_set_lt hc (getD_lt hc h0 _)) (getD_lt hc h0 _)
theorem PSt_ok {n : Nat} (h0 : 0 < n) : ∀ (i : Nat) (q : PT), PSt n i = some q → PtOk n q
  | 0, q, h => by
    cases h
    exact ⟨by simp [p0], by simp [p0], fun x hx => List.mem_range.mp hx⟩
  | i + 1, q, h => by
    have h : (PSt n i).bind (fun q => nxP n n q.1 q.2) = some q := h
    cases e : PSt n i with
    | none => rw [e] at h; cases h
    | some p =>
      rw [e] at h
      exact nxP_ok h0 n p.1 p.2 q (Nat.le_refl n) (PSt_ok h0 i p e) h
/-- the walk -/
def Itp (n : Nat) : It :=
  ⟨fun i _ => (PSt n i).isSome = true, fun i H v H' => ∃ (T : Addr) (o : Obj) (p : PT), v = .ref T ∧ H T = none ∧ o.dict = none ∧ PSt n i = some p ∧ H' = upd H T (.frz o (.tup (p.1.map fun (k : Nat) => V.int k))), fun i _ => PSt n i = none⟩
def tnP (n : Nat) (a T : Addr) (acc : Array Value) (i : Nat) (h : Heap) : Prop :=
  h.get? T = some { cls := .type "tuple", data := .seq acc } ∧ match i with
    | 0 => IsPerm h a T 0 n .none (num0 n)
    | j + 1 => ∃ (old : Value) (p : PT), PSt n j = some p ∧ IsPerm h a T 1 n old ((p.1 ++ p.2).map fun (k : Nat) => (k : Int))
theorem acc_at {n : Nat} {acc : Array Value} (h : ItemsOf (fun i v => ∃ t, v = .int (0 + (i : Int) * 1) t) acc n) {k : Nat} (hk : k < n) : ∃ t, acc.getD k .none = .int k t := by
  have hs : k < acc.size := by rw [h.1]; exact hk
  obtain ⟨t, e⟩ := h.2 k acc[k] (Array.getElem?_eq_getElem hs)
  refine ⟨t, ?_⟩
  rw [Array.getD_eq_getD_getElem?, Array.getElem?_eq_getElem hs]
  show acc[k] = _
  rw [e, Int.zero_add, Int.mul_one]
theorem acc_vals {n : Nat} {acc : Array Value} (h : ItemsOf (fun i v => ∃ t, v = .int (0 + (i : Int) * 1) t) acc n) : ∀ (l : List Nat), (∀ x ∈ l, x < n) → Vals (l.map fun (k : Nat) => V.int k) (l.map fun i => acc.getD i .none)
  | [], _ => .nil
  | x :: l, hl => .cons (by obtain ⟨t, e⟩ := acc_at h (hl x (by simp)); exact ⟨t, e⟩) (acc_vals h l fun y hy => hl y (by simp [hy]))
theorem num0_nat (n : Nat) : (num0 n).map Int.toNat = (p0 n).1 ++ (p0 n).2 := by
  unfold num0 p0
  rw [List.map_append, List.map_map, List.map_map]
  congr 1
  · exact (List.map_congr_left fun x _ => by simp).trans (List.map_id _)
  · exact List.map_congr_left fun x _ => by simp [Function.comp]
theorem nat_back (l : List Nat) : (l.map fun (k : Nat) => (k : Int)).map Int.toNat = l := by
  rw [List.map_map]
  exact (List.map_congr_left fun x _ => by simp).trans (List.map_id _)
theorem turn_perm {P : Program} {w : World} {K : PySem.W.Frag} {tg : Expr} {n : Nat} (h0 : 0 < n) (hn : n ≤ 8) {a T : Addr} {acc : Array Value} (hacc : ItemsOf (fun i v => ∃ t, v = .int (0 + (i : Int) * 1) t) acc n) (hne : T ≠ a) :
    Turn P w K tg (Itp n) [a, T] a (tnP n a T acc) where
  mem := by simp
  obj := fun i h st b hb => by
    obtain ⟨hT, st⟩ := st
    have e' : b = a ∨ b = T := by simpa using hb
    rcases e' with z | z
    · rw [z]
      cases i with
      | zero => exact ⟨_, st, fun v q => nomatch q⟩
      | succ j => obtain ⟨old, p, _, st⟩ := st; exact ⟨_, st, fun v q => nomatch q⟩
    · rw [z]; exact ⟨_, hT, fun v q => nomatch q⟩
  keep := fun i h h' st k => by
    obtain ⟨hT, st⟩ := st
    refine ⟨k T (by simp) _ hT, ?_⟩
    cases i with
    | zero => exact k a (by simp) _ st
    | succ j => obtain ⟨old, p, e, st⟩ := st; exact ⟨old, p, e, k a (by simp) _ st⟩
  item := by
    intro X hP hw hK hc i pins s σ H E I hf ⟨hT, st⟩ hg
    subst hP hw hK
    have hg : (PSt n i).isSome = true := hg
    obtain ⟨p, hp⟩ := Option.isSome_iff_exists.mp hg
    have ok := PSt_ok h0 i p hp
    have fin : ∀ (h' : Heap) (old : Value), IsPerm h' a T 1 n old ((p.1 ++ p.2).map fun (k : Nat) => (k : Int)) → h'.get? s.heap.objs.size = some { cls := .type "tuple", data := .seq (p.1.map fun i => acc.getD i .none).toArray } → (∀ b o, b ≠ a → s.heap.get? b = some o → h'.get? b = some o) →
        ∃ u, some (Value.ref s.heap.objs.size) = some u ∧ wpAny (model X.prog X.w) X.A (letOwnedTupleGo tg (.ref a) u) (fun _ s2 => ∃ x H', Inv X pins σ H' s2 ∧ RelV x u ∧ (Itp n).yld i H x H' ∧ tnP n a T acc (i + 1) s2.heap ∧ ∀ b ∈ [a, T], H' b = none) E { s with heap := h' } := fun h' old q1 q2 q3 => by
      have hal : a < s.heap.objs.size := by
        cases i with
        | zero => exact Heap.lt_size st
        | succ j => obtain ⟨_, _, _, st⟩ := st; exact Heap.lt_size st
      have hTl : T < s.heap.objs.size := Heap.lt_size hT
      refine ⟨_, rfl, go_of (s := { s with heap := h' }) q1 rfl rfl (by decide) ?_⟩
      have cv := acc_vals hacc p.1 ok.c
      have new : ObjOk X.prog X.w (upd H s.heap.objs.size (.frz { cls := .type "tuple", data := .seq (p.1.map fun i => acc.getD i .none).toArray } (.tup (p.1.map fun (k : Nat) => V.int k)))) h' s.heap.objs.size (.frz { cls := .type "tuple", data := .seq (p.1.map fun i => acc.getD i .none).toArray } (.tup (p.1.map fun (k : Nat) => V.int k))) :=
        ⟨q2, by rw [List.length_map, ok.a, sizeLine_eq]; omega, _, cv, ⟨_, q2, rfl, _, rfl⟩⟩
      have I1 := I.turnedNew (t' := s.toks) (ch := [a, T]) (fun b o hb e => q3 b o (fun z => hb (by simp [z])) e) hf (Nat.le_refl _) new
      refine ⟨.ref s.heap.objs.size, _, I1, rfl, ⟨_, _, p, rfl, I.hok.fresh (Nat.le_refl _), rfl, hp, rfl⟩, ⟨q3 T _ hne hT, old, p, hp, q1⟩, fun b hb => ?_⟩
      have hb' : b ≠ s.heap.objs.size := by
        have e' : b = a ∨ b = T := by simpa using hb
        rcases e' with z | z
        · rw [z]; exact Nat.ne_of_lt hal
        · rw [z]; exact Nat.ne_of_lt hTl
      rw [upd_ne hb']
      exact (hf b hb).1
    cases i with
    | zero =>
      have hpp : p0 n = p := Option.some.inj hp
      have hTy : s.TypeIs (.ref a) "itertools.permutations" := ⟨_, st, rfl⟩
      unfold pyNext
      refine wpAny_bind (wpAny_attempt (wpAny_callSpecial?_slot (name := Str.ofString "__next__") hTy slot_perm_next
        (wpAny_call_entry slot_perm_next hTy entry_perm_next (perm_first st hn hT fun h' q1 q2 q3 => wpAny_pure ?_) (args_perm_next _))))
      refine fin h' (.ref s.heap.objs.size) ?_ ?_ q3
      · rw [← hpp]
        have e : num0 n = ((p0 n).1 ++ (p0 n).2).map fun (k : Nat) => (k : Int) := by
          rw [← num0_nat, List.map_map]
          refine ((List.map_congr_left fun x hx => ?_).trans (List.map_id _)).symm
          show ((x.toNat : Nat) : Int) = x
          unfold num0 at hx
          rcases List.mem_append.mp hx with z | z
          · obtain ⟨k, _, rfl⟩ := List.mem_map.mp z; simp
          · obtain ⟨k, hk, rfl⟩ := List.mem_map.mp z
            have := List.mem_range.mp hk
            omega
        rw [← e]
        exact q1
      · rw [q2, num0_nat, ← hpp]
        have e : ((p0 n).1 ++ (p0 n).2).take n = (p0 n).1 := by
          exact List.take_left' (by simp [p0])
        rw [e]
    | succ j =>
      obtain ⟨old, q, hq, st⟩ := st
      have okq := PSt_ok h0 j q hq
      have hTy : s.TypeIs (.ref a) "itertools.permutations" := ⟨_, st, rfl⟩
      have hnx : nxP n n q.1 q.2 = some p := by
        have z : (PSt n j).bind (fun q => nxP n n q.1 q.2) = some p := hp
        rw [hq] at z
        exact z
      have e1 : (q.1 ++ q.2).take n = q.1 := by
        exact List.take_left' okq.a
      have e2 : (q.1 ++ q.2).drop n = q.2 := by
        exact List.drop_left' okq.a
      unfold pyNext
      refine wpAny_bind (wpAny_attempt (wpAny_callSpecial?_slot (name := Str.ofString "__next__") hTy slot_perm_next
        (wpAny_call_entry slot_perm_next hTy entry_perm_next (perm_more (ix := p.1) (cy := p.2) hacc.1 st hn hT (by rw [nat_back, e1, e2]; exact hnx) (by rw [ok.a, ok.b]; omega) fun h' q1 q2 q3 => wpAny_pure ?_) (args_perm_next _))))
      refine fin h' _ q1 ?_ q3
      rw [q2]
      have : p.1.take n = p.1 := by rw [← ok.a, List.take_length]
      rw [this]
  done := by
    intro X hP hw hK hc i pins s σ H E I hf ⟨hT, st⟩ hg
    subst hP hw hK
    have hg : PSt n i = none := hg
    cases i with
    | zero => cases hg
    | succ j =>
      obtain ⟨old, q, hq, st⟩ := st
      have okq := PSt_ok h0 j q hq
      have hTy : s.TypeIs (.ref a) "itertools.permutations" := ⟨_, st, rfl⟩
      have hnx : nxP n n q.1 q.2 = none := by
        have z : (PSt n j).bind (fun q => nxP n n q.1 q.2) = none := hg
        rw [hq] at z
        exact z
      have e1 : (q.1 ++ q.2).take n = q.1 := by
        exact List.take_left' okq.a
      have e2 : (q.1 ++ q.2).drop n = q.2 := by
        exact List.drop_left' okq.a
      obtain ⟨f0, f1, f2, f3, f4, f5⟩ := hf a (by simp)
      unfold pyNext
      refine wpAny_bind (wpAny_attempt (wpAny_callSpecial?_slot (name := Str.ofString "__next__") hTy slot_perm_next
        (wpAny_call_entry slot_perm_next hTy entry_perm_next (perm_end (I.ok.hd hc) hacc.1 st hT (by rw [nat_back, e1, e2]; exact hnx) fun h' e hk he => ?_) (args_perm_next _))))
      obtain ⟨o, ho, hcl⟩ := he
      refine wpAny_bind (wpAny_isInstance (T := "StopIteration") (b := true) ⟨o, ho, hcl⟩ isSubtype_stop ?_)
      exact wpAny_pure ⟨rfl, I.turned (t' := s.toks) (fun b o hb q => hk b o hb q) f0 f1 f3 f4 f5⟩
  self := fun _ i s Q E st h => by
    obtain ⟨hT, st⟩ := st
    cases i with
    | zero => exact perm_iter st h
    | succ j => obtain ⟨old, p, e, st⟩ := st; exact perm_iter st h
section
variable {X : Cx} {tg e : Expr} {p pos : Pos} {te : TE}
theorem pi_perm {x : Str} (hc : X.calm = true) (he : PE X e te) (hg2 : Gl X x) (hm2 : X.mg x = some (.type "itertools.permutations")) (hd2 : (x == ("__debug__" : Str)) = false := by decide)
    (hst : starEach [e] X.env = (false, eval e X.env) :: starEach [] X.env := by rfl) :
    PI X tg (.Call (.Name x p) [e] [] pos) (fun σ H R => te σ H fun y H1 => ∃ (a : Addr) (n : Nat), y = V.ref a ∧ H1 a = some (.rng 0 n) ∧ 0 < n ∧ n ≤ 8 ∧ R (Itp n) H1) := by
  refine ⟨fun pins s σ H R I h => ?_⟩
  refine wpAny_Call_Name_kw (ld_glob I hg2 hm2 ?_ hd2)
  refine PyProof.Rows.callWith_type1 ?_ hst rfl
  rw [hst]
  refine Calls.spliced_cons ?_
  refine thn (he.run pins s σ H _ I h) fun v s1 ⟨y, H1, I1, ry, a, n, ey, hx, hn0, hn8, q⟩ => ?_
  subst ey
  obtain rfl : v = Value.ref a := ry
  refine Calls.spliced_nil ?_
  obtain ⟨t, u, w, ho⟩ := I1.hok a _ hx
  refine perm_call (I1.ok.hd hc) ho hn8 fun h' tk acc hk hacc => ?_
  have e1 : (h'.push { cls := .type "tuple", data := .seq acc }).objs.size = h'.objs.size + 1 := Heap.size_push _ _
  have st : IsPerm ((h'.push { cls := .type "tuple", data := .seq acc }).push { cls := .type "itertools.permutations", dict := none, data := .fields (permF h'.objs.size 0 n .none (num0 n)), slots := #[] }) (h'.objs.size + 1) h'.objs.size 0 n .none (num0 n) := by
    rw [← e1]
    exact Heap.get?_push_size _ rfl
  have hT : ((h'.push { cls := .type "tuple", data := .seq acc }).push { cls := .type "itertools.permutations", dict := none, data := .fields (permF h'.objs.size 0 n .none (num0 n)), slots := #[] }).get? h'.objs.size = some { cls := .type "tuple", data := .seq acc } := Heap.get?_push_of_some _ (Heap.get?_push_size _ rfl)
  have I2 : Inv X pins σ H1 { s1 with heap := (h'.push { cls := .type "tuple", data := .seq acc }).push { cls := .type "itertools.permutations", dict := none, data := .fields (permF h'.objs.size 0 n .none (num0 n)), slots := #[] }, toks := tk } := I1.kept (t' := tk) fun b o e => Heap.get?_push_of_some _ (Heap.get?_push_of_some _ (hk b o e))
  have I3 : Inv X pins σ H1 { s1 with heap := h', toks := tk } := I1.kept (t' := tk) fun b o e => hk b o e
  have hfr : ∀ b, h'.objs.size ≤ b → FpOk X pins H1 b := fun b hb => I3.fpOk hb (I3.hok.fresh hb)
  refine perm_iter st ?_
  refine ⟨h'.objs.size + 1, [h'.objs.size + 1, h'.objs.size], tnP n (h'.objs.size + 1) h'.objs.size acc, Itp n, H1, rfl, I2, turn_perm hn0 hn8 hacc (Nat.ne_of_lt (Nat.lt_succ_self _)), ⟨hT, st⟩, fun b hb => ?_, q⟩
  have e' : b = h'.objs.size + 1 ∨ b = h'.objs.size := by simpa using hb
  rcases e' with z | z
  · rw [z]; exact hfr _ (Nat.le_succ _)
  · rw [z]; exact hfr _ (Nat.le_refl _)
/-- all of them, in order; none where fuel ends -/
def permGo (n : Nat) : Nat → PT → Option (List (List Nat))
  | 0, _ => none
  | f + 1, p => match nxP n n p.1 p.2 with
    | none => some [p.1]
    | some q => (permGo n f q).map (p.1 :: ·)
theorem itP_first (n : Nat) : ∀ (i : Nat) (p : PT), itP n (i + 1) p = (nxP n n p.1 p.2).bind (itP n i)
  | 0, p => by
    show (some p).bind (fun q => nxP n n q.1 q.2) = _
    cases h : nxP n n p.1 p.2 with
    | none => simp [h]
    | some q => simp [h, itP]
  | i + 1, p => by
    show (itP n (i + 1) p).bind (fun q => nxP n n q.1 q.2) = _
    rw [itP_first n i p]
    cases h : nxP n n p.1 p.2 with
    | none => rfl
    | some q => rfl
theorem permGo_at {n : Nat} : ∀ (f : Nat) (p : PT) (ls : List (List Nat)), permGo n f p = some ls → ∀ i, ls[i]? = (itP n i p).map (·.1)
  | 0, p, ls, h, i => by cases h
  | f + 1, p, ls, h, i => by
    unfold permGo at h
    cases e : nxP n n p.1 p.2 with
    | none =>
      rw [e] at h
      cases h
      cases i with
      | zero => rfl
      | succ i => rw [itP_first, e]; rfl
    | some q =>
      rw [e] at h
      obtain ⟨ls', h1, rfl⟩ := Option.map_eq_some_iff.mp h
      cases i with
      | zero => rfl
      | succ i => rw [itP_first, e, List.getElem?_cons_succ]; exact permGo_at f q ls' h1 i
def gPerm : D → Option (List D)
  | .dict [(.bool true, .tuple [.int lo, .int hi])] => if lo = 0 ∧ 1 ≤ hi ∧ hi ≤ 8 then (permGo hi.toNat 50000 (p0 hi.toNat)).map fun ls => ls.map fun l => .tuple (l.map fun (k : Nat) => .int k) else none
  | _ => none
theorem RpAll.ofNats {G : Hp} : ∀ l : List Nat, RpAll G (l.map fun (k : Nat) => V.int k) (l.map fun (k : Nat) => PyData.int k)
  | [] => .nil
  | k :: l => .cons (.int _) (RpAll.ofNats l)
theorem deni_perm {x : Str} {F : Mo D} (hc : X.calm = true) (h : DenE X e F) (hg2 : Gl X x) (hm2 : X.mg x = some (.type "itertools.permutations")) (hd2 : (x == ("__debug__" : Str)) = false := by decide)
    (hst : starEach [e] X.env = (false, eval e X.env) :: starEach [] X.env := by rfl) : DenI X tg (.Call (.Name x p) [e] [] pos) (mMap gPerm F) := by
  obtain ⟨t, h1, h2⟩ := h
  refine ⟨_, pi_perm hc h1 hg2 hm2 hd2 hst, fun P b σ env G H ds env' rr h R q => ?_⟩
  obtain ⟨z, hk, hz⟩ := mMap_some h
  refine h2 P b σ env G H z env' rr hk _ fun v G' H' g r pr => ?_
  unfold gPerm at hz
  split at hz
  · rename_i lo hi
    split at hz
    · rename_i hb
      obtain ⟨rfl, hb1, hb2⟩ := hb
      obtain ⟨ls, hls, rfl⟩ := Option.map_eq_some_iff.mp hz
      obtain ⟨n, rfl⟩ : ∃ n : Nat, hi = n := ⟨hi.toNat, by omega⟩
      rw [Int.toNat_natCast] at hls
      obtain ⟨a, rfl, ha⟩ := pr.inv_rng
      have at' := permGo_at _ _ _ hls
      refine ⟨a, n, rfl, r.sub _ _ ha, by omega, by omega, q _ G' H' g r fun i G1 H1 e1 e2 => ⟨fun hi => ?_, fun d hd => ?_⟩⟩
      · rw [List.length_map] at hi
        have z := at' i
        rw [List.getElem?_eq_none hi] at z
        show PSt n i = none
        unfold PSt
        cases w : itP n i (p0 n) with
        | none => rfl
        | some q => rw [w] at z; cases z
      · rw [List.getElem?_map, at' i] at hd
        cases w : itP n i (p0 n) with
        | none => rw [w] at hd; cases hd
        | some q =>
          rw [w] at hd
          cases hd
          have w' : PSt n i = some q := w
          refine ⟨by show (PSt n i).isSome = true; rw [w']; rfl, fun x H' y => ?_⟩
          obtain ⟨T, o, p', rfl, hT, ho, hp', rfl⟩ := y
          rw [w'] at hp'
          cases hp'
          have pu := Pu.new (o := .frz o (.tup (q.1.map fun (k : Nat) => V.int k))) e2 hT
          exact ⟨_, pu, .of (.tup (TupS.new ho) (RpAll.ofNats q.1))⟩
    · cases hz
  · cases hz
end
end Dn
set_option maxHeartbeats 1000000
namespace Dn
open PySem PySem.Spec PyProof.Rows L2
open Evl (Ex fresh_back)
def gIdxT : D → D → Option D
  | .tuple xs, .int k => (intsOf xs).bind fun ns => if k ∈ ns then some (.int (ns.idxOf k : Nat)) else none
  | _, _ => none
theorem RpAll.ints_of {G : Hp} : ∀ {vs : List V} {xs : List D} {ns : List Int}, RpAll G vs xs → intsOf xs = some ns → vs = ns.map V.int
  | _, _, ns, .nil, h => by cases h; rfl
  | _, _, ns, .cons (d := d) (ds := ds) p r, h => by
    cases d with
    | int i =>
      have h : (intsOf ds).map (i :: ·) = some ns := h
      obtain ⟨ms, h1, rfl⟩ := Option.map_eq_some_iff.mp h
      rw [p.inv_int, RpAll.ints_of r h1]
      rfl
    | _ => cases h
section
variable {X : Cx} {o e : Expr} {apos cpos : Pos} {to : TE} {t : TA}
theorem pe_indexT (ho : PE X o to) (ha : PA X [e] t) (hbase : attributeBase o "index" X.env (eval o X.env) = eval o X.env := by rfl)
    (hline : (apos.endLine == cpos.line) = true := by rfl) (hs : starEach [e] X.env = (false, eval e X.env) :: starEach [] X.env := by rfl) :
    PE X (.Call (.Attribute o "index" apos) [e] [] cpos) (fun σ H Q => to σ H fun x H1 => ∃ (a : Addr) (xs : List V), x = .ref a ∧ TupS H1 a xs ∧
      t σ H1 fun ys H2 => ∃ (k : Int) (ns : List Int), ys = [.int k] ∧ xs = ns.map V.int ∧ TupS H2 a xs ∧ k ∈ ns ∧ Q (.int (ns.idxOf k : Nat)) H2) := by
  refine ⟨fun pins s σ H Q I h => wpAny_Call_method1_late (e := e) hbase hline (by rw [hs]; rfl) (thn (ho.run pins s σ H _ I h) fun v s1 hx => ?_)⟩
  obtain ⟨x, H1, I1, r1, a, xs, rfl, ⟨ob, hd, hH⟩, q1⟩ := hx
  cases r1
  obtain ⟨hg, hk⟩ : s1.heap.get? a = some ob ∧ ObjOk X.prog X.w H1 s1.heap a (.tup xs) := I1.hok a _ hH
  obtain ⟨_, its, _, ht⟩ := hk
  refine ⟨"tuple", "tuple.index", PySem.F.plainAttrs_tuple, PySem.F.slot_tuple_index, PySem.F.type_tuple_index, ht.typeIs, fun b e => by cases e; exact ⟨ob, hg, hd⟩, ?_⟩
  have hA := ha.run cpos pins s1 σ H1 _ I1 q1
  rw [hs] at hA
  refine Calls.callWith_builtin rfl (Calls.evalArgs_plain (thn hA fun us s2 hy => ?_))
  obtain ⟨vs, H2, I2, r2, k, ns, rfl, rfl, ht2, hc, q2⟩ := hy
  obtain ⟨u, rfl, ru⟩ := r2.one
  obtain ⟨tk, rfl⟩ := ru
  obtain ⟨its2, rv2, p2, _⟩ := I2.tuple (ht2.sq (Ex.refl H2))
  exact PySem.SeqAt.tuple_index_ints (vs := its2) (show s2.heap.IsTuple a its2.toArray from p2) (intsAre_of rv2) hc ⟨.int (ns.idxOf k : Nat), H2, I2.tok _, ⟨s2.toks, rfl⟩, q2⟩
theorem den_indexT {F F' : Mo D} (h : DenE X o F) (ha : DenE X e F') (hbase : attributeBase o "index" X.env (eval o X.env) = eval o X.env := by rfl)
    (hline : (apos.endLine == cpos.line) = true := by rfl) (hs : starEach [e] X.env = (false, eval e X.env) :: starEach [] X.env := by rfl) : DenE X (.Call (.Attribute o "index" apos) [e] [] cpos) (mBin gIdxT F F') := by
  obtain ⟨to, h1, h2⟩ := h
  obtain ⟨te, k1, k2⟩ := ha
  refine ⟨_, pe_indexT h1 (pa_cons k1 pa_nil hs) hbase hline hs, fun P b σ env G H d env' rr h Q q => ?_⟩
  obtain ⟨x, e1, hx, h⟩ := mBind_some h
  obtain ⟨y, e2, hy, h⟩ := mBind_some h
  obtain ⟨hg, rfl⟩ := mLift_some h
  refine h2 P b σ env G H x e1 rr hx _ fun v G1 H1 g1 r1 p1 => ?_
  unfold gIdxT at hg
  clear h
  split at hg
  · rename_i xs k
    cases w : intsOf xs with
    | none => rw [w] at hg; cases hg
    | some ns =>
      rw [w] at hg
      have hg : (if k ∈ ns then some (PyData.int (ns.idxOf k : Nat)) else none) = some d := hg
      split at hg
      · rename_i hk
        cases hg
        obtain ⟨a, vs, rfl, ha, ra⟩ := p1.inv_tup
        refine ⟨a, vs, rfl, ha.mono r1.sub, k2 P b σ e1 G1 H1 _ _ r1 hy _ fun w' G2 H2 g2 r2 p2 => ?_⟩
        exact ⟨k, ns, by rw [p2.inv_int], ra.ints_of w, (ha.mono g2.g).mono r2.sub, hk, q _ G2 H2 (g1.trans g2) r2 (.int _)⟩
      · cases hg
  · cases hg
end
structure ImpsP (mg : Str → Option Value) : Prop extends Imps mg where
  perm : mg "permutations" = some (.type "itertools.permutations")
end Dn
set_option maxHeartbeats 4000000
namespace Dn
open PySem PySem.Spec PyProof.Rows L2 PySem.W PySem.Calls
open Evl (Ex fresh_back)
/-- the value at b is the key -/
def KAt (H : Hp) (k : NestedKey) (b : Addr) : Prop := noT k = true ∧ k.depth ≤ 8 ∧ Rp H (.ref b) k.data
theorem KAt.mono {G H : Hp} (e : Ex G H) {k : NestedKey} {b : Addr} (h : KAt G k b) : KAt H k b := ⟨h.1, h.2.1, h.2.2.mono e⟩
section
variable {X : Cx} {pins : List (Addr × Obj)} {σ : L2.St} {H : Hp} {s : Shared} {a : Addr} {A : Around} {E : Value → Shared → Prop}
mutual
theorem nested_of (I : Inv X pins σ H s) : ∀ (k : NestedKey) {v : V} {u : Value}, noT k = true → Rp H v k.data → RelV v u → NestedIs s.heap k u
  | .none, v, u, _, r, q => by
    have r : Rp H v .none := r
    cases r
    obtain rfl : u = Value.none := q
    exact .none
  | .num i, v, u, _, r, q => by
    have e := Rp.inv_int r
    subst e
    obtain ⟨t, rfl⟩ := q
    exact .int i t
  | .text x, v, u, h, _, _ => by simp [noT] at h
  | .tup ks, v, u, h, r, q => by
    obtain ⟨p, vs, rfl, hp, ra⟩ := Rp.inv_tup r
    obtain rfl : u = Value.ref p := q
    obtain ⟨its, rv, pl, hz⟩ := I.tuple (hp.sq (Ex.refl H))
    obtain ⟨o, ho, hc, n, hd⟩ : ∃ o, s.heap.get? p = some o ∧ o.cls = .type "tuple" ∧ ∃ n, o.data = .seq its.toArray n := pl
    exact .tup ho hc hd (by simpa using nesteds_of I ks (by simpa [noT] using h) ra rv)
theorem nesteds_of (I : Inv X pins σ H s) : ∀ (ks : List NestedKey) {vs : List V} {us : List Value}, noTs ks = true → RpAll H vs (NestedKey.datas ks) → Vals vs us → NestedAll s.heap ks us
  | [], vs, us, _, r, q => by
    have r : RpAll H vs [] := r
    cases r
    cases q
    exact .nil
  | k :: ks, vs, us, h, r, q => by
    rw [noTs, Bool.and_eq_true] at h
    have r : RpAll H vs (k.data :: NestedKey.datas ks) := r
    cases r with
    | cons r1 r2 =>
      cases q with
      | cons q1 q2 => exact .cons (nested_of I k h.1 r1 q1) (nesteds_of I ks h.2 r2 q2)
end
theorem KAt.is (I : Inv X pins σ H s) {k : NestedKey} {b : Addr} (h : KAt H k b) : (nestedKind X.prog X.w).is s.heap k b := ⟨nested_of I k h.1 h.2.2 rfl, h.2.1⟩
end
def putN (rows : List NRow) (k : NestedKey) (b : Addr) (v : V) : List NRow := if (rows.any fun r => decide (r.1 = k)) = true then rows.map (fun r => if r.1 = k then (r.1, r.2.1, v) else r) else rows ++ [(k, b, v)]
theorem putN_len (rows : List NRow) (k : NestedKey) (b : Addr) (v : V) : (putN rows k b v).length ≤ rows.length + 1 := by
  unfold putN
  split <;> simp
theorem putN_keys {rows : List NRow} {k : NestedKey} {b : Addr} {v : V} (h : (rows.map (·.1)).Nodup) : ((putN rows k b v).map (·.1)).Nodup := by
  unfold putN
  split
  · have e : (rows.map fun r => if r.1 = k then (r.1, r.2.1, v) else r).map (·.1) = rows.map (·.1) := by
      rw [List.map_map]
      refine List.map_congr_left fun r _ => ?_
      show (if r.1 = k then ((r.1, r.2.1, v) : NRow) else r).1 = r.1
      split <;> rfl
    rw [e]
    exact h
  · rename_i hn
    rw [List.map_append]
    refine List.nodup_append.mpr ⟨h, by simp, fun x hx y hy e => hn ?_⟩
    obtain ⟨r, hr, rfl⟩ := List.mem_map.mp hx
    rw [List.any_eq_true]
    refine ⟨r, hr, decide_eq_true ?_⟩
    simp at hy
    rw [e, hy]
theorem putN_all {F : NestedKey → Addr → Prop} {rows : List NRow} {k : NestedKey} {b : Addr} {v : V} (h : ∀ r ∈ rows, F r.1 r.2.1) (hb : F k b) : ∀ r ∈ putN rows k b v, F r.1 r.2.1 := by
  unfold putN
  split
  · intro r hr
    obtain ⟨q, hq, rfl⟩ := List.mem_map.mp hr
    split
    · exact h q hq
    · exact h q hq
  · intro r hr
    rcases List.mem_append.mp hr with e | e
    · exact h r e
    · rw [List.mem_singleton.mp e]; exact hb
def valN (rows : List NRow) (k : NestedKey) : Option V := (rows.find? fun r => decide (r.1 = k)).map (·.2.2)
theorem nrel_any {rows : List NRow} {cs : List (NestedKey × Addr × Value)} (r : NRel rows cs) (k : NestedKey) : (rows.any fun r => decide (r.1 = k)) = (atKey cs k).isSome := by
  induction r with
  | nil => rfl
  | @cons p q ps qs h t ihr =>
    rw [List.any_cons, ihr]
    unfold atKey
    rw [List.find?_cons, h.1]
    cases decide (q.1 = k) <;> simp
theorem nrel_at {rows : List NRow} {cs : List (NestedKey × Addr × Value)} (r : NRel rows cs) (k : NestedKey) : (valN rows k = none ∧ atKey cs k = none) ∨ ∃ v p, valN rows k = some v ∧ atKey cs k = some p ∧ RelV v p.2 := by
  induction r with
  | nil => exact .inl ⟨rfl, rfl⟩
  | @cons p q ps qs h t ihr =>
    by_cases z : q.1 = k
    · right
      refine ⟨p.2.2, q.2, ?_, ?_, h.2.2⟩
      · unfold valN
        rw [List.find?_cons, h.1, decide_eq_true z]
        rfl
      · unfold atKey
        rw [List.find?_cons, decide_eq_true z]
        rfl
    · have e1 : valN (p :: ps) k = valN ps k := by
        unfold valN
        rw [List.find?_cons, h.1, decide_eq_false z]
      have e2 : atKey (q :: qs) k = atKey qs k := by
        unfold atKey
        rw [List.find?_cons, decide_eq_false z]
      rw [e1, e2]
      exact ihr
theorem nrel_map {rows : List NRow} {cs : List (NestedKey × Addr × Value)} (r : NRel rows cs) (k : NestedKey) {v : V} {u : Value} (rv : RelV v u) : ∃ cs', NRel (rows.map fun r => if r.1 = k then (r.1, r.2.1, v) else r) cs' ∧ cs.map (putAt k u) = cs' := by
  induction r with
  | nil => exact ⟨[], .nil, rfl⟩
  | @cons p q ps qs h t ihr =>
    obtain ⟨cs', h1, h2⟩ := ihr
    by_cases z : q.1 = k
    · refine ⟨(q.1, q.2.1, u) :: cs', ?_, ?_⟩
      · rw [List.map_cons, if_pos (h.1.trans z)]
        exact .cons ⟨h.1, h.2.1, rv⟩ h1
      · rw [List.map_cons, h2]
        congr 1
        unfold putAt
        rw [if_pos z]
    · refine ⟨q :: cs', ?_, ?_⟩
      · rw [List.map_cons, if_neg (fun z2 => z (h.1 ▸ z2))]
        exact .cons h h1
      · rw [List.map_cons, h2]
        congr 1
        unfold putAt
        rw [if_neg z]
theorem nrel_put {rows : List NRow} {cs : List (NestedKey × Addr × Value)} (r : NRel rows cs) (k : NestedKey) (b : Addr) {v : V} {u : Value} (rv : RelV v u) : ∃ cs', NRel (putN rows k b v) cs' ∧ storedH cs k b u = cs' := by
  have e := nrel_any r k
  unfold putN storedH
  rw [e]
  by_cases z : (atKey cs k).isSome = true
  · rw [if_pos z, if_pos z]
    exact nrel_map r k rv
  · rw [if_neg z, if_neg z]
    exact ⟨cs ++ [(k, b, u)], paired_snoc r ⟨rfl, rfl, rv⟩, rfl⟩
theorem nrel_keys {rows : List NRow} {cs : List (NestedKey × Addr × Value)} (r : NRel rows cs) : cs.map (·.1) = rows.map (·.1) := by
  induction r with
  | nil => rfl
  | cons h t ihr => rw [List.map_cons, List.map_cons, h.1, ihr]
theorem nrel_mem {F : NestedKey → Addr → Prop} {rows : List NRow} {cs : List (NestedKey × Addr × Value)} (r : NRel rows cs) (hk : ∀ r ∈ rows, F r.1 r.2.1) : ∀ x ∈ cs, F x.1 x.2.1 := by
  induction r with
  | nil => intro x hx; cases hx
  | @cons p q ps qs h t ih =>
    intro x hx
    rcases List.mem_cons.mp hx with e | e
    · subst e
      rw [← h.1, ← h.2.1]
      exact hk p (by simp)
    · exact ih (fun r hr => hk r (by simp [hr])) x e
section
variable {X : Cx} {pins : List (Addr × Obj)} {σ : L2.St} {H : Hp} {s : Shared} {a : Addr} {A : Around} {E : Value → Shared → Prop}
theorem nd_kat {rows : List NRow} (ph : nDφ a rows s.heap) (hk : ∀ r ∈ rows, Rp H (.ref r.2.1) r.1.data) : ∀ r ∈ rows, KAt H r.1 r.2.1 := fun r hr => ⟨(ph.2.2.2.1 r hr).1, (ph.2.2.2.1 r hr).2, hk r hr⟩
theorem nd_core {rows : List NRow} (I : Inv X pins σ H s) (ph : nDφ a rows s.heap) (hk' : ∀ r ∈ rows, Rp H (.ref r.2.1) r.1.data) : ∃ cs, NRel rows cs ∧ s.heap.DictOfH (nestedKind X.prog X.w) a cs := by
  have hk := nd_kat ph hk'
  obtain ⟨hz, hs, nd, nt, w, cs, r, o, es, ep, ho, hx, hd, he⟩ := ph
  have nt' : ∀ x ∈ cs, noT x.1 = true ∧ x.1.depth ≤ 8 := nrel_mem (F := fun k _ => noT k = true ∧ k.depth ≤ 8) r nt
  refine ⟨cs, r, o, es, ep, ho, hx, hd, ?_, ?_, ?_⟩
  · rw [he]
    refine List.map_congr_left fun x hx => ?_
    show (⟨x.1.hash w, .ref x.2.1, x.2.2⟩ : DictEntry) = ⟨x.1.hash X.w, .ref x.2.1, x.2.2⟩
    rw [noT_hash (w := w) (w' := X.w) x.1 (nt' x hx).1]
  · exact fun x hx => (nrel_mem (F := fun k b => KAt H k b) r hk x hx).is I
  · rw [nrel_keys r]
    exact nd
theorem nd_new {H' : Hp} {h' : Heap} {rows : List NRow} (p : nDφ a rows h') : ObjOk X.prog X.w H' h' a (nD a rows) := by
  have q : ∃ o, h'.get? a = some o := let ⟨_, _, _, _, _, _, _, o, _, _, ho, _⟩ := p; ⟨o, ho⟩
  refine ⟨p, q, fun h1 h2 p k => ?_⟩
  obtain ⟨z, hs, nd, nt, w, cs, r, o, es, ep, ho, rest⟩ := p
  exact ⟨z, hs, nd, nt, w, cs, r, o, es, ep, k o ho, rest⟩
theorem n_setItem {rows : List NRow} {k : NestedKey} {b : Addr} {v : V} {r : Value} {Q : Unit → Shared → Prop} (hu : A.units + 9 < cLine) (I : Inv X pins σ H s) (e : H a = some (nD a rows)) (hk : ∀ r ∈ rows, Rp H (.ref r.2.1) r.1.data) (eb : KAt H k b) (rv : RelV v r) (l : rows.length + 1 ≤ sizeLine)
    (h : ∀ s', Inv X pins σ (upd H a (nD a (putN rows k b v))) s' → Q () s') : wpAny (model X.prog X.w) A (setItem (.ref a) (.ref b) r) Q E s := by
  have ph : nDφ a rows s.heap := (I.hok a _ e).1
  obtain ⟨cs, rel, dd⟩ := nd_core I ph hk
  obtain ⟨hz, hs, nd, nt, _⟩ := ph
  have hl : cs.length = rows.length := (Paired.length rel).symm
  refine wpAny_setItem_heap (knd := nestedKind X.prog X.w) (k := k) (hsz := by rw [hl]; exact hz) (show A.in1.units + 8 < cLine by show A.units + 1 + 8 < cLine; omega) (eb.is I) dd fun h' dd' hsb => h _ ?_
  obtain ⟨q, es, ep, hq, h2, h3, h4, _, h5⟩ := dd'
  obtain ⟨cs', r', e'⟩ := nrel_put rel k b rv
  refine d_write I (by rw [e]; exact True.intro) hsb ⟨q, hq⟩ (nd_new ⟨Nat.le_trans (putN_len rows k b v) l, hs, putN_keys nd, putN_all (F := fun k _ => noT k = true ∧ k.depth ≤ 8) nt ⟨eb.1, eb.2.1⟩, X.w, cs', r', q, es, ep, hq, h2, h3, ?_⟩)
  rw [h4, e']
  rfl
theorem n_getItem {rows : List NRow} {k : NestedKey} {b : Addr} {v : V} {Q : Value → Shared → Prop} (hu : A.units + 9 < cLine) (I : Inv X pins σ H s) (ph : nDφ a rows s.heap) (hk : ∀ r ∈ rows, Rp H (.ref r.2.1) r.1.data) (eb : KAt H k b) (hv : valN rows k = some v)
    (h : ∀ u s', RelV v u → Inv X pins σ H s' → Q u s') : s.TypeIs (.ref a) "dict" ∧ wpAny (model X.prog X.w) A (getItem (.ref a) (.ref b)) Q E s := by
  obtain ⟨cs, rel, dd⟩ := nd_core I ph hk
  rcases nrel_at rel k with ⟨z, _⟩ | ⟨v', p, z1, z2, rv⟩
  · rw [hv] at z; cases z
  · rw [hv] at z1
    cases z1
    exact ⟨dd.typeIs, wpAny_getItem_heap (knd := nestedKind X.prog X.w) (show A.in1.units + 8 < cLine by show A.units + 1 + 8 < cLine; omega) (eb.is I) dd z2 (h _ _ rv (I.tok _))⟩
theorem n_contains {rows : List NRow} {k : NestedKey} {b : Addr} {Q : Bool → Shared → Prop} (hu : A.units + 9 < cLine) (I : Inv X pins σ H s) (ph : nDφ a rows s.heap) (hk : ∀ r ∈ rows, Rp H (.ref r.2.1) r.1.data) (eb : KAt H k b)
    (h : ∀ s', Inv X pins σ H s' → Q (valN rows k).isSome s') : wpAny (model X.prog X.w) A (contains (.ref a) (.ref b)) Q E s := by
  obtain ⟨cs, rel, dd⟩ := nd_core I ph hk
  have hs := ph.2.1
  refine wpAny_contains_heap (knd := nestedKind X.prog X.w) (show A.in1.units + 8 < cLine by show A.units + 1 + 8 < cLine; omega) (eb.is I) hs dd ?_
  rcases nrel_at rel k with ⟨z1, z2⟩ | ⟨v', p, z1, z2, rv⟩
  · rw [z2]
    rw [z1] at h
    exact h _ (I.tok _)
  · rw [z2]
    rw [z1] at h
    exact h _ (I.tok _)
end
end Dn
set_option maxHeartbeats 4000000
namespace Dn
open PySem PySem.Spec PyProof.Rows L2 PySem.W PySem.Calls
open Evl (Ex fresh_back)
mutual
/-- the key that data is -/
def nkOf : D → Option NestedKey
  | .none => some .none
  | .int i => some (.num i)
  | .str x => some (.text x)
  | .tuple ds => (nksOf ds).map .tup
  | _ => none
def nksOf : List D → Option (List NestedKey)
  | [] => some []
  | d :: ds => match nkOf d, nksOf ds with
    | some k, some ks => some (k :: ks)
    | _, _ => none
end
mutual
theorem nkOf_data : ∀ k : NestedKey, nkOf k.data = some k
  | .none => rfl
  | .num i => rfl
  | .text x => rfl
  | .tup ks => by
    show (nksOf (NestedKey.datas ks)).map _ = _
    rw [nksOf_datas ks]
    rfl
theorem nksOf_datas : ∀ ks : List NestedKey, nksOf (NestedKey.datas ks) = some ks
  | [] => rfl
  | k :: ks => by
    show (match nkOf k.data, nksOf (NestedKey.datas ks) with | some k, some ks => some (k :: ks) | _, _ => none) = _
    rw [nkOf_data k, nksOf_datas ks]
end
mutual
theorem data_nkOf : ∀ (d : D) (k : NestedKey), nkOf d = some k → k.data = d
  | .none, k, h => by cases h; rfl
  | .int i, k, h => by cases h; rfl
  | .str x, k, h => by cases h; rfl
  | .tuple ds, k, h => by
    have h : (nksOf ds).map NestedKey.tup = some k := h
    obtain ⟨ks, h1, rfl⟩ := Option.map_eq_some_iff.mp h
    show PyData.tuple (NestedKey.datas ks) = _
    rw [datas_nksOf ds ks h1]
  | .bool _, k, h => by cases h
  | .list _, k, h => by cases h
  | .dict _, k, h => by cases h
theorem datas_nksOf : ∀ (ds : List D) (ks : List NestedKey), nksOf ds = some ks → NestedKey.datas ks = ds
  | [], ks, h => by cases h; rfl
  | d :: ds, ks, h => by
    have h : (match nkOf d, nksOf ds with | some k, some ks => some (k :: ks) | _, _ => none) = some ks := h
    cases e1 : nkOf d with
    | none => rw [e1] at h; cases h
    | some k =>
      cases e2 : nksOf ds with
      | none => rw [e1, e2] at h; cases h
      | some ks' =>
        rw [e1, e2] at h
        cases h
        show k.data :: NestedKey.datas ks' = _
        rw [data_nkOf d k e1, datas_nksOf ds ks' e2]
end
/-- a key that may be put -/
def keyN (d : D) : Option NestedKey := (nkOf d).bind fun k => if noT k = true ∧ k.depth ≤ 8 then some k else none
theorem keyN_some {d : D} {k : NestedKey} (h : keyN d = some k) : k.data = d ∧ noT k = true ∧ k.depth ≤ 8 := by
  unfold keyN at h
  cases e : nkOf d with
  | none => rw [e] at h; cases h
  | some k' =>
    rw [e] at h
    have h : (if noT k' = true ∧ k'.depth ≤ 8 then some k' else none) = some k := h
    split at h
    · rename_i hc
      have hk := Option.some.inj h
      subst hk
      exact ⟨data_nkOf d _ e, hc⟩
    · cases h
abbrev rowsN (rows : List NRow) (ds : List D) : List (D × D) := (rows.map fun r => r.1.data).zip ds
def putND (kvs : List (D × D)) (k : NestedKey) (d : D) : List (D × D) :=
  if (kvs.any fun p => decide (nkOf p.1 = some k)) = true then kvs.map (fun p => if nkOf p.1 = some k then (p.1, d) else p) else kvs ++ [(k.data, d)]
def findND (kvs : List (D × D)) (k : NestedKey) : Option D := (kvs.find? fun p => decide (nkOf p.1 = some k)).map (·.2)
theorem any_rowsN {k : NestedKey} : ∀ (rows : List NRow) (ds : List D), rows.length = ds.length → ((rowsN rows ds).any fun p => decide (nkOf p.1 = some k)) = rows.any fun r => decide (r.1 = k)
  | [], ds, _ => by cases ds <;> rfl
  | r :: rows, [], h => by simp at h
  | r :: rows, d :: ds, h => by
    show (decide (nkOf r.1.data = some k) || (rowsN rows ds).any _) = _
    rw [any_rowsN rows ds (by simpa using h), List.any_cons, nkOf_data]
    simp
theorem map_rowsN {G : Hp} {k : NestedKey} {v : V} {d : D} (hv : Rp G v d) : ∀ (rows : List NRow) (ds : List D), RpAll G (rows.map (·.2.2)) ds →
    ∃ ds', RpAll G ((rows.map fun r => if r.1 = k then ((r.1, r.2.1, v) : NRow) else r).map (·.2.2)) ds' ∧ (rowsN rows ds).map (fun p => if nkOf p.1 = some k then (p.1, d) else p) = rowsN (rows.map fun r => if r.1 = k then ((r.1, r.2.1, v) : NRow) else r) ds'
  | [], _, .nil => ⟨[], .nil, rfl⟩
  | r :: rows, _, .cons (d := d0) (ds := ds) h t => by
    obtain ⟨ds', h1, h2⟩ := map_rowsN hv rows ds t
    by_cases e : r.1 = k
    · refine ⟨d :: ds', ?_, ?_⟩
      · rw [List.map_cons, if_pos e, List.map_cons]
        exact .cons hv h1
      · show (if nkOf r.1.data = some k then (r.1.data, d) else (r.1.data, d0)) :: (rowsN rows ds).map _ = _
        rw [h2, List.map_cons, if_pos e, nkOf_data, if_pos (by rw [e])]
        rfl
    · refine ⟨d0 :: ds', ?_, ?_⟩
      · rw [List.map_cons, if_neg e, List.map_cons]
        exact .cons h h1
      · show (if nkOf r.1.data = some k then (r.1.data, d) else (r.1.data, d0)) :: (rowsN rows ds).map _ = _
        rw [h2, List.map_cons, if_neg e, nkOf_data, if_neg (fun z => e (Option.some.inj z))]
        rfl
theorem put_rowsN {G : Hp} {rows : List NRow} {ds : List D} {k : NestedKey} {b : Addr} {v : V} {d : D} (ra : RpAll G (rows.map (·.2.2)) ds) (hv : Rp G v d) :
    ∃ ds', RpAll G ((putN rows k b v).map (·.2.2)) ds' ∧ putND (rowsN rows ds) k d = rowsN (putN rows k b v) ds' := by
  have hl : rows.length = ds.length := by rw [← ra.length, List.length_map]
  unfold putN putND
  rw [any_rowsN rows ds hl]
  by_cases h : (rows.any fun r => decide (r.1 = k)) = true
  · rw [if_pos h, if_pos h]
    exact map_rowsN hv rows ds ra
  · rw [if_neg h, if_neg h]
    refine ⟨ds ++ [d], ?_, ?_⟩
    · rw [List.map_append]
      exact ra.append (.cons hv .nil)
    · unfold rowsN
      rw [List.map_append, List.zip_append (by rw [List.length_map]; exact hl)]
      rfl
theorem find_rowsN {G : Hp} {k : NestedKey} : ∀ {rows : List NRow} {ds : List D}, RpAll G (rows.map (·.2.2)) ds → (valN rows k = none ∧ findND (rowsN rows ds) k = none) ∨ ∃ v d, valN rows k = some v ∧ findND (rowsN rows ds) k = some d ∧ Rp G v d
  | [], _, .nil => .inl ⟨rfl, rfl⟩
  | r :: rows, _, .cons (d := d0) (ds := ds) h t => by
    by_cases e : r.1 = k
    · right
      refine ⟨r.2.2, d0, ?_, ?_, h⟩
      · unfold valN
        rw [List.find?_cons, decide_eq_true e]
        rfl
      · show (List.find? _ ((r.1.data, d0) :: rowsN rows ds)).map _ = _
        rw [List.find?_cons, nkOf_data, decide_eq_true (by rw [e])]
        rfl
    · have e1 : valN (r :: rows) k = valN rows k := by
        unfold valN
        rw [List.find?_cons, decide_eq_false e]
      have e2 : findND (rowsN (r :: rows) (d0 :: ds)) k = findND (rowsN rows ds) k := by
        show (List.find? _ ((r.1.data, d0) :: rowsN rows ds)).map _ = _
        rw [List.find?_cons, nkOf_data, decide_eq_false (fun z => e (Option.some.inj z))]
        rfl
      rw [e1, e2]
      exact find_rowsN t
theorem Rp.inv_N {G : Hp} {v : V} {kvs : List (D × D)} (h : Rp G v (.dict [(.bool false, .dict kvs)])) : ∃ (a : Addr) (rows : List NRow) (ds : List D), v = .ref a ∧ G a = some (nD a rows) ∧ (∀ r ∈ rows, Rp G (.ref r.2.1) r.1.data) ∧ RpAll G (rows.map (·.2.2)) ds ∧ kvs = rowsN rows ds := by
  generalize hgen : (PyData.dict [(.bool false, .dict kvs)]) = dd at h
  cases h with
  | dN ha hl ra => cases hgen; exact ⟨_, _, _, rfl, ha, hl, ra, rfl⟩
  | dK ha hl ra =>
    rename_i a ks xs es
    exfalso
    cases ks with
    | nil => simp at hgen
    | cons k ks => cases es with
      | nil => simp at hgen
      | cons e es => cases k <;> simp [keyD] at hgen
  | dT ha hl ra =>
    rename_i a rows es
    exfalso
    cases rows with
    | nil => simp at hgen
    | cons k ks => cases es with
      | nil => simp at hgen
      | cons e es => simp at hgen
  | _ => cases hgen
/-- k in d, k not in d -/
def gInN (neg : Bool) : D → D → Option D
  | k, .dict [(.bool false, .dict kvs)] => (keyN k).map fun q => .bool (if neg then !(findND kvs q).isSome else (findND kvs q).isSome)
  | _, _ => none
/-- d[k] -/
def gNIx : D → D → Option D
  | .dict [(.bool false, .dict kvs)], k => (keyN k).bind fun q => findND kvs q
  | _, _ => none
/-- a key is a tuple -/
def isTupN : NestedKey → Bool
  | .tup _ => true
  | _ => false
theorem key_ref {G : Hp} {v : V} {k : NestedKey} (h : Rp G v k.data) (ht : isTupN k = true) : ∃ b, v = .ref b := by
  cases k with
  | tup ks =>
    obtain ⟨p, vs, rfl, _⟩ := Rp.inv_tup (show Rp G v (.tuple (NestedKey.datas ks)) from h)
    exact ⟨p, rfl⟩
  | _ => cases ht
section
variable {P : Addr → Prop} {bs : Bs} {G H : Hp} {σ : L2.St} {env : DEnv} {N : Addr → Prop}
theorem Tree.dict2 {v : V} {kvs : List (D × D)} (t : Tree P G H N 2 v (.dict kvs)) : ∃ (a : Addr) (rows : List NRow) (ds : List D), v = .ref a ∧ N a ∧ P a ∧ G a = none ∧ H a = some (nD a rows) ∧ (∀ r ∈ rows, Rp G (.ref r.2.1) r.1.data) ∧ RpAll G (rows.map (·.2.2)) ds ∧ kvs = [(.bool false, .dict (rowsN rows ds))] := by
  obtain ⟨L, hL, h⟩ := t.r
  obtain ⟨a, rfl, hl, rows, ds, e1, e2, e3, e4⟩ := h
  have hN := hL a _ hl
  exact ⟨a, rows, ds, rfl, hN, (t.n a hN).1, (t.n a hN).2.1, e1, e2, e3, e4⟩
theorem Tree.setN {a : Addr} {kvs : List (D × D)} (t : Tree P G H N 2 (.ref a) (.dict kvs)) {rows : List NRow} {ds : List D} (hk : ∀ r ∈ rows, Rp G (.ref r.2.1) r.1.data) (rv : RpAll G (rows.map (·.2.2)) ds) : Tree P G (upd H a (nD a rows)) N 2 (.ref a) (.dict [(.bool false, .dict (rowsN rows ds))]) := by
  obtain ⟨L, hL, h⟩ := t.r
  obtain ⟨a', e, hla, _⟩ := h
  cases e
  refine ⟨fun b hb => ?_, L, hL, ?_⟩
  · obtain ⟨h1, h2, h3⟩ := t.n b hb
    refine ⟨h1, h2, ?_⟩
    by_cases hba : b = a
    · subst hba; rw [upd_same]; exact fun z => nomatch z
    · rw [upd_ne hba]; exact h3
  · exact ⟨a, rfl, hla, rows, ds, upd_same, hk, rv, rfl⟩
theorem Tree.oneN {p : Addr} (hP : P p) (hg : G p = none) (hh : H p = some (nD p [])) : Tree P G H (fun a => a = p) 2 (.ref p) (.dict [(.bool false, .dict [])]) := by
  refine ⟨fun a e => by subst e; exact ⟨hP, hg, some_ne hh⟩, fun a => if a = p then some [] else none, fun a q h => ?_, ?_⟩
  · by_cases ha : a = p
    · exact ha
    · simp [ha] at h
  · exact ⟨p, rfl, by simp, [], [], hh, fun r hr => (by cases hr), .nil, rfl⟩
theorem Rep.ownN (r : Rep P bs G H σ env) {i : Nat} {io : Bool} {kvs : List (D × D)} (hi : env[i]? = some (some (SV.ow io 1 (.dict [(.bool false, .dict kvs)])))) :
    ∃ (a : Addr) (rows : List NRow) (ds : List D), σ[i]? = some (some (V.ref a)) ∧ H a = some (nD a rows) ∧ (∀ r ∈ rows, Rp G (.ref r.2.1) r.1.data) ∧ RpAll G (rows.map (·.2.2)) ds ∧ kvs = rowsN rows ds ∧
      ∀ (rows' : List NRow) (ds' : List D), (∀ r ∈ rows', Rp G (.ref r.2.1) r.1.data) → RpAll G (rows'.map (·.2.2)) ds' → Gr P G H G (upd H a (nD a rows')) ∧ Rep P bs G (upd H a (nD a rows')) σ (env.set i (some (.ow io 1 (.dict [(.bool false, .dict (rowsN rows' ds'))])))) := by
  obtain ⟨N, v, hv, t, r', hio⟩ := r.take hi
  obtain ⟨a, rows, ds, rfl, hN, hP, hG, ha, hk, ra, he⟩ := t.dict2
  have he : kvs = rowsN rows ds := by
    injection he with h1 h2
    injection h1 with h3 h4
    injection h4
  refine ⟨a, rows, ds, hv, ha, hk, ra, he, fun rows' ds' hk' rw' => ⟨⟨Ex.refl G, fun c o hc n => ?_, fun _ _ n => n⟩, ?_⟩⟩
  · rw [upd_ne (show c ≠ a from fun z => n (by rw [z]; exact hP))]
    exact hc
  · have := (r'.updH (o := nD a rows') (fun z => z.2 hN) hG).put (t.setN hk' rw') hv hio
    rwa [set_set_env] at this
end
def ownNAt (env : DEnv) (i : Nat) : Option (Bool × List (D × D)) :=
  match env[i]? with
  | some (some (SV.ow io 1 (.dict [(.bool false, .dict kvs)]))) => some (io, kvs)
  | _ => none
theorem ownNAt_some {env : DEnv} {i : Nat} {p : Bool × List (D × D)} (h : ownNAt env i = some p) : env[i]? = some (some (SV.ow p.1 1 (.dict [(.bool false, .dict p.2)]))) := by
  unfold ownNAt at h
  split at h
  · cases h; assumption
  · cases h
/-- d[k] = e -/
def sNPut (i : Nat) (k m : Mo D) : So := fun env =>
  match m env with
  | none => none
  | some (d, e1) =>
    match ownNAt e1 i with
    | none => none
    | some _ =>
      match k e1 with
      | some (kd, e2) => (match ownNAt e2 i, keyN kd with | some (io, kvs), some q => if kvs.length < 100000 ∧ isTupN q = true then some (.nx (e2.set i (some (.ow io 1 (.dict [(.bool false, .dict (putND kvs q d))]))))) else none | _, _ => none)
      | none => none
def sNPutR (td ty tv : TE) : TS := fun D σ H => tv σ H fun v H1 => td σ H1 fun x H2 => ty σ H2 fun y H3 => ∃ (a : Addr) (rows : List NRow) (k : NestedKey) (b : Addr), x = .ref a ∧ H3 a = some (nD a rows) ∧ (∀ r ∈ rows, Rp H3 (.ref r.2.1) r.1.data) ∧ y = .ref b ∧ KAt H3 k b ∧ rows.length < sizeLine ∧ D.nx σ (upd H3 a (nD a (putN rows k b v)))
def tNIx (td ty : TE) : TE := fun σ H Q => td σ H fun x H1 => ty σ H1 fun y H2 => ∃ (a : Addr) (rows : List NRow) (k : NestedKey) (b : Addr) (v : V), x = .ref a ∧ H2 a = some (nD a rows) ∧ (∀ r ∈ rows, Rp H2 (.ref r.2.1) r.1.data) ∧ y = .ref b ∧ KAt H2 k b ∧ valN rows k = some v ∧ Q v H2
def rNIn (neg : Bool) : R2 := fun x y H Q => ∃ (b a : Addr) (rows : List NRow) (k : NestedKey), x = .ref b ∧ y = .ref a ∧ H a = some (nD a rows) ∧ (∀ r ∈ rows, Rp H (.ref r.2.1) r.1.data) ∧ KAt H k b ∧ Q (.bl (if neg then !(valN rows k).isSome else (valN rows k).isSome)) H
section
variable {X : Cx} {x : Str} {e k o i : Expr} {pos pos' : Pos} {td ty tv : TE}
theorem ps_nput (hu : X.A.units + 64 < cLine) (ho : PE X o td) (hi : PE X k ty) (hv : PE X e tv) (hs : swapsWith e (some (.Subscript o k pos')) pos.line X.env = pure false) :
    PS X (.Assign [.Subscript o k pos'] e pos) (sNPutR td ty tv) := by
  refine ⟨fun pins s σ H D I h => ?_⟩
  refine wpAny_Assign_Subscript (thn (hv.run pins s σ H _ I h) fun r s1 ⟨v, H1, I1, rv, q1⟩ => thn (ho.run pins s1 σ H1 _ I1 q1) fun u s2 ⟨x, H2, I2, rx, q2⟩ => thn (hi.run pins s2 σ H2 _ I2 q2) fun iv s3 ⟨y, H3, I3, ry, a, rows, k, b, ex, e1, e2, ey, e3, l, q3⟩ => ?_) hs
  subst ex ey
  obtain rfl : u = Value.ref a := rx
  obtain rfl : iv = Value.ref b := ry
  exact n_setItem (by omega) I3 e1 e2 e3 rv l fun s4 I4 => ⟨σ, _, I4, q3⟩
theorem pe_dnewN : PE X (.Dict [] [] pos) (fun _ H Q => ∀ p, H p = none → Q (.ref p) (upd H p (nD p []))) := ⟨fun pins s σ H Q I h =>
  wpAny_Dict_empty ⟨.ref s.heap.objs.size, _, I.laid (a := s.heap.objs.size) (o := nD s.heap.objs.size []) (t' := s.toks) (fun _ _ q => Heap.get?_push_of_some _ q) (Nat.le_refl _)
    (nd_new (X := X) ⟨Nat.zero_le _, beq_eq_false_iff_ne.mpr (Ne.symm (Nat.ne_of_lt I.big)), List.nodup_nil, (fun r hr => by cases hr), X.w, [], .nil, _, #[], 0, Heap.get?_push_size _ rfl, ⟨rfl, rfl, rfl⟩, rfl, rfl⟩), rfl, h _ (I.hok.fresh (Nat.le_refl _))⟩⟩
theorem denn_dnewN : DenN X (.Dict [] [] pos) 2 (mRet (.dict [(.bool false, .dict [])])) := by
  refine ⟨_, pe_dnewN, fun P b σ env G H d env' rr h Q q => ?_⟩
  obtain ⟨rfl, rfl⟩ := mRet_some h
  intro y hy
  have hPy := rr.fresh y hy
  exact q (.ref y) G (upd H y (nD y [])) (fun a => a = y) ⟨Ex.refl G, fun a o ha n => by
    rw [upd_ne (show a ≠ y from fun z => n (by rw [z]; exact hPy))]
    exact ha, fun _ _ n => n⟩ (rr.newH hy) (Tree.oneN hPy (fresh_back rr.sub hy) upd_same)
theorem dens_nput (i : Nat) {F Fk : Mo D} {p1 p2 : Pos} (hu : X.A.units + 64 < cLine) (hi : X.N[i]? = some x) (hv : Vis X.env.scope x) (he : DenE X e F) (hk : DenE X k Fk) (hd : (x == ("__debug__" : Str)) = false := by decide) (hcd : (x == ("__classdict__" : Str)) = false := by decide)
    (hs : swapsWith e (some (.Subscript (.Name x p1) k p2)) pos.line X.env = pure false := by rfl) : DenS X (.Assign [.Subscript (.Name x p1) k p2] e pos) (sNPut i Fk F) := by
  obtain ⟨t, h1', h2⟩ := he
  obtain ⟨u, k1, k2⟩ := hk
  refine ⟨_, ps_nput hu (pe_var hi hv hd hcd) k1 h1' hs, fun P b σ env G H r rr h Dd q => ?_⟩
  unfold sNPut at h
  cases w : F env with
  | none => rw [w] at h; cases h
  | some pr =>
    obtain ⟨d, e1⟩ := pr
    simp only [w] at h
    cases w0 : ownNAt e1 i with
    | none => simp only [w0] at h; cases h
    | some ds0 =>
      simp only [w0] at h
      cases w2 : Fk e1 with
      | none => simp only [w2] at h; cases h
      | some pr2 =>
        obtain ⟨kd, e2⟩ := pr2
        simp only [w2] at h
        cases w3 : ownNAt e2 i with
        | none => simp only [w3] at h; cases h
        | some ds =>
          obtain ⟨io, kvs⟩ := ds
          cases w4 : keyN kd with
          | none => simp only [w3, w4] at h; cases h
          | some n =>
            simp only [w3, w4] at h
            split at h
            · rename_i hc
              obtain ⟨hlen, htup⟩ := hc
              cases h
              refine h2 P b σ env G H d e1 rr w _ fun v G1 H1 g1 r1 p1 => ?_
              obtain ⟨a, _, _, ha0, _⟩ := r1.ownN (ownNAt_some w0)
              refine ⟨_, ha0, k2 P b σ e1 G1 H1 _ e2 r1 w2 _ fun kv G2 H2 g2 r2 p2 => ?_⟩
              obtain ⟨a', rows, ds, ha', hh, hkn, ra, he, fin⟩ := r2.ownN (ownNAt_some w3)
              rw [ha0] at ha'
              cases ha'
              obtain ⟨kdat, knt, kdp⟩ := keyN_some w4
              rw [← kdat] at p2
              obtain ⟨c, rfl⟩ := key_ref p2 htup
              obtain ⟨ds', f3, f4⟩ := put_rowsN (k := n) (b := c) ra (p1.mono g2.g)
              obtain ⟨g3, r3⟩ := fin (putN rows n c v) ds' (putN_all (F := fun k b => Rp G2 (.ref b) k.data) hkn p2) f3
              simp only at he
              refine ⟨a, rows, n, c, rfl, hh, fun r hr => (hkn r hr).mono r2.sub, rfl, ⟨knt, kdp, p2.mono r2.sub⟩, ?_, ?_⟩
              · have : kvs.length = rows.length := by rw [he, List.length_zip, List.length_map, ← ra.length, List.length_map, Nat.min_self]
                exact line_lt (by omega)
              · refine q σ G2 _ ((g1.trans g2).trans g3) ?_
                rw [he, f4]
                exact r3
            · cases h
theorem pe_nix (hu : X.A.units + 64 < cLine) (ho : PE X o td) (hi : PE X i ty) (hs : NoSl i) : PE X (.Subscript o i pos) (tNIx td ty) := by
  refine ⟨fun pins s σ H Q I h => ?_⟩
  refine subD_of PySem.F.slot_dict_getitem.lookup hs (thn (ho.run pins s σ H _ I h) fun u s1 ⟨x, H1, I1, rx, q1⟩ => thn (hi.run pins s1 σ H1 _ I1 q1) fun iv s2 ⟨y, H2, I2, ry, a, rows, k, b, v, ex, e1, e2, ey, e3, e4, q2⟩ => ?_)
  subst ex ey
  obtain rfl : u = Value.ref a := rx
  obtain rfl : iv = Value.ref b := ry
  exact n_getItem (by omega) I2 (I2.hok a _ e1).1 e2 e3 e4 fun u s' rv I' => ⟨v, H2, I', rv, q2⟩
theorem den_nix {F F' : Mo D} {a b : Expr} (hu : X.A.units + 64 < cLine) (ha : DenE X a F) (hb : DenE X b F') (hs : NoSl b := by exact fun _ _ => rfl) : DenE X (.Subscript a b pos) (mBin gNIx F F') := by
  obtain ⟨t, h1, h2⟩ := ha
  obtain ⟨u, k1, k2⟩ := hb
  refine ⟨_, pe_nix hu h1 k1 hs, fun P bb σ env G H d env' rr h Q q => ?_⟩
  obtain ⟨x, e1, hx, h⟩ := mBind_some h
  obtain ⟨y, e2, hy, h⟩ := mBind_some h
  obtain ⟨hg, rfl⟩ := mLift_some h
  refine two h2 k2 rr hx hy fun v w G' H' g r' q1 q2 => ?_
  unfold gNIx at hg
  clear h hy hx
  split at hg
  · rename_i kvs
    cases w1 : keyN y with
    | none => rw [w1] at hg; cases hg
    | some n =>
      rw [w1] at hg
      have hg : findND kvs n = some d := hg
      obtain ⟨a, rows, es, rfl, ha, hkn, ra, rfl⟩ := q1.inv_N
      obtain ⟨kdat, knt, kdp⟩ := keyN_some w1
      rw [← kdat] at q2
      rcases find_rowsN (k := n) ra with ⟨_, z⟩ | ⟨v', d', z1, z2, rv⟩
      · rw [hg] at z; cases z
      · rw [hg] at z2
        cases z2
        obtain ⟨rw0, hrw0, hrk⟩ : ∃ r ∈ rows, r.1 = n := by
          unfold valN at z1
          obtain ⟨r0, hr0, _⟩ := Option.map_eq_some_iff.mp z1
          exact ⟨r0, List.mem_of_find?_eq_some hr0, by simpa using List.find?_some hr0⟩
        have ht : isTupN n = true := by
          have := hkn rw0 hrw0
          rw [hrk] at this
          cases n with
          | tup ks => rfl
          | none => cases (show Rp G' (.ref rw0.2.1) .none from this)
          | num j => cases (show Rp G' (.ref rw0.2.1) (.int j) from this)
          | text x => cases (show Rp G' (.ref rw0.2.1) (.str x) from this)
        obtain ⟨c, rfl⟩ := key_ref q2 ht
        exact ⟨a, rows, n, c, v', rfl, r'.sub _ _ ha, fun r hr => (hkn r hr).mono r'.sub, rfl, ⟨knt, kdp, q2.mono r'.sub⟩, z1, q v' G' H' g r' rv⟩
  · cases hg
theorem opR_notInN (hu : X.A.units + 64 < cLine) : OpR X (compareOp .NotIn) (rNIn true) := by
  intro pins s σ H x y v u Q I rx ry h
  obtain ⟨b, a, rows, k, rfl, rfl, ha, hk, hb, q⟩ := h
  obtain rfl : v = Value.ref b := rx
  obtain rfl : u = Value.ref a := ry
  show wpAny _ _ (do return Value.bool (!(← contains (Value.ref a) (Value.ref b)))) _ _ s
  exact wpAny_bind (n_contains (by omega) I (I.hok a _ ha).1 hk hb fun s' I' => wpAny_pure ⟨.bl _, H, I', rfl, q⟩)
/-- k in d: k a tuple -/
def gInT (neg : Bool) : D → D → Option D := fun d e => if isTupN <$> nkOf d = some true then gInN neg d e else none
theorem gInN_run (neg : Bool) {G H : Hp} {x y : V} {d e z : D} (s : Ex G H) (rx : Rp G x d) (ry : Rp G y e) (hg : gInT neg d e = some z) (Q : VK) (q : ∀ v G' H', Pu G H G' H' → Rp G' v z → Q v H') : rNIn neg x y H Q := by
  unfold gInT at hg
  split at hg
  · rename_i hk
    unfold gInN at hg
    split at hg
    · rename_i kvs
      cases w1 : keyN d with
      | none => rw [w1] at hg; cases hg
      | some n =>
        rw [w1] at hg
        cases hg
        obtain ⟨a, rows, es, rfl, ha, hkn, ra, rfl⟩ := ry.inv_N
        obtain ⟨kdat, knt, kdp⟩ := keyN_some w1
        have ht : isTupN n = true := by
          rw [← kdat, nkOf_data] at hk
          simpa using hk
        rw [← kdat] at rx
        obtain ⟨c, rfl⟩ := key_ref rx ht
        refine ⟨c, a, rows, n, rfl, rfl, s _ _ ha, fun r hr => (hkn r hr).mono s, ⟨knt, kdp, rx.mono s⟩, ?_⟩
        rcases find_rowsN (k := n) ra with ⟨z1, z2⟩ | ⟨v', d', z1, z2, rv⟩
        · rw [z1]
          dsimp only at q
          rw [z2] at q
          exact q _ G H (Pu.refl s) (.bl _)
        · rw [z1]
          dsimp only at q
          rw [z2] at q
          exact q _ G H (Pu.refl s) (.bl _)
    · cases hg
  · cases hg
theorem opD_notInNk (hu : X.A.units + 64 < cLine) : OpD X (compareOp .NotIn) (gInT true) := ⟨_, opR_notInN hu, fun G H x y d e z s rx ry hg Q q => gInN_run true s rx ry hg Q q⟩
end
end Dn
set_option maxHeartbeats 1000000
namespace Dn
open PySem PySem.Spec PyProof.Rows L2 PySem.W PySem.Calls
open Evl (Ex fresh_back)
section
variable {P : Program} {w : World} {A : Around} {s : Shared} {E : Value → Shared → Prop}
theorem sorted_tupI {l : Addr} {vs : List Value} {ns : List Int} {Q : Value → Shared → Prop} (ht : s.heap.IsTuple l vs.toArray) (hI : IntsAre vs ns) (hz : vs.length ≤ sizeLine)
    (hQ : ∀ (h' : Heap) (p : Addr) (out : List Value) (c : Nat), (∀ b o, s.heap.get? b = some o → h'.get? b = some o) → s.heap.objs.size ≤ p → h'.get? p = some (seqObj "list" out.toArray c) → SrtO.Srtd SrtO.ltIv out → SrtO.Stb SrtO.ltIv out vs → Q (.ref p) { s with heap := h' }) :
    wpAny (model P w) A (call (.builtin "sorted") [.ref l]) Q E s := by
  refine Calls.call_function_entry kind_sorted plain_sorted entry_sorted (args_sorted1 _) ?_
  unfold Builtin.«sorted»
  refine wpAny_bind (m := checkCount "sorted" 1 1 _) (wpAny_pure ?_)
  refine wpAny_bind (tup_collect ht hz fun h1 k1 hlt0 => ?_)
  refine wpAny_bind (wpAny_newList ?_ hz)
  have hoL : (h1.push (seqObj "list" vs.toArray 0)).get? h1.objs.size = some (seqObj "list" vs.toArray 0) := Heap.get?_push_size _ rfl
  refine wpAny_bind (wpAny_holding (wpAny_call_entry (s := { s with heap := h1.push (seqObj "list" vs.toArray 0) }) slot_list_sort ⟨_, hoL, rfl⟩ entry_list_sort (SrtO.list_sort_ord SrtO.swo_int hoL hz (fun h2 => SrtO.ints_sortable hI h2) fun out hs hb => ⟨_, rfl, ?_⟩) (args_list_sort _)))
  obtain ⟨c, hc⟩ := sortedHeap_at (vs := vs) (out := out.toArray) hoL
  refine wpAny_pure ⟨_, rfl, hQ _ h1.objs.size out c (fun b u e => ?_) (Nat.le_of_lt hlt0) hc hs hb⟩
  have q := k1 b u e
  have hlt := Heap.lt_size q
  show (sortedHeap (h1.push (seqObj "list" vs.toArray 0)) h1.objs.size vs out.toArray).get? b = some u
  rw [sortedHeap_old (Nat.ne_of_lt hlt) (by rw [size_push']; exact Nat.lt_succ_of_lt hlt)]
  exact Heap.get?_push_of_some _ q
end
section
variable {X : Cx}
def rSortTI (K : PySem.W.Frag) : List V → Hp → VK → Prop := fun vs H Q => ∃ (a : Addr) (ns : List Int), vs = [V.ref a] ∧ SqT K H a (ns.map V.int) ∧ ∀ (ms : List Int) (p : Addr), ms.Perm ns → ms.Pairwise (· ≤ ·) → H p = none → Q (.ref p) (upd H p (.lst (ms.map V.int)))
theorem cr_sortTI : CallR X (.builtin "sorted") (rSortTI X.K) := by
  intro pins s σ H vs us Q I r h
  obtain ⟨a, ns, rfl, ha, q⟩ := h
  rw [Vals.ref1 r]
  obtain ⟨its, rv, pt, hz⟩ := I.tuple ha
  have hi := rv.ints
  refine sorted_tupI (vs := its) (show s.heap.IsTuple a its.toArray from pt) hi (by rw [← rv.length]; exact hz) fun h' p out c k hp hg hs hb => ?_
  obtain ⟨k1, k2, k3⟩ := SrtO.ints_out hi hs hb
  have hlen : ((out.map SrtO.iv).map V.int).length ≤ sizeLine := by
    rw [List.length_map, k2.length_eq]
    rw [List.length_map] at hz
    exact hz
  exact ⟨.ref p, upd H p (.lst ((out.map SrtO.iv).map V.int)), I.laid (t' := s.toks) k hp ⟨hlen, out, c, vals_of_ints k1, hg⟩, rfl, q _ p k2 k3 (I.hok.fresh hp)⟩
def gSortT : List D → Option D
  | [.tuple xs] => (intsOf xs).map fun ns => .list ((isort ns).map .int)
  | _ => none
theorem callD_sortT : CallD X (.builtin "sorted") gSortT := by
  refine ⟨_, cr_sortTI, fun G H vs ds z s r hg Q q => ?_⟩
  unfold gSortT at hg
  split at hg
  · rename_i xs
    cases w : intsOf xs with
    | none => rw [w] at hg; cases hg
    | some ns =>
      rw [w] at hg
      cases hg
      obtain ⟨v, rfl, rv⟩ := r.inv1
      obtain ⟨a, us, rfl, ha, ra⟩ := rv.inv_tup
      have e := ra.ints_of w
      subst e
      refine ⟨a, ns, rfl, ha.sq s, fun ns' p hp hs' hn => fin_new s q hn fun ex => .lst upd_same ?_⟩
      rw [sorted_uniq (hp.trans (isort_perm ns).symm) hs' (isort_sorted ns)]
      exact RpAll.ofInts _
  · cases hg
def gLstRg2 : D → D → Option D
  | .int i, .int j => if -(2 ^ 62) ≤ i ∧ i < 1000 ∧ -(2 ^ 62) ≤ j ∧ j < 1000 ∧ j - i < 1000 then some (.list (rangeD i (j - i).toNat)) else none
  | _, _ => none
theorem den_lstRange2 {a b : Expr} {p p2 pos pos2 : Pos} {F F' : Mo D} (hg : Gl X "list") (hm : X.mg "list" = none) (hg2 : Gl X "range") (hm2 : X.mg "range" = none) (hc : X.calm = true) (ha : DenE X a F) (hb : DenE X b F')
    (na : starEach [a, b] X.env = (false, eval a X.env) :: starEach [b] X.env := by rfl) (nb : starEach [b] X.env = (false, eval b X.env) :: starEach [] X.env := by rfl) (hp : (backTo pos2 (starEach [b] X.env)).any (·.1) = false := by rfl)
    (hs : starEach [.Call (.Name "range" p) [a, b] [] pos2] X.env = (false, eval (.Call (.Name "range" p) [a, b] [] pos2) X.env) :: starEach [] X.env := by rfl) :
    DenE X (.Call (.Name "list" p2) [.Call (.Name "range" p) [a, b] [] pos2] [] pos) (mBin gLstRg2 F F') := by
  obtain ⟨t, h1, h2⟩ := ha
  obtain ⟨u, k1, k2⟩ := hb
  refine ⟨_, pe_listRg hc hg hm (prg_2 hg2 hm2 h1 k1 na nb hp) hs, fun P b σ env G H d env' rr h Q q => ?_⟩
  obtain ⟨x, e1, hx, h⟩ := mBind_some h
  obtain ⟨y, e2, hy, h⟩ := mBind_some h
  obtain ⟨hz, rfl⟩ := mLift_some h
  refine h2 P b σ env G H x e1 rr hx _ fun v G1 H1 g1 r1 p1 => k2 P b σ e1 G1 H1 y _ r1 hy _ fun w G2 H2 g2 r2 p2 => ?_
  unfold gLstRg2 at hz
  clear h hy
  split at hz
  · rename_i i j
    split at hz
    · rename_i hj
      cases hz
      refine ⟨i, j, p1.inv_int, p2.inv_int, ?_, fun y hy => ?_⟩
      · have hz : sizeLine = 16777216 := sizeLine_eq
        unfold RgOk
        omega
      · have pu := Pu.new (o := .lst (rgV i j)) r2.sub hy
        exact q _ _ _ ((g1.trans g2).trans (pu.gr r2.fresh)) (r2.pu pu) (.lst upd_same (rgV_rp2 i j))
    · cases hz
  · cases hz
theorem den_call0 {x : Str} {k : Nat} {p pos : Pos} {F : List D → Option D} (h : Fd X.prog X.w X.K X.mg X.base x k 0 F) (hr : Room k X.A) (hg : Gl X x) (hdb : (x == ("__debug__" : Str)) = false := by decide) : DenE X (.Call (.Name x p) [] [] pos) (mMap (lenIs 0 F) (mRet [])) := by
  obtain ⟨f, fd, ps, h1, h2, h3, h4, h5⟩ := h.ex
  refine ⟨_, pe_call0 (E := fun _ _ _ => True) h5 hr hg h1 h2 h3 .nil pass0 hdb, fun P b σ env G H d env' rr h Q q => ?_⟩
  obtain ⟨ds, hds, hF⟩ := mMap_some h
  obtain ⟨rfl, rfl⟩ := mRet_some hds
  have hF : (if ([] : List D).length = 0 then F [] else none) = some d := hF
  rw [if_pos (show ([] : List D).length = 0 from rfl)] at hF
  have key : ∀ E', spF 0 F [] H Q E' := fun E' => ⟨G, [], d, rr.sub, .nil, rfl, hF, fun v G2 H2 pu pv => q v G2 H2 (pu.gr rr.fresh) (rr.pu pu) pv⟩
  exact key (fun _ _ _ => True)
end
end Dn
set_option maxHeartbeats 4000000
namespace Dn
open PySem PySem.Spec PyProof.Rows L2
def B_is_whole : So := (sSeq (sRet (mAndV (mMap gIsInt (mVar 0)) (mMap (fun k => some (.bool (!k))) (mMap gB (mMap gIsBool (mVar 0))))))
    sNil)
def F_is_whole (ds : List D) : Option D := outF (B_is_whole (envOf ["thing"] ds))
def B_are_whole : So := (sSeq (sFor (mMap gSeq (mVar 0)) (gNm 1) (sSeq (sIf (mAnd (mMap gB (mMap gTyNotInt (mVar 1))) (mNot (mMap gTru (mMap (lenIs 1 F_is_whole) (mCons (mVar 1) (mRet [])))))) (sSeq (sRet (mRet (.bool false)))
    sNil) sNil)
    sNil))
    (sSeq (sRet (mRet (.bool true)))
    sNil))
def F_are_whole (ds : List D) : Option D := outF (B_are_whole (envOf ["things", "thing"] ds))
def B_is_from_to : So := (sSeq (sRet (mAndV (mMap (lenIs 1 F_is_whole) (mCons (mVar 0) (mRet []))) (mMap (fun k => some (.bool k)) (mChain gLe gLe (mVar 1) (mVar 0) (mVar 2)))))
    sNil)
def F_is_from_to (ds : List D) : Option D := outF (B_is_from_to (envOf ["thing", "low", "high"] ds))
def B_is_tuple : So := (sSeq (sRet (mAndV (mMap gIsTuple (mVar 0)) (mMap (fun k => some (.bool k)) (mChain gLe gLe (mVar 1) (mMap gLen (mCons (mVar 0) (mRet []))) (mVar 2)))))
    sNil)
def F_is_tuple (ds : List D) : Option D := outF (B_is_tuple (envOf ["thing", "least", "most"] ds))
def B_are_rows : So := (sSeq (sIf (mNot (mMap gTru (mMap (lenIs 3 F_is_tuple) (mCons (mVar 0) (mCons (mRet (.int 1)) (mCons (mVar 1) (mRet []))))))) (sSeq (sRet (mRet (.bool false)))
    sNil) sNil)
    (sSeq (sRet (mBin gEq (mMap (fun ds => some (.list ds)) (mLc (mMap gSeq (mVar 0)) (gNm 3) (mMap gTru (mMap gIsTuple (mVar 3))) (mMap gLen (mCons (mVar 3) (mRet []))) [3])) (mBin gMulB (mMap gLst (mCons (mVar 2) (mRet []))) (mMap gLen (mCons (mVar 0) (mRet []))))))
    sNil))
def F_are_rows (ds : List D) : Option D := outF (B_are_rows (envOf ["thing", "most", "wide", "row"] ds))
def B_is_rising : So := (sSeq (sFor (mMap gZip2 (mCons (mVar 0) (mCons (mSl (mVar 0) (mMap (fun d => (gI d).map some) (mRet (.int 1))) (mRet none)) (mRet [])))) (gTu 2 (gsCons (gNm 1) (gsCons (gNm 2) gsNil))) (sSeq (sIf (mNot (mMap gB (mBin gLt (mVar 1) (mVar 2)))) (sSeq (sRet (mRet (.bool false)))
    sNil) sNil)
    sNil))
    (sSeq (sRet (mRet (.bool true)))
    sNil))
def F_is_rising (ds : List D) : Option D := outF (B_is_rising (envOf ["things", "one", "other"] ds))
def B_is_column : So := (sSeq (sSet 3 (mRet (.int 0)))
    (sSeq (sFor (mMap gEnum (mCons (mVar 2) (mRet []))) (gTu 2 (gsCons (gNm 4) (gsCons (gNm 5) gsNil))) (sSeq (sIf (mMap gB (mMap gNotN (mVar 5))) (sSeq (sIf (mOr (mMap gB (mBin gLt (mVar 4) (mVar 3))) (mOr (mMap gB (mBin (gIn true) (mVar 5) (mVar 1))) (mAnd (mMap gB (mMap gTyNotInt (mVar 5))) (mNot (mMap gTru (mMap (lenIs 1 F_is_whole) (mCons (mVar 5) (mRet [])))))))) (sSeq (sRet (mRet (.bool false)))
    sNil) sNil)
    (sSeq (sSet 3 (mBin gAdd (mVar 4) (mBin gIx (mVar 0) (mVar 5))))
    sNil)) sNil)
    sNil))
    (sSeq (sRet (mRet (.bool true)))
    sNil)))
def F_is_column (ds : List D) : Option D := outF (B_is_column (envOf ["stays", "desk", "column", "free", "tick", "one"] ds))
def B_turns_of : So := (sSeq (sSetN 2 0 (mMap gLst (mRet [])))
    (sSeq (sSet 3 (mRet (.int 0)))
    (sSeq (sFor (mMap gEnum (mCons (mVar 1) (mRet []))) (gTu 2 (gsCons (gNm 4) (gsCons (gNm 5) gsNil))) (sSeq (sIf (mMap gB (mMap gNotN (mVar 5))) (sSeq (sApp 2 (mVar 5))
    (sSeq (sSet 3 (mBin gAdd (mVar 4) (mBin gIx (mVar 0) (mVar 5))))
    sNil)) (sSeq (sApp 2 (mIf (mMap gB (mBin gLt (mVar 4) (mVar 3))) (mRet (.int (-1))) (mRet (.int (4)))))
    sNil))
    sNil))
    (sFrz 2 (sSeq (sRet (mVar 2))
    sNil)))))
def F_turns_of (ds : List D) : Option D := outF (B_turns_of (envOf ["stays", "column", "turns", "free", "tick", "one"] ds))
def B_all_stays : So := (sSeq (sRet (mMap (fun ds => some (.list ds)) (mLc (mMap gSeq (mBin gIx (mVar 0) (mRet (.int 0)))) (gTu 2 (gsCons (gNm 1) (gsCons (gNm 2) gsNil))) (mRet true) (mVar 2) [1, 2])))
    sNil)
def F_all_stays (ds : List D) : Option D := outF (B_all_stays (envOf ["hall", "_", "stay"] ds))
def B_all_turns : So := (sSeq (sSet 2 (mMap (lenIs 1 F_all_stays) (mCons (mVar 0) (mRet []))))
    (sSeq (sRet (mMap (fun ds => some (.list ds)) (mLc (mMap gSeq (mVar 1)) (gNm 3) (mRet true) (mMap (lenIs 2 F_turns_of) (mCons (mVar 2) (mCons (mVar 3) (mRet [])))) [3])))
    sNil))
def F_all_turns (ds : List D) : Option D := outF (B_all_turns (envOf ["hall", "columns", "stays", "column"] ds))
def B__are_desks : So := (sSeq (sIf (mNot (mMap gTru (mMap (lenIs 3 F_is_tuple) (mCons (mVar 0) (mCons (mRet (.int 1)) (mCons (mRet (.int (3))) (mRet []))))))) (sSeq (sRet (mRet (.bool false)))
    sNil) sNil)
    (sSeq (sFor (mMap gSeq (mVar 0)) (gNm 2) (sSeq (sIf (mOr (mNot (mMap gTru (mMap gIsTuple (mVar 2)))) (mNot (mMap gTru (mVar 2)))) (sSeq (sRet (mRet (.bool false)))
    sNil) sNil)
    (sSeq (sSet 3 (mRet (.int 0)))
    (sSeq (sFor (mMap gSeq (mVar 2)) (gNm 4) (sSeq (sIf (mOr (mAnd (mMap gB (mMap gTyNotInt (mVar 4))) (mNot (mMap gTru (mMap (lenIs 1 F_is_whole) (mCons (mVar 4) (mRet [])))))) (mNot (mChain gLe gLt (mVar 3) (mVar 4) (mVar 1)))) (sSeq (sRet (mRet (.bool false)))
    sNil) sNil)
    (sSeq (sSet 3 (mBin gAdd (mVar 4) (mRet (.int 1))))
    sNil)))
    sNil))))
    (sSeq (sRet (mRet (.bool true)))
    sNil)))
def F__are_desks (ds : List D) : Option D := outF (B__are_desks (envOf ["thing", "ranks", "desk", "low", "rank"] ds))
def B__are_ranks : So := (sSeq (sIf (mNot (mMap gTru (mMap (lenIs 3 F_is_tuple) (mCons (mVar 0) (mCons (mRet (.int 1)) (mCons (mRet (.int (4))) (mRet []))))))) (sSeq (sRet (mRet (.bool false)))
    sNil) sNil)
    (sSeq (sFor (mMap gSeq (mVar 0)) (gNm 1) (sSeq (sIf (mOr (mNot (mMap gTru (mMap gIsTuple (mVar 1)))) (mOr (mMap gB (mBin gNe (mMap gLen (mCons (mVar 1) (mRet []))) (mRet (.int 2)))) (mNot (mMap gTru (mMap (lenIs 1 F_are_whole) (mCons (mVar 1) (mRet []))))))) (sSeq (sRet (mRet (.bool false)))
    sNil) sNil)
    (sSeq (sTup (mVar 1) (gTu 2 (gsCons (gNm 2) (gsCons (gNm 3) gsNil))))
    (sSeq (sIf (mOr (mNot (mChain gLe gLe (mRet (.int 1)) (mVar 2) (mRet (.int (5))))) (mNot (mChain gLe gLe (mRet (.int 1)) (mVar 3) (mRet (.int (10)))))) (sSeq (sRet (mRet (.bool false)))
    sNil) sNil)
    sNil))))
    (sSeq (sRet (mRet (.bool true)))
    sNil)))
def F__are_ranks (ds : List D) : Option D := outF (B__are_ranks (envOf ["thing", "pair", "most", "stay"] ds))
def B_is_hall : So := (sSeq (sIf (mNot (mMap gTru (mMap (lenIs 3 F_is_tuple) (mCons (mVar 0) (mCons (mRet (.int 2)) (mCons (mRet (.int 2)) (mRet []))))))) (sSeq (sRet (mRet (.bool false)))
    sNil) sNil)
    (sSeq (sTup (mVar 0) (gTu 2 (gsCons (gNm 1) (gsCons (gNm 2) gsNil))))
    (sSeq (sRet (mAndV (mMap (lenIs 1 F__are_ranks) (mCons (mVar 1) (mRet []))) (mMap (lenIs 2 F__are_desks) (mCons (mVar 2) (mCons (mMap gLen (mCons (mVar 1) (mRet []))) (mRet []))))))
    sNil)))
def F_is_hall (ds : List D) : Option D := outF (B_is_hall (envOf ["thing", "ranks", "desks"] ds))
def B_columns_of : So := (sSeq (sSet 2 (mBin gIx (mVar 0) (mRet (.int 1))))
    (sSeq (sIf (mNot (mMap gTru (mMap (lenIs 3 F_are_rows) (mCons (mVar 1) (mCons (mRet (.int (40))) (mCons (mMap gLen (mCons (mVar 2) (mRet []))) (mRet []))))))) (sSeq (sRet (mRet .none))
    sNil) sNil)
    (sSeq (sSet 3 (mMap (lenIs 1 F_all_stays) (mCons (mVar 0) (mRet []))))
    (sSeq (sSet 4 (mMap gZipS (mVar 1)))
    (sSeq (sFor (mMap gZip2 (mCons (mVar 4) (mCons (mVar 2) (mRet [])))) (gTu 2 (gsCons (gNm 5) (gsCons (gNm 6) gsNil))) (sSeq (sIf (mNot (mMap gTru (mMap (lenIs 3 F_is_column) (mCons (mVar 3) (mCons (mVar 6) (mCons (mVar 5) (mRet []))))))) (sSeq (sRet (mRet .none))
    sNil) sNil)
    sNil))
    (sSeq (sRet (mVar 4))
    sNil))))))
def F_columns_of (ds : List D) : Option D := outF (B_columns_of (envOf ["hall", "thing", "desks", "stays", "columns", "column", "desk"] ds))
def B_need_hall : So := (sSeq (sIf (mNot (mMap gTru (mMap (lenIs 1 F_is_hall) (mCons (mVar 0) (mRet []))))) (sSeq sNone
    sNil) sNil)
    sNil)
def F_need_hall (ds : List D) : Option D := outF (B_need_hall (envOf ["thing"] ds))
def B_need_book : So := (sSeq (sSet 2 (mMap (lenIs 2 F_columns_of) (mCons (mVar 0) (mCons (mVar 1) (mRet [])))))
    (sSeq (sIf (mMap gB (mMap gIsN (mVar 2))) (sSeq sNone
    sNil) sNil)
    (sSeq (sRet (mVar 2))
    sNil)))
def F_need_book (ds : List D) : Option D := outF (B_need_book (envOf ["hall", "thing", "columns"] ds))
def B__is_look : So := (sSeq (sTup (mVar 2) (gTu 4 (gsCons (gNm 3) (gsCons (gNm 4) (gsCons (gNm 5) (gsCons (gNm 6) gsNil))))))
    (sSeq (sRet (mAndV (mMap (fun k => some (.bool k)) (mChain gLe gLt (mRet (.int 0)) (mVar 3) (mMap gLen (mCons (mVar 1) (mRet []))))) (mAndV (mMap (fun k => some (.bool k)) (mChain gLe gLt (mRet (.int 0)) (mVar 4) (mMap gLen (mCons (mBin gIx (mVar 0) (mRet (.int 0))) (mRet []))))) (mChain3 gLe gLe gLe (mRet (.int 0)) (mVar 5) (mVar 6) (mRet (.int (99)))))))
    sNil))
def F__is_look (ds : List D) : Option D := outF (B__is_look (envOf ["hall", "book", "look", "tick", "rank", "least", "most"] ds))
def B__are_looks_of : So := (sSeq (sIf (mNot (mMap gTru (mMap (lenIs 3 F_is_tuple) (mCons (mVar 2) (mCons (mRet (.int 0)) (mCons (mRet (.int (6))) (mRet []))))))) (sSeq (sRet (mRet (.bool false)))
    sNil) sNil)
    (sSeq (sFor (mMap gSeq (mVar 2)) (gNm 3) (sSeq (sIf (mOr (mNot (mMap gTru (mMap (lenIs 3 F_is_tuple) (mCons (mVar 3) (mCons (mRet (.int 4)) (mCons (mRet (.int 4)) (mRet []))))))) (mOr (mNot (mMap gTru (mMap (lenIs 1 F_are_whole) (mCons (mVar 3) (mRet []))))) (mNot (mMap gTru (mMap (lenIs 3 F__is_look) (mCons (mVar 0) (mCons (mVar 1) (mCons (mVar 3) (mRet []))))))))) (sSeq (sRet (mRet (.bool false)))
    sNil) sNil)
    sNil))
    (sSeq (sRet (mMap (lenIs 1 F_is_rising) (mCons (mVar 2) (mRet []))))
    sNil)))
def F__are_looks_of (ds : List D) : Option D := outF (B__are_looks_of (envOf ["hall", "book", "thing", "look"] ds))
def B_need_looks : So := (sSeq (sIf (mNot (mMap gTru (mMap (lenIs 3 F__are_looks_of) (mCons (mVar 0) (mCons (mVar 1) (mCons (mVar 2) (mRet []))))))) (sSeq sNone
    sNil) sNil)
    sNil)
def F_need_looks (ds : List D) : Option D := outF (B_need_looks (envOf ["hall", "book", "thing"] ds))
def B_need_written : So := (sSeq (sDrop (mMap (lenIs 1 F_need_hall) (mCons (mVar 0) (mRet []))))
    (sSeq (sSet 3 (mMap (lenIs 2 F_need_book) (mCons (mVar 0) (mCons (mVar 1) (mRet [])))))
    (sSeq (sDrop (mMap (lenIs 3 F_need_looks) (mCons (mVar 0) (mCons (mVar 1) (mCons (mVar 2) (mRet []))))))
    (sSeq (sRet (mVar 3))
    sNil))))
def F_need_written (ds : List D) : Option D := outF (B_need_written (envOf ["hall", "book", "looks", "columns"] ds))
def B_need_rank : So := (sSeq (sIf (mNot (mMap gTru (mMap (lenIs 3 F_is_from_to) (mCons (mVar 1) (mCons (mRet (.int 0)) (mCons (mBin gSub (mMap gLen (mCons (mBin gIx (mVar 0) (mRet (.int 0))) (mRet []))) (mRet (.int 1))) (mRet []))))))) (sSeq sNone
    sNil) sNil)
    sNil)
def F_need_rank (ds : List D) : Option D := outF (B_need_rank (envOf ["hall", "thing"] ds))
def B_told_of : So := (sSeq (sSet 5 (mDc (mMap gSeq (mMap gTup (mCons (mRet (.int (4))) (mStar (mVar 3) (mRet []))))) (gNm 12) (mRet true) (mVar 12) (mRet (.bool true)) [12]))
    (sSeq (sSet 6 (mMap (fun ds => some (.list ds)) (mLc (mMap gZip2 (mCons (mVar 1) (mCons (mBin gIx (mVar 0) (mRet (.int 1))) (mRet [])))) (gTu 2 (gsCons (gNm 13) (gsCons (gNm 14) gsNil))) (mMap gB (mBin (gIn false) (mVar 2) (mVar 14))) (mVar 13) [13, 14])))
    (sSeq (sSet 7 (mIf (mMap gTru (mVar 6)) (mMap gZipS (mVar 6)) (mMap (fun ds => some (.list ds)) (mLc (mMap gSeq (mBin gIx (mVar 1) (mRet (.int 0)))) (gNm 15) (mRet true) (mMap gTup (mRet [])) [15]))))
    (sSeq (sSetN 8 0 (mMap gLst (mRet [])))
    (sSeq (sSetN 9 0 (mMap gLst (mRet [])))
    (sSeq (sFor (mMap gSeq (mVar 7)) (gNm 10) (sSeq (sSet 11 (mRet .none))
    (sSeq (sFor (mMap gSeq (mVar 10)) (gNm 12) (sSeq (sIf (mMap gB (mBin gEq (mVar 12) (mVar 2))) (sSeq (sAug 4 gIAdd (mRet (.int 1)))
    sNil) (sSeq (sIf (mAnd (mMap gB (mBin (gInK false) (mVar 12) (mVar 5))) (mMap gB (mMap gIsN (mVar 11)))) (sSeq (sSet 11 (mVar 4))
    sNil) sNil)
    sNil))
    sNil))
    (sSeq (sApp 8 (mVar 4))
    (sSeq (sApp 9 (mVar 11))
    sNil)))))
    (sFrz 9 (sFrz 8 (sSeq (sRet (mMap gTup (mCons (mVar 8) (mCons (mVar 9) (mRet [])))))
    sNil)))))))))
def F_told_of (ds : List D) : Option D := outF (B_told_of (envOf ["hall", "turns", "rank", "behind", "gone", "over", "own", "rows", "least", "most", "row", "passed", "one", "column", "desk", "_"] ds))
def B_told_with : So := (sSeq (sSet 3 (mBin gIx (mVar 0) (mRet (.int 0))))
    (sSeq (sSetN 4 0 (mMap gList (mCons (mVar 3) (mRet []))))
    (sSeq (sSetN 5 0 (mMap gList (mCons (mBin gIx (mVar 0) (mRet (.int 1))) (mRet []))))
    (sSeq (sFor (mMap gSeq (mVar 1)) (gTu 4 (gsCons (gNm 6) (gsCons (gNm 7) (gsCons (gNm 8) (gsCons (gNm 9) gsNil))))) (sSeq (sIf (mMap gB (mBin gEq (mVar 7) (mVar 2))) (sSeq (sPut 4 (mVar 6) (mLend (mMap gMax2 (mCons (mBin gIx (mVar 4) (mVar 6)) (mCons (mBin gAdd (mBin gIx (mVar 3) (mVar 6)) (mVar 8)) (mRet []))))))
    (sSeq (sPut 5 (mVar 6) (mLend (mIf (mMap gB (mMap gIsN (mBin gIx (mVar 5) (mVar 6)))) (mBin gAdd (mBin gIx (mVar 3) (mVar 6)) (mVar 9)) (mMap gMin2 (mCons (mBin gIx (mVar 5) (mVar 6)) (mCons (mBin gAdd (mBin gIx (mVar 3) (mVar 6)) (mVar 9)) (mRet [])))))))
    sNil)) sNil)
    sNil))
    (sFrz 5 (sFrz 4 (sSeq (sRet (mMap gTup (mCons (mVar 4) (mCons (mVar 5) (mRet [])))))
    sNil)))))))
def F_told_with (ds : List D) : Option D := outF (B_told_with (envOf ["told", "looks", "rank", "taken", "least", "most", "tick", "one", "few", "many"] ds))
def B_ranks_behind : So := (sSeq (sRet (mBin gTupRg2 (mBin gAdd (mVar 1) (mRet (.int 1))) (mMap gLen (mCons (mBin gIx (mVar 0) (mRet (.int 0))) (mRet [])))))
    sNil)
def F_ranks_behind (ds : List D) : Option D := outF (B_ranks_behind (envOf ["hall", "rank"] ds))
def B_steps_up : So := (sSeq (sSetN 4 0 (mMap gLst (mRet [])))
    (sSeq (sFor (mMap gZip2 (mCons (mBin gIx (mVar 0) (mRet (.int 0))) (mCons (mBin gIx (mVar 0) (mRet (.int 1))) (mRet [])))) (gTu 2 (gsCons (gNm 5) (gsCons (gNm 6) gsNil))) (sSeq (sAug 3 gIAdd (mVar 1))
    (sSeq (sIf (mAnd (mMap gB (mMap gNotN (mVar 6))) (mMap gB (mBin gLt (mVar 6) (mVar 3)))) (sSeq (sSet 3 (mVar 6))
    sNil) sNil)
    (sSeq (sIf (mMap gB (mBin gGt (mVar 5) (mVar 2))) (sSeq (sSet 2 (mVar 5))
    sNil) sNil)
    (sSeq (sApp 4 (mMap gTup (mCons (mVar 2) (mCons (mVar 3) (mRet [])))))
    (sSeq (sIf (mMap gB (mBin gGt (mVar 2) (mVar 3))) (sSeq (fun env => some (.bk env))
    sNil) sNil)
    sNil))))))
    (sFrz 4 (sSeq (sRet (mVar 4))
    sNil))))
def F_steps_up (ds : List D) : Option D := outF (B_steps_up (envOf ["told", "most", "low", "high", "steps", "least", "limit"] ds))
def B_is_barred : So := (sSeq (sTup (mBin gIx (mVar 0) (mMap gNeg (mRet (.int 1)))) (gTu 2 (gsCons (gNm 1) (gsCons (gNm 2) gsNil))))
    (sSeq (sRet (mBin gGt (mVar 1) (mVar 2)))
    sNil))
def F_is_barred (ds : List D) : Option D := outF (B_is_barred (envOf ["steps", "low", "high"] ds))
def B_steps_down : Ro := (rSeq (sTup (mBin gIx (mVar 0) (mMap gNeg (mRet (.int 1)))) (gTu 2 (gsCons (gNm 2) (gsCons (gNm 3) gsNil)))) (rSeq (sSetN 4 0 (mMap gLst (mRet []))) (rSeq (sFor (mMap gRevI (mCons (mVar 0) (mRet []))) (gTu 2 (gsCons (gNm 5) (gsCons (gNm 6) gsNil))) (sSeq (sSet 2 (mIf (mMap gB (mBin gGt (mVar 5) (mBin gSub (mVar 2) (mVar 1)))) (mVar 5) (mBin gSub (mVar 2) (mVar 1))))
    (sSeq (sSet 3 (mIf (mMap gB (mBin gLt (mVar 6) (mVar 3))) (mVar 6) (mVar 3)))
    (sSeq (sApp 4 (mMap gTup (mCons (mVar 2) (mCons (mVar 3) (mRet [])))))
    sNil)))) (rFrz 4 (rRet (mMap gRevL (mVar 4)))))))
def F_steps_down (ds : List D) : Option D := outN (B_steps_down (envOf ["steps", "most", "low", "high", "found", "low_up", "high_up"] ds))
def B_rank_up : So := (sSeq (sSet 4 (mMap (lenIs 5 F_told_of) (mCons (mVar 0) (mCons (mVar 1) (mCons (mVar 3) (mCons (mMap (lenIs 2 F_ranks_behind) (mCons (mVar 0) (mCons (mVar 3) (mRet [])))) (mCons (mRet (.int 0)) (mRet []))))))))
    (sSeq (sRet (mMap (lenIs 4 F_steps_up) (mCons (mIf (mMap gTru (mVar 2)) (mMap (lenIs 3 F_told_with) (mCons (mVar 4) (mCons (mVar 2) (mCons (mVar 3) (mRet []))))) (mVar 4)) (mCons (mBin gIx (mBin gIx (mBin gIx (mVar 0) (mRet (.int 0))) (mVar 3)) (mRet (.int 0))) (mCons (mRet (.int 0)) (mCons (mRet (.int 0)) (mRet [])))))))
    sNil))
def F_rank_up (ds : List D) : Option D := outF (B_rank_up (envOf ["hall", "turns", "looks", "rank", "told"] ds))
def B_all_up : So := (sSeq (sSet 3 (mMap (lenIs 2 F_all_turns) (mCons (mVar 0) (mCons (mVar 1) (mRet [])))))
    (sSeq (sSetN 4 0 (mMap gLst (mRet [])))
    (sSeq (sFor (mMap gRg1 (mCons (mMap gLen (mCons (mBin gIx (mVar 0) (mRet (.int 0))) (mRet []))) (mRet []))) (gNm 5) (sSeq (sSet 6 (mMap (lenIs 4 F_rank_up) (mCons (mVar 0) (mCons (mVar 3) (mCons (mVar 2) (mCons (mVar 5) (mRet [])))))))
    (sSeq (sIf (mMap gTru (mMap (lenIs 1 F_is_barred) (mCons (mVar 6) (mRet [])))) (sSeq (sRet (mRet .none))
    sNil) sNil)
    (sSeq (sApp 4 (mVar 6))
    sNil))))
    (sFrz 4 (sSeq (sRet (mVar 4))
    sNil)))))
def F_all_up (ds : List D) : Option D := outF (B_all_up (envOf ["hall", "columns", "looks", "turns", "found", "rank", "steps"] ds))
def B_all_steps : So := (sSeq (sSet 3 (mMap (lenIs 3 F_all_up) (mCons (mVar 0) (mCons (mVar 1) (mCons (mVar 2) (mRet []))))))
    (sSeq (sRet (mIf (mMap gB (mMap gIsN (mVar 3))) (mRet .none) (mMap (fun ds => some (.list ds)) (mLc (mMap gZip2 (mCons (mVar 3) (mCons (mBin gIx (mVar 0) (mRet (.int 0))) (mRet [])))) (gTu 2 (gsCons (gNm 4) (gsCons (gTu 2 (gsCons (gNm 5) (gsCons (gNm 6) gsNil))) gsNil))) (mRet true) (mMap (lenIs 2 F_steps_down) (mCons (mVar 4) (mCons (mVar 5) (mRet [])))) [4, 5, 6]))))
    sNil))
def F_all_steps (ds : List D) : Option D := outF (B_all_steps (envOf ["hall", "columns", "looks", "every", "steps", "most", "_"] ds))
def B_steps_of : Ro := (rSeq (sSet 4 (mMap (lenIs 3 F_all_up) (mCons (mVar 0) (mCons (mVar 1) (mCons (mVar 2) (mRet [])))))) (rRet (mIf (mMap gB (mMap gIsN (mVar 4))) (mRet .none) (mMap (lenIs 2 F_steps_down) (mCons (mBin gIx (mVar 4) (mVar 3)) (mCons (mBin gIx (mBin gIx (mBin gIx (mVar 0) (mRet (.int 0))) (mVar 3)) (mRet (.int 0))) (mRet [])))))))
def F_steps_of (ds : List D) : Option D := outN (B_steps_of (envOf ["hall", "columns", "looks", "rank", "every"] ds))
def B_ways_within : So := (sSeq (sSet 4 (mMap gAcc (mVar 0)))
    (sSeq (sSet 4 (mBin gAdd (mBin gAdd (mBin gMulB (mMap gLst (mCons (mRet (.int 0)) (mRet []))) (mBin gAdd (mVar 1) (mRet (.int 1)))) (mVar 4)) (mBin gMulB (mMap gLst (mCons (mBin gIx (mVar 4) (mMap gNeg (mRet (.int 1)))) (mRet []))) (mVar 1))))
    (sSeq (sSet 5 (mBin gAdd (mBin gAdd (mVar 2) (mVar 1)) (mRet (.int 1))))
    (sSeq (sRet (mMap (fun ds => some (.list ds)) (mLc (mMap gZip2 (mCons (mSl (mVar 4) (mMap (fun d => (gI d).map some) (mVar 5)) (mMap (fun d => (gI d).map some) (mBin gAdd (mVar 5) (mVar 3)))) (mCons (mSl (mVar 4) (mMap (fun d => (gI d).map some) (mVar 2)) (mMap (fun d => (gI d).map some) (mBin gAdd (mVar 2) (mVar 3)))) (mRet [])))) (gTu 2 (gsCons (gNm 6) (gsCons (gNm 7) gsNil))) (mRet true) (mBin gSub (mVar 6) (mVar 7)) [6, 7])))
    sNil))))
def F_ways_within (ds : List D) : Option D := outF (B_ways_within (envOf ["ways", "most", "start", "many", "by", "behind", "one", "other"] ds))
def B_ways_to : So := (sSeq (sSetN 2 0 (mMap gLst (mRet [])))
    (sSeq (sSet 3 (mMap gLst (mCons (mRet (.int 1)) (mRet []))))
    (sSeq (sSet 4 (mRet (.int 0)))
    (sSeq (sFor (mMap gSeq (mVar 0)) (gTu 2 (gsCons (gNm 5) (gsCons (gNm 6) gsNil))) (sSeq (sSet 3 (mMap (lenIs 4 F_ways_within) (mCons (mVar 3) (mCons (mVar 1) (mCons (mBin gSub (mVar 5) (mVar 4)) (mCons (mBin gAdd (mBin gSub (mVar 6) (mVar 5)) (mRet (.int 1))) (mRet [])))))))
    (sSeq (sApp 2 (mVar 3))
    (sSeq (sSet 4 (mVar 5))
    sNil))))
    (sFrz 2 (sSeq (sRet (mVar 2))
    sNil))))))
def F_ways_to (ds : List D) : Option D := outF (B_ways_to (envOf ["steps", "most", "found", "ahead", "low_ahead", "low", "high"] ds))
def B_ways_on : So := (sSeq (sTup (mBin gIx (mVar 0) (mMap gNeg (mRet (.int 1)))) (gTu 2 (gsCons (gNm 2) (gsCons (gNm 3) gsNil))))
    (sSeq (sSet 4 (mBin gMulB (mMap gLst (mCons (mRet (.int 1)) (mRet []))) (mBin gAdd (mBin gSub (mVar 3) (mVar 2)) (mRet (.int 1)))))
    (sSeq (sSetN 5 0 (mMap gLst (mCons (mVar 4) (mRet []))))
    (sSeq (sFor (mMap gRevI (mCons (mSl (mVar 0) (mRet none) (mMap (fun d => (gI d).map some) (mMap gNeg (mRet (.int 1))))) (mRet []))) (gTu 2 (gsCons (gNm 6) (gsCons (gNm 3) gsNil))) (sSeq (sSet 4 (mMap (lenIs 4 F_ways_within) (mCons (mVar 4) (mCons (mVar 1) (mCons (mBin gSub (mBin gAdd (mVar 6) (mVar 1)) (mVar 2)) (mCons (mBin gAdd (mBin gSub (mVar 3) (mVar 6)) (mRet (.int 1))) (mRet [])))))))
    (sSeq (sApp 5 (mVar 4))
    (sSeq (sSet 2 (mVar 6))
    sNil))))
    (sFrz 5 (sSeq (sRet (mMap gRevL (mVar 5)))
    sNil))))))
def F_ways_on (ds : List D) : Option D := outF (B_ways_on (envOf ["steps", "most", "low_behind", "high", "behind", "found", "low"] ds))
def B_all_ways : So := (sSeq (sRet (mMap gSum (mCons (mBin gIx (mMap (lenIs 2 F_ways_to) (mCons (mVar 0) (mCons (mVar 1) (mRet [])))) (mMap gNeg (mRet (.int 1)))) (mRet []))))
    sNil)
def F_all_ways (ds : List D) : Option D := outF (B_all_ways (envOf ["steps", "most"] ds))
def B_all_comings : So := (sSeq (sSet 2 (mRet (.int 1)))
    (sSeq (sFor (mMap gZip2 (mCons (mVar 1) (mCons (mBin gIx (mVar 0) (mRet (.int 0))) (mRet [])))) (gTu 2 (gsCons (gNm 3) (gsCons (gTu 2 (gsCons (gNm 4) (gsCons (gNm 5) gsNil))) gsNil))) (sSeq (sSet 2 (mBin gMulB (mVar 2) (mMap (lenIs 2 F_all_ways) (mCons (mVar 3) (mCons (mVar 4) (mRet []))))))
    sNil))
    (sSeq (sRet (mVar 2))
    sNil)))
def F_all_comings (ds : List D) : Option D := outF (B_all_comings (envOf ["hall", "every", "many", "steps", "most", "_"] ds))
def B_how_many : So := (sSeq (sSet 3 (mMap (lenIs 3 F_need_written) (mCons (mVar 0) (mCons (mVar 1) (mCons (mVar 2) (mRet []))))))
    (sSeq (sSet 4 (mMap (lenIs 3 F_all_steps) (mCons (mVar 0) (mCons (mVar 3) (mCons (mVar 2) (mRet []))))))
    (sSeq (sRet (mIf (mMap gB (mMap gIsN (mVar 4))) (mRet (.int 0)) (mMap (lenIs 2 F_all_comings) (mCons (mVar 0) (mCons (mVar 4) (mRet []))))))
    sNil)))
def F_how_many (ds : List D) : Option D := outF (B_how_many (envOf ["hall", "book", "looks", "columns", "every"] ds))
def B_how_many_of : So := (sSeq (sSet 4 (mMap (lenIs 3 F_need_written) (mCons (mVar 0) (mCons (mVar 1) (mCons (mVar 2) (mRet []))))))
    (sSeq (sDrop (mMap (lenIs 2 F_need_rank) (mCons (mVar 0) (mCons (mVar 3) (mRet [])))))
    (sSeq (sSet 5 (mMap (lenIs 4 F_steps_of) (mCons (mVar 0) (mCons (mVar 4) (mCons (mVar 2) (mCons (mVar 3) (mRet [])))))))
    (sSeq (sRet (mIf (mMap gB (mMap gIsN (mVar 5))) (mRet (.int 0)) (mMap (lenIs 2 F_all_ways) (mCons (mVar 5) (mCons (mBin gIx (mBin gIx (mBin gIx (mVar 0) (mRet (.int 0))) (mVar 3)) (mRet (.int 0))) (mRet []))))))
    sNil))))
def F_how_many_of (ds : List D) : Option D := outF (B_how_many_of (envOf ["hall", "book", "looks", "rank", "columns", "steps"] ds))
def B__law_well : Ro := (rIf (mMap gB (mBin gGe (mVar 0) (mBin gPow (mRet (.int 10)) (mRet (.int 18))))) (rRet (mMap gLst (mCons (mBin gSub (mVar 0) (mBin gPow (mRet (.int 10)) (mRet (.int 18)))) (mCons (mBin gMod (mVar 0) (mRet (.int 2305843009213693951))) (mCons (mVar 1) (mRet [])))))) (rRet (mMap gLst (mCons (mRet (.int 0)) (mCons (mBin gMod (mVar 0) (mRet (.int 2305843009213693951))) (mCons (mVar 1) (mRet [])))))))
def F__law_well (ds : List D) : Option D := outN (B__law_well (envOf ["cell", "turn"] ds))
def B__law_take : So := (sSeq (sIf (mLendT (mMap gB (mBin gGt (mBin gIx (mVar 0) (mRet (.int 0))) (mRet (.int 0))))) (sSeq (sSet 2 (mLend (mBin gMod (mBin gIx (mVar 0) (mRet (.int 0))) (mVar 1))))
    (sSeq (sPut 0 (mRet (.int 0)) (mLend (mBin gDivB (mBin gIx (mVar 0) (mRet (.int 0))) (mVar 1))))
    (sSeq (sRet (mVar 2))
    sNil))) sNil)
    (sSeq (sPut 0 (mRet (.int 2)) (mLend (mBin gAdd (mBin gIx (mVar 0) (mRet (.int 2))) (mRet (.int 1)))))
    (sSeq (sSet 3 (mRet (.int 2305843009213693951)))
    (sSeq (sSet 4 (mLend (mBin gMod (mBin gAdd (mBin gIx (mVar 0) (mRet (.int 1))) (mBin gMulB (mRet (.int 1000003)) (mBin gIx (mVar 0) (mRet (.int 2))))) (mVar 3))))
    (sSeq (sSet 4 (mLend (mBin gMod (mBin gAdd (mBin gAdd (mBin gMulB (mVar 4) (mVar 4)) (mBin gMulB (mRet (.int 7919)) (mBin gPow (mBin gIx (mVar 0) (mRet (.int 2))) (mRet (.int 2))))) (mRet (.int 5))) (mVar 3))))
    (sSeq (sRet (mBin gMod (mBin gDivB (mBin gMod (mBin gPow (mVar 4) (mRet (.int 3))) (mVar 3)) (mRet (.int 13))) (mVar 1)))
    sNil))))))
def F__law_take (ds : List D) : Option (D × List D) := outIO [some 0, none] (B__law_take (envIO ["bag", "many", "found", "p", "n"] [some 0, none] ds))
def B__law_bags : Ro := (rRet (mMap (fun ds => some (.list ds)) (mLc (mMap gEnum (mCons (mBin gAdd (mSl (mVar 0) (mRet none) (mMap (fun d => (gI d).map some) (mVar 1))) (mMap gLst (mCons (mRet (.int 0)) (mRet [])))) (mRet []))) (gTu 2 (gsCons (gNm 2) (gsCons (gNm 3) gsNil))) (mRet true) (mMap (lenIs 2 F__law_well) (mCons (mVar 3) (mCons (mBin gMulB (mRet (.int 977)) (mVar 2)) (mRet [])))) [2, 3])))
def F__law_bags (ds : List D) : Option D := outN (B__law_bags (envOf ["script", "most", "k", "cell"] ds))
def B_need_tick : So := (sSeq (sIf (mNot (mMap gTru (mMap (lenIs 3 F_is_from_to) (mCons (mVar 1) (mCons (mRet (.int 0)) (mCons (mBin gSub (mMap gLen (mCons (mVar 0) (mRet []))) (mRet (.int 1))) (mRet []))))))) (sSeq sNone
    sNil) sNil)
    sNil)
def F_need_tick (ds : List D) : Option D := outF (B_need_tick (envOf ["book", "thing"] ds))
def B_taken_by : So := (sSeq (sRet (mMap gAcc (mMap (fun ds => some (.list ds)) (mLc (mMap gSeq (mVar 0)) (gNm 2) (mRet true) (mBin gCnt (mVar 2) (mVar 1)) [2]))))
    sNil)
def F_taken_by (ds : List D) : Option D := outF (B_taken_by (envOf ["book", "rank", "row"] ds))
def B__left : So := (sSeq (sRet (mMap (fun ds => some (.list ds)) (mLc (mMap gZip2 (mCons (mVar 0) (mCons (mMap (lenIs 2 F_taken_by) (mCons (mVar 1) (mCons (mVar 2) (mRet [])))) (mRet [])))) (gTu 2 (gsCons (gTu 2 (gsCons (gNm 3) (gsCons (gNm 4) gsNil))) (gsCons (gNm 5) gsNil))) (mRet true) (mMap gTup (mCons (mBin gSub (mVar 3) (mVar 5)) (mCons (mBin gSub (mVar 4) (mVar 5)) (mRet [])))) [3, 4, 5])))
    sNil)
def F__left (ds : List D) : Option D := outF (B__left (envOf ["steps", "book", "rank", "low", "high", "gone"] ds))
def B_waiting : So := (sSeq (sSet 5 (mMap (lenIs 3 F_need_written) (mCons (mVar 0) (mCons (mVar 1) (mCons (mVar 2) (mRet []))))))
    (sSeq (sDrop (mMap (lenIs 2 F_need_rank) (mCons (mVar 0) (mCons (mVar 3) (mRet [])))))
    (sSeq (sDrop (mMap (lenIs 2 F_need_tick) (mCons (mVar 1) (mCons (mVar 4) (mRet [])))))
    (sSeq (sSet 6 (mMap (lenIs 4 F_steps_of) (mCons (mVar 0) (mCons (mVar 5) (mCons (mVar 2) (mCons (mVar 3) (mRet [])))))))
    (sSeq (sRet (mIf (mMap gB (mMap gIsN (mVar 6))) (mRet .none) (mBin gIx (mMap (lenIs 3 F__left) (mCons (mVar 6) (mCons (mVar 1) (mCons (mVar 3) (mRet []))))) (mVar 4))))
    sNil)))))
def F_waiting (ds : List D) : Option D := outF (B_waiting (envOf ["hall", "book", "looks", "rank", "tick", "columns", "steps"] ds))
def B_stairs : Ro := (rSeq (sSet 4 (mMap (lenIs 3 F_need_written) (mCons (mVar 0) (mCons (mVar 1) (mCons (mVar 2) (mRet [])))))) (rSeq (sDrop (mMap (lenIs 2 F_need_rank) (mCons (mVar 0) (mCons (mVar 3) (mRet []))))) (rRet (mMap (lenIs 4 F_steps_of) (mCons (mVar 0) (mCons (mVar 4) (mCons (mVar 2) (mCons (mVar 3) (mRet [])))))))))
def F_stairs (ds : List D) : Option D := outN (B_stairs (envOf ["hall", "book", "looks", "rank", "columns"] ds))
def B_need_comer : So := (sSeq (sIf (mOr (mNot (mMap gTru (mMap (lenIs 1 F_is_whole) (mCons (mVar 0) (mRet []))))) (mMap gB (mBin gLt (mVar 0) (mRet (.int 1))))) (sSeq sNone
    sNil) sNil)
    sNil)
def F_need_comer (ds : List D) : Option D := outF (B_need_comer (envOf ["thing"] ds))
def B_first_tick : So := (sSeq (sFor (mMap gEnum (mCons (mVar 0) (mRet []))) (gTu 2 (gsCons (gNm 2) (gsCons (gNm 3) gsNil))) (sSeq (sIf (mMap gB (mBin gGe (mVar 3) (mVar 1))) (sSeq (sRet (mVar 2))
    sNil) sNil)
    sNil))
    (sSeq (sRet (mRet .none))
    sNil))
def F_first_tick (ds : List D) : Option D := outF (B_first_tick (envOf ["by", "comer", "tick", "many"] ds))
def B_came : So := (sSeq (sSet 5 (mMap (lenIs 3 F_need_written) (mCons (mVar 0) (mCons (mVar 1) (mCons (mVar 2) (mRet []))))))
    (sSeq (sDrop (mMap (lenIs 2 F_need_rank) (mCons (mVar 0) (mCons (mVar 3) (mRet [])))))
    (sSeq (sDrop (mMap (lenIs 1 F_need_comer) (mCons (mVar 4) (mRet []))))
    (sSeq (sSet 6 (mMap (lenIs 4 F_steps_of) (mCons (mVar 0) (mCons (mVar 5) (mCons (mVar 2) (mCons (mVar 3) (mRet [])))))))
    (sSeq (sIf (mMap gB (mMap gIsN (mVar 6))) (sSeq (sRet (mRet .none))
    sNil) sNil)
    (sSeq (sRet (mMap gTup (mCons (mMap (lenIs 2 F_first_tick) (mCons (mMap (fun ds => some (.list ds)) (mLc (mMap gSeq (mVar 6)) (gTu 2 (gsCons (gNm 7) (gsCons (gNm 8) gsNil))) (mRet true) (mVar 8) [7, 8])) (mCons (mVar 4) (mRet [])))) (mCons (mMap (lenIs 2 F_first_tick) (mCons (mMap (fun ds => some (.list ds)) (mLc (mMap gSeq (mVar 6)) (gTu 2 (gsCons (gNm 9) (gsCons (gNm 7) gsNil))) (mRet true) (mVar 9) [9, 7])) (mCons (mVar 4) (mRet [])))) (mRet [])))))
    sNil))))))
def F_came (ds : List D) : Option D := outF (B_came (envOf ["hall", "book", "looks", "rank", "comer", "columns", "steps", "_", "high", "low"] ds))
def B_taken : So := (sSeq (sDrop (mMap (lenIs 1 F_need_hall) (mCons (mVar 0) (mRet []))))
    (sSeq (sDrop (mMap (lenIs 2 F_need_book) (mCons (mVar 0) (mCons (mVar 1) (mRet [])))))
    (sSeq (sDrop (mMap (lenIs 2 F_need_rank) (mCons (mVar 0) (mCons (mVar 2) (mRet [])))))
    (sSeq (sDrop (mMap (lenIs 1 F_need_comer) (mCons (mVar 3) (mRet []))))
    (sSeq (sRet (mMap (lenIs 2 F_first_tick) (mCons (mMap (lenIs 2 F_taken_by) (mCons (mVar 1) (mCons (mVar 2) (mRet [])))) (mCons (mVar 3) (mRet [])))))
    sNil)))))
def F_taken (ds : List D) : Option D := outF (B_taken (envOf ["hall", "book", "rank", "comer"] ds))
def B_can_be : So := (sSeq (sSet 3 (mMap (lenIs 3 F_need_written) (mCons (mVar 0) (mCons (mVar 1) (mCons (mVar 2) (mRet []))))))
    (sSeq (sRet (mMap gNotN (mMap (lenIs 3 F_all_up) (mCons (mVar 0) (mCons (mVar 3) (mCons (mVar 2) (mRet [])))))))
    sNil))
def F_can_be (ds : List D) : Option D := outF (B_can_be (envOf ["hall", "book", "looks", "columns"] ds))
def B_first_bar : So := (sSeq (sDrop (mMap (lenIs 1 F_need_hall) (mCons (mVar 0) (mRet []))))
    (sSeq (sSet 2 (mMap (lenIs 2 F_all_turns) (mCons (mVar 0) (mCons (mMap (lenIs 2 F_need_book) (mCons (mVar 0) (mCons (mVar 1) (mRet [])))) (mRet [])))))
    (sSeq (sSet 3 (mMap (fun ds => some (.list ds)) (mLc (mMap gRg1 (mCons (mMap gLen (mCons (mBin gIx (mVar 0) (mRet (.int 0))) (mRet []))) (mRet []))) (gNm 4) (mRet true) (mMap (lenIs 4 F_rank_up) (mCons (mVar 0) (mCons (mVar 2) (mCons (mMap gTup (mRet [])) (mCons (mVar 4) (mRet [])))))) [4])))
    (sSeq (sRet (mMap gMinDef (mMap (fun ds => some (.list ds)) (mLc (mMap gSeq (mVar 3)) (gNm 5) (mMap gTru (mMap (lenIs 1 F_is_barred) (mCons (mVar 5) (mRet [])))) (mBin gSub (mMap gLen (mCons (mVar 5) (mRet []))) (mRet (.int 1))) [5]))))
    sNil))))
def F_first_bar (ds : List D) : Option D := outF (B_first_bar (envOf ["hall", "book", "turns", "every", "rank", "steps"] ds))
def B__first_bar_of : So := (sSeq (sSet 4 (mBin gIx (mBin gIx (mBin gIx (mVar 0) (mRet (.int 0))) (mVar 3)) (mRet (.int 0))))
    (sSeq (sTup (mMap (lenIs 3 F_told_with) (mCons (mMap (lenIs 5 F_told_of) (mCons (mVar 0) (mCons (mVar 1) (mCons (mVar 3) (mCons (mMap (lenIs 2 F_ranks_behind) (mCons (mVar 0) (mCons (mVar 3) (mRet [])))) (mCons (mRet (.int 0)) (mRet []))))))) (mCons (mVar 2) (mCons (mVar 3) (mRet []))))) (gTu 2 (gsCons (gNm 5) (gsCons (gNm 6) gsNil))))
    (sSeq (sSet 7 (mBin gAdd (mMap gLst (mCons (mMap gTup (mCons (mMap gNeg (mRet (.int 1))) (mCons (mRet (.int 0)) (mRet [])))) (mRet []))) (mMap (fun ds => some (.list ds)) (mLc (mMap gEnum (mCons (mVar 6) (mRet []))) (gTu 2 (gsCons (gNm 12) (gsCons (gNm 13) gsNil))) (mMap gB (mMap gNotN (mVar 13))) (mMap gTup (mCons (mVar 12) (mCons (mVar 13) (mRet [])))) [12, 13]))))
    (sSeq (sFor (mMap gSeq (mVar 7)) (gTu 2 (gsCons (gNm 8) (gsCons (gNm 9) gsNil))) (sSeq (sFor (mMap gEnum (mCons (mVar 5) (mRet []))) (gTu 2 (gsCons (gNm 10) (gsCons (gNm 11) gsNil))) (sSeq (sIf (mMap gB (mBin gGt (mVar 11) (mBin gAdd (mVar 9) (mBin gMulB (mVar 4) (mMap gMax2 (mCons (mRet (.int 0)) (mCons (mBin gSub (mVar 10) (mVar 8)) (mRet [])))))))) (sSeq (sRet (mMap gTup (mCons (mVar 3) (mCons (mVar 8) (mCons (mVar 10) (mRet []))))))
    sNil) sNil)
    sNil))
    sNil))
    (sSeq (sRet (mRet .none))
    sNil)))))
def F__first_bar_of (ds : List D) : Option D := outF (B__first_bar_of (envOf ["hall", "turns", "looks", "rank", "can_come", "least", "most", "told", "one", "at_most", "other", "at_least", "tick", "many"] ds))
def B_bar : So := (sSeq (sSet 3 (mMap (lenIs 2 F_all_turns) (mCons (mVar 0) (mCons (mMap (lenIs 3 F_need_written) (mCons (mVar 0) (mCons (mVar 1) (mCons (mVar 2) (mRet []))))) (mRet [])))))
    (sSeq (sFor (mMap gRg1 (mCons (mMap gLen (mCons (mBin gIx (mVar 0) (mRet (.int 0))) (mRet []))) (mRet []))) (gNm 4) (sSeq (sIf (mMap gTru (mMap (lenIs 1 F_is_barred) (mCons (mMap (lenIs 4 F_rank_up) (mCons (mVar 0) (mCons (mVar 3) (mCons (mVar 2) (mCons (mVar 4) (mRet [])))))) (mRet [])))) (sSeq (sRet (mMap (lenIs 4 F__first_bar_of) (mCons (mVar 0) (mCons (mVar 3) (mCons (mVar 2) (mCons (mVar 4) (mRet [])))))))
    sNil) sNil)
    sNil))
    (sSeq (sRet (mRet .none))
    sNil)))
def F_bar (ds : List D) : Option D := outF (B_bar (envOf ["hall", "book", "looks", "turns", "rank"] ds))
def B_waits : So := (sSeq (sSet 4 (mMap (lenIs 3 F_need_written) (mCons (mVar 0) (mCons (mVar 1) (mCons (mVar 2) (mRet []))))))
    (sSeq (sDrop (mMap (lenIs 2 F_need_rank) (mCons (mVar 0) (mCons (mVar 3) (mRet [])))))
    (sSeq (sSet 5 (mMap (lenIs 4 F_steps_of) (mCons (mVar 0) (mCons (mVar 4) (mCons (mVar 2) (mCons (mVar 3) (mRet [])))))))
    (sSeq (sIf (mMap gB (mMap gIsN (mVar 5))) (sSeq (sRet (mRet .none))
    sNil) sNil)
    (sSeq (sSet 6 (mMap (lenIs 2 F_taken_by) (mCons (mVar 1) (mCons (mVar 3) (mRet [])))))
    (sSeq (sSet 7 (mMap gSum (mCons (mMap (fun ds => some (.list ds)) (mLc (mMap gZip2 (mCons (mVar 5) (mCons (mVar 6) (mRet [])))) (gTu 2 (gsCons (gTu 2 (gsCons (gNm 8) (gsCons (gNm 9) gsNil))) (gsCons (gNm 10) gsNil))) (mRet true) (mBin gSub (mMap gMin2 (mCons (mVar 8) (mCons (mBin gIx (mVar 6) (mMap gNeg (mRet (.int 1)))) (mRet [])))) (mVar 10)) [8, 9, 10])) (mRet []))))
    (sSeq (sRet (mMap gTup (mCons (mVar 7) (mCons (mMap gSum (mCons (mMap (fun ds => some (.list ds)) (mLc (mMap gZip2 (mCons (mVar 5) (mCons (mVar 6) (mRet [])))) (gTu 2 (gsCons (gTu 2 (gsCons (gNm 9) (gsCons (gNm 11) gsNil))) (gsCons (gNm 10) gsNil))) (mRet true) (mBin gSub (mMap gMin2 (mCons (mVar 11) (mCons (mBin gIx (mVar 6) (mMap gNeg (mRet (.int 1)))) (mRet [])))) (mVar 10)) [9, 11, 10])) (mRet []))) (mRet [])))))
    sNil)))))))
def F_waits (ds : List D) : Option D := outF (B_waits (envOf ["hall", "book", "looks", "rank", "columns", "steps", "by", "least", "low", "_", "gone", "high"] ds))
def B_because : So := (sSeq (sSet 5 (mMap (lenIs 3 F_need_written) (mCons (mVar 0) (mCons (mVar 1) (mCons (mVar 2) (mRet []))))))
    (sSeq (sDrop (mMap (lenIs 2 F_need_rank) (mCons (mVar 0) (mCons (mVar 3) (mRet [])))))
    (sSeq (sDrop (mMap (lenIs 2 F_need_rank) (mCons (mVar 0) (mCons (mVar 4) (mRet [])))))
    (sSeq (sSet 6 (mMap (lenIs 4 F_steps_of) (mCons (mVar 0) (mCons (mVar 5) (mCons (mVar 2) (mCons (mVar 3) (mRet [])))))))
    (sSeq (sIf (mMap gB (mMap gIsN (mVar 6))) (sSeq (sRet (mRet .none))
    sNil) sNil)
    (sSeq (sSet 7 (mMap (lenIs 3 F__left) (mCons (mVar 6) (mCons (mVar 1) (mCons (mVar 3) (mRet []))))))
    (sSeq (sSet 8 (mMap gSum (mCons (mMap (fun ds => some (.list ds)) (mLc (mMap gZip2 (mCons (mVar 7) (mCons (mVar 1) (mRet [])))) (gTu 2 (gsCons (gTu 2 (gsCons (gNm 9) (gsCons (gNm 10) gsNil))) (gsCons (gNm 11) gsNil))) (mRet true) (mBin gMulB (mVar 9) (mBin gCnt (mVar 11) (mVar 4))) [9, 10, 11])) (mRet []))))
    (sSeq (sRet (mMap gTup (mCons (mVar 8) (mCons (mMap gSum (mCons (mMap (fun ds => some (.list ds)) (mLc (mMap gZip2 (mCons (mVar 7) (mCons (mVar 1) (mRet [])))) (gTu 2 (gsCons (gTu 2 (gsCons (gNm 10) (gsCons (gNm 12) gsNil))) (gsCons (gNm 11) gsNil))) (mRet true) (mBin gMulB (mVar 12) (mBin gCnt (mVar 11) (mVar 4))) [10, 12, 11])) (mRet []))) (mRet [])))))
    sNil))))))))
def F_because (ds : List D) : Option D := outF (B_because (envOf ["hall", "book", "looks", "rank", "other", "columns", "steps", "left", "least", "low", "_", "row", "high"] ds))
end Dn
set_option maxHeartbeats 4000000
namespace Dn
open PySem PySem.Spec PyProof.Rows L2
end Dn
set_option maxHeartbeats 4000000
namespace Dn
open PySem PySem.Spec PyProof.Rows L2
def B_free_from : So := (sSeq (sFor (mMap (fun d => gRev1 [d]) (mMap gLen (mCons (mVar 1) (mRet [])))) (gNm 2) (sSeq (sIf (mMap gB (mMap gNotN (mBin gIx (mVar 1) (mVar 2)))) (sSeq (sRet (mBin gAdd (mVar 2) (mBin gIx (mVar 0) (mBin gIx (mVar 1) (mVar 2)))))
    sNil) sNil)
    sNil))
    (sSeq (sRet (mRet (.int 0)))
    sNil))
def F_free_from (ds : List D) : Option D := outF (B_free_from (envOf ["stays", "column", "tick"] ds))
def B__taken_ahead : So := (sSeq (sRet (mMap gSum (mCons (mMap (fun ds => some (.list ds)) (mLc (mMap gSeq (mVar 0)) (gNm 3) (mRet true) (mBin gCnt (mSl (mVar 3) (mRet none) (mMap (fun d => (gI d).map some) (mVar 2))) (mVar 1)) [3])) (mRet []))))
    sNil)
def F__taken_ahead (ds : List D) : Option D := outF (B__taken_ahead (envOf ["columns", "rank", "tick", "column"] ds))
def B__least_by : So := (sSeq (sSet 4 (mMap (lenIs 3 F__taken_ahead) (mCons (mVar 0) (mCons (mVar 2) (mCons (mBin gAdd (mVar 3) (mRet (.int 1))) (mRet []))))))
    (sSeq (sSet 5 (mVar 4))
    (sSeq (sFor (mMap gSeq (mVar 1)) (gTu 4 (gsCons (gNm 6) (gsCons (gNm 7) (gsCons (gNm 8) (gsCons (gNm 9) gsNil))))) (sSeq (sIf (mAnd (mMap gB (mBin gEq (mVar 6) (mVar 3))) (mMap gB (mBin gEq (mVar 7) (mVar 2)))) (sSeq (sSet 5 (mMap gMax2 (mCons (mVar 5) (mCons (mBin gAdd (mVar 4) (mVar 8)) (mRet [])))))
    sNil) sNil)
    sNil))
    (sSeq (sRet (mVar 5))
    sNil))))
def F__least_by (ds : List D) : Option D := outF (B__least_by (envOf ["columns", "looks", "rank", "tick", "taken", "told", "at", "one", "least", "_"] ds))
def B__passed_by : So := (sSeq (sSet 4 (mMap (lenIs 3 F__taken_ahead) (mCons (mVar 1) (mCons (mVar 2) (mCons (mVar 3) (mRet []))))))
    (sSeq (sFor (mMap gZip2 (mCons (mVar 1) (mCons (mBin gIx (mVar 0) (mRet (.int 1))) (mRet [])))) (gTu 2 (gsCons (gNm 5) (gsCons (gNm 6) gsNil))) (sSeq (sSet 7 (mBin gIx (mVar 5) (mVar 3)))
    (sSeq (sIf (mMap gB (mMap gIsN (mVar 7))) (sSeq (sSet 8 (mAndV (mBin (gIn false) (mVar 2) (mVar 6)) (mBin gLe (mMap (lenIs 2 F_free_from) (mCons (mMap (lenIs 1 F_all_stays) (mCons (mVar 0) (mRet []))) (mCons (mSl (mVar 5) (mRet none) (mMap (fun d => (gI d).map some) (mVar 3))) (mRet [])))) (mVar 3))))
    sNil) (sSeq (sSet 8 (mAndV (mBin (gIn false) (mVar 2) (mVar 6)) (mBin gGt (mVar 7) (mVar 2))))
    sNil))
    (sSeq (sIf (mMap gTru (mVar 8)) (sSeq (sRet (mVar 4))
    sNil) sNil)
    (sSeq (sIf (mMap gB (mBin gEq (mVar 7) (mVar 2))) (sSeq (sAug 4 gIAdd (mRet (.int 1)))
    sNil) sNil)
    sNil)))))
    (sSeq (sRet (mRet .none))
    sNil)))
def F__passed_by (ds : List D) : Option D := outF (B__passed_by (envOf ["hall", "columns", "rank", "tick", "taken", "column", "desk", "one", "passes"] ds))
def B__most_by : So := (sSeq (sIf (mMap gB (mBin gLt (mVar 4) (mRet (.int 0)))) (sSeq (sRet (mRet (.int 0)))
    sNil) sNil)
    (sSeq (sSet 5 (mMap (lenIs 3 F__taken_ahead) (mCons (mVar 1) (mCons (mVar 3) (mCons (mBin gAdd (mVar 4) (mRet (.int 1))) (mRet []))))))
    (sSeq (sSet 6 (mMap (lenIs 4 F__passed_by) (mCons (mVar 0) (mCons (mVar 1) (mCons (mVar 3) (mCons (mVar 4) (mRet [])))))))
    (sSeq (sFor (mMap gSeq (mVar 2)) (gTu 4 (gsCons (gNm 7) (gsCons (gNm 8) (gsCons (gNm 9) (gsCons (gNm 10) gsNil))))) (sSeq (sIf (mAnd (mMap gB (mBin gEq (mVar 7) (mVar 4))) (mMap gB (mBin gEq (mVar 8) (mVar 3)))) (sSeq (sSet 6 (mIf (mMap gB (mMap gIsN (mVar 6))) (mBin gAdd (mVar 5) (mVar 10)) (mMap gMin2 (mCons (mVar 6) (mCons (mBin gAdd (mVar 5) (mVar 10)) (mRet []))))))
    sNil) sNil)
    sNil))
    (sSeq (sRet (mVar 6))
    sNil)))))
def F__most_by (ds : List D) : Option D := outF (B__most_by (envOf ["hall", "columns", "looks", "rank", "tick", "taken", "told", "at", "one", "_", "most"] ds))
def B_is_bar : So := (sSeq (sSet 4 (mMap (lenIs 3 F_need_written) (mCons (mVar 0) (mCons (mVar 1) (mCons (mVar 2) (mRet []))))))
    (sSeq (sIf (mOr (mNot (mMap gTru (mMap (lenIs 3 F_is_tuple) (mCons (mVar 3) (mCons (mRet (.int 3)) (mCons (mRet (.int 3)) (mRet []))))))) (mNot (mMap gTru (mMap (lenIs 1 F_are_whole) (mCons (mVar 3) (mRet [])))))) (sSeq (sRet (mRet (.bool false)))
    sNil) sNil)
    (sSeq (sTup (mVar 3) (gTu 3 (gsCons (gNm 5) (gsCons (gNm 6) (gsCons (gNm 7) gsNil)))))
    (sSeq (sIf (mNot (mAnd (mChain gLe gLt (mRet (.int 0)) (mVar 5) (mMap gLen (mCons (mBin gIx (mVar 0) (mRet (.int 0))) (mRet [])))) (mAnd (mChain gLe gLt (mMap gNeg (mRet (.int 1))) (mVar 6) (mMap gLen (mCons (mVar 1) (mRet [])))) (mChain gLe gLt (mRet (.int 0)) (mVar 7) (mMap gLen (mCons (mVar 1) (mRet []))))))) (sSeq (sRet (mRet (.bool false)))
    sNil) sNil)
    (sSeq (sSet 8 (mBin gSub (mMap (lenIs 4 F__least_by) (mCons (mVar 4) (mCons (mVar 2) (mCons (mVar 5) (mCons (mVar 7) (mRet [])))))) (mBin gMulB (mBin gIx (mBin gIx (mBin gIx (mVar 0) (mRet (.int 0))) (mVar 5)) (mRet (.int 0))) (mMap gMax2 (mCons (mRet (.int 0)) (mCons (mBin gSub (mVar 7) (mVar 6)) (mRet [])))))))
    (sSeq (sIf (mOr (mMap gB (mBin gLe (mVar 8) (mRet (.int 0)))) (mMap gB (mBin gLe (mVar 8) (mMap (lenIs 3 F__taken_ahead) (mCons (mVar 4) (mCons (mVar 5) (mCons (mMap gMax2 (mCons (mRet (.int 0)) (mCons (mVar 6) (mRet [])))) (mRet [])))))))) (sSeq (sRet (mRet (.bool false)))
    sNil) sNil)
    (sSeq (sSet 9 (mMap (lenIs 5 F__most_by) (mCons (mVar 0) (mCons (mVar 4) (mCons (mVar 2) (mCons (mVar 5) (mCons (mVar 6) (mRet []))))))))
    (sSeq (sRet (mAndV (mMap gNotN (mVar 9)) (mBin gGt (mVar 8) (mVar 9))))
    sNil))))))))
def F_is_bar (ds : List D) : Option D := outF (B_is_bar (envOf ["hall", "book", "looks", "thing", "columns", "rank", "one", "other", "more", "most"] ds))
def B__need_alike : So := (sSeq (sTup (mVar 0) (gTu 2 (gsCons (gNm 1) (gsCons (gNm 2) gsNil))))
    (sSeq (sSet 3 (mMap (lenIs 1 F_all_stays) (mCons (mVar 0) (mRet []))))
    (sSeq (sIf (mOr (mMap gB (mBin gLt (mMap gMinL (mCons (mVar 3) (mRet []))) (mMap gMaxL (mCons (mVar 3) (mRet []))))) (mMap gB (mBin gLt (mMap gMinL (mCons (mMap (fun ds => some (.list ds)) (mLc (mMap gSeq (mVar 2)) (gNm 4) (mRet true) (mMap gLen (mCons (mVar 4) (mRet []))) [4])) (mRet []))) (mMap gLen (mCons (mVar 1) (mRet [])))))) (sSeq sNone
    sNil) sNil)
    sNil)))
def F__need_alike (ds : List D) : Option D := outF (B__need_alike (envOf ["hall", "ranks", "desks", "stays", "desk"] ds))
def B__taken_first : So := (sSeq (sSet 2 (mRet (.int 0)))
    (sSeq (sSetN 3 0 (mMap gLst (mRet [])))
    (sSeq (sFor (mMap gZip2 (mCons (mVar 0) (mCons (mVar 1) (mRet [])))) (gTu 2 (gsCons (gNm 4) (gsCons (gNm 5) gsNil))) (sSeq (sSet 2 (mMap gMin2 (mCons (mVar 4) (mCons (mBin gAdd (mVar 2) (mVar 5)) (mRet [])))))
    (sSeq (sApp 3 (mVar 2))
    sNil)))
    (sFrz 3 (sSeq (sRet (mVar 3))
    sNil)))))
def F__taken_first (ds : List D) : Option D := outF (B__taken_first (envOf ["had_come", "free", "taken", "found", "many", "desks"] ds))
def B_first_taken : So := (sSeq (sSet 5 (mMap (lenIs 3 F_need_written) (mCons (mVar 0) (mCons (mVar 1) (mCons (mVar 2) (mRet []))))))
    (sSeq (sDrop (mMap (lenIs 2 F_need_rank) (mCons (mVar 0) (mCons (mVar 3) (mRet [])))))
    (sSeq (sDrop (mMap (lenIs 1 F_need_comer) (mCons (mVar 4) (mRet []))))
    (sSeq (sDrop (mMap (lenIs 1 F__need_alike) (mCons (mVar 0) (mRet []))))
    (sSeq (sSet 6 (mMap (lenIs 4 F_steps_of) (mCons (mVar 0) (mCons (mVar 5) (mCons (mVar 2) (mCons (mVar 3) (mRet [])))))))
    (sSeq (sIf (mMap gB (mMap gIsN (mVar 6))) (sSeq (sRet (mRet .none))
    sNil) sNil)
    (sSeq (sSet 7 (mMap (lenIs 2 F_all_turns) (mCons (mVar 0) (mCons (mVar 5) (mRet [])))))
    (sSeq (sSet 8 (mMap (fun ds => some (.list ds)) (mLc (mMap gZipI (mVar 7)) (gNm 10) (mRet true) (mBin gSub (mMap gLen (mCons (mVar 10) (mRet []))) (mBin gCnt (mVar 10) (mRet (.int (-1))))) [10])))
    (sSeq (sSet 9 (mMap (lenIs 2 F_first_tick) (mCons (mMap (lenIs 2 F__taken_first) (mCons (mMap (fun ds => some (.list ds)) (mLc (mMap gSeq (mVar 6)) (gTu 2 (gsCons (gNm 11) (gsCons (gNm 12) gsNil))) (mRet true) (mVar 12) [11, 12])) (mCons (mVar 8) (mRet [])))) (mCons (mVar 4) (mRet [])))))
    (sSeq (sRet (mMap gTup (mCons (mVar 9) (mCons (mMap (lenIs 2 F_first_tick) (mCons (mMap (lenIs 2 F__taken_first) (mCons (mMap (fun ds => some (.list ds)) (mLc (mMap gSeq (mVar 6)) (gTu 2 (gsCons (gNm 13) (gsCons (gNm 11) gsNil))) (mRet true) (mVar 13) [13, 11])) (mCons (mVar 8) (mRet [])))) (mCons (mVar 4) (mRet [])))) (mRet [])))))
    sNil))))))))))
def F_first_taken (ds : List D) : Option D := outF (B_first_taken (envOf ["hall", "book", "looks", "rank", "comer", "columns", "steps", "turns", "free", "earliest", "row", "_", "high", "low"] ds))
def B__with_first : So := (sSeq (sSetN 4 0 (mMap (fun ds => some (.list ds)) (mLc (mMap gSeq (mVar 2)) (gNm 5) (mRet true) (mIf (mMap gB (mBin (gIn false) (mVar 5) (mVar 1))) (mVar 5) (mRet .none)) [5])))
    (sSeq (sPut 4 (mRet (.int 0)) (mVar 3))
    (sFrz 4 (sSeq (sIf (mNot (mMap gTru (mMap (lenIs 3 F_is_column) (mCons (mMap (lenIs 1 F_all_stays) (mCons (mVar 0) (mRet []))) (mCons (mVar 1) (mCons (mVar 4) (mRet []))))))) (sSeq (sRet (mRet .none))
    sNil) sNil)
    (sSeq (sRet (mMap (lenIs 2 F_turns_of) (mCons (mMap (lenIs 1 F_all_stays) (mCons (mVar 0) (mRet []))) (mCons (mVar 4) (mRet [])))))
    sNil)))))
def F__with_first (ds : List D) : Option D := outF (B__with_first (envOf ["hall", "desk", "turns", "one", "column", "turn"] ds))
def B__up_from : So := (sSeq (sTup (mIf (mMap gB (mBin gGt (mVar 3) (mRet (.int 0)))) (mBin gIx (mVar 2) (mBin gSub (mVar 3) (mRet (.int 1)))) (mMap gTup (mCons (mRet (.int 0)) (mCons (mRet (.int 0)) (mRet []))))) (gTu 2 (gsCons (gNm 5) (gsCons (gNm 6) gsNil))))
    (sSeq (sRet (mMap (lenIs 4 F_steps_up) (mCons (mMap (lenIs 5 F_told_of) (mCons (mVar 0) (mCons (mVar 1) (mCons (mVar 4) (mCons (mMap (lenIs 2 F_ranks_behind) (mCons (mVar 0) (mCons (mVar 4) (mRet [])))) (mCons (mVar 5) (mRet []))))))) (mCons (mBin gIx (mBin gIx (mBin gIx (mVar 0) (mRet (.int 0))) (mVar 4)) (mRet (.int 0))) (mCons (mVar 5) (mCons (mVar 6) (mRet [])))))))
    sNil))
def F__up_from (ds : List D) : Option D := outF (B__up_from (envOf ["hall", "turns", "steps", "tick", "rank", "gone", "high"] ds))
def B__does : So := (sSeq (sTup (mVar 3) (gTu 3 (gsCons (gNm 4) (gsCons (gNm 5) (gsCons (gNm 6) gsNil)))))
    (sSeq (sIf (mMap gB (mBin gEq (mBin gIx (mBin gIx (mVar 1) (mVar 5)) (mVar 4)) (mRet (.int (-1))))) (sSeq (sRet (mRet (.bool false)))
    sNil) sNil)
    (sSeq (sSetN 7 0 (mMap (fun ds => some (.list ds)) (mLc (mMap gSeq (mVar 1)) (gNm 11) (mRet true) (mSl (mVar 11) (mMap (fun d => (gI d).map some) (mVar 4)) (mRet none)) [11])))
    (sSeq (sSet 8 (mMap (lenIs 4 F__with_first) (mCons (mVar 0) (mCons (mBin gIx (mBin gIx (mVar 0) (mRet (.int 1))) (mVar 5)) (mCons (mIxO 7 (mVar 5)) (mCons (mVar 6) (mRet [])))))))
    (sSeq (sIf (mMap gB (mMap gIsN (mVar 8))) (sSeq (sRet (mRet (.bool false)))
    sNil) sNil)
    (sSeq (sPut 7 (mVar 5) (mVar 8))
    (sFrz 7 (sSeq (sFor (mMap gEnum (mCons (mVar 2) (mRet []))) (gTu 2 (gsCons (gNm 9) (gsCons (gNm 10) gsNil))) (sSeq (sIf (mMap gTru (mMap (lenIs 1 F_is_barred) (mCons (mIf (mMap gB (mBin (gIn false) (mVar 9) (mBin gIx (mBin gIx (mVar 0) (mRet (.int 1))) (mVar 5)))) (mMap (lenIs 5 F__up_from) (mCons (mVar 0) (mCons (mVar 7) (mCons (mVar 10) (mCons (mVar 4) (mCons (mVar 9) (mRet []))))))) (mVar 10)) (mRet [])))) (sSeq (sRet (mRet (.bool false)))
    sNil) sNil)
    sNil))
    (sSeq (sRet (mRet (.bool true)))
    sNil)))))))))
def F__does (ds : List D) : Option D := outF (B__does (envOf ["hall", "turns", "every", "mend", "tick", "at", "one", "from_then", "mended", "rank", "steps", "column"] ds))
def B_mends : Ro := (rSeq (sDrop (mMap (lenIs 1 F_need_hall) (mCons (mVar 0) (mRet [])))) (rSeq (sSet 2 (mMap (lenIs 2 F_all_turns) (mCons (mVar 0) (mCons (mMap (lenIs 2 F_need_book) (mCons (mVar 0) (mCons (mVar 1) (mRet [])))) (mRet []))))) (rSeq (sSet 3 (mMap (fun ds => some (.list ds)) (mLc (mMap gRg1 (mCons (mMap gLen (mCons (mBin gIx (mVar 0) (mRet (.int 0))) (mRet []))) (mRet []))) (gNm 9) (mRet true) (mMap (lenIs 4 F_rank_up) (mCons (mVar 0) (mCons (mVar 2) (mCons (mMap gTup (mRet [])) (mCons (mVar 9) (mRet [])))))) [9]))) (rSeq (sSetN 4 0 (mMap gLst (mRet []))) (rSeq (sFor (mMap gRg1 (mCons (mMap gMinL (mCons (mMap (fun ds => some (.list ds)) (mLc (mMap gSeq (mVar 3)) (gNm 10) (mRet true) (mMap gLen (mCons (mVar 10) (mRet []))) [10])) (mRet []))) (mRet []))) (gNm 5) (sSeq (sFor (mMap gEnum (mCons (mBin gIx (mVar 0) (mRet (.int 1))) (mRet []))) (gTu 2 (gsCons (gNm 6) (gsCons (gNm 7) gsNil))) (sSeq (sFor (mMap gSeq (mMap gTup (mCons (mRet .none) (mStar (mVar 7) (mRet []))))) (gNm 8) (sSeq (sIf (mAnd (mMap gB (mBin gNe (mVar 8) (mBin gIx (mBin gIx (mVar 1) (mVar 5)) (mVar 6)))) (mMap gTru (mMap (lenIs 4 F__does) (mCons (mVar 0) (mCons (mVar 2) (mCons (mVar 3) (mCons (mMap gTup (mCons (mVar 5) (mCons (mVar 6) (mCons (mVar 8) (mRet []))))) (mRet [])))))))) (sSeq (sApp 4 (mMap gTup (mCons (mVar 5) (mCons (mVar 6) (mCons (mVar 8) (mRet []))))))
    sNil) sNil)
    sNil))
    sNil))
    sNil)) (rRet (mGive 4 0)))))))
def F_mends (ds : List D) : Option D := outN (B_mends (envOf ["hall", "book", "turns", "every", "found", "tick", "at", "desk", "one", "rank", "steps"] ds))
def B__can_stay : So := (sSeq (sTup (mVar 0) (gTu 2 (gsCons (gNm 4) (gsCons (gNm 5) gsNil))))
    (sSeq (sSet 6 (mMap gTup (mStar (mSl (mVar 4) (mRet none) (mMap (fun d => (gI d).map some) (mVar 2))) (mCons (mMap gTup (mCons (mBin gIx (mBin gIx (mVar 4) (mVar 2)) (mRet (.int 0))) (mCons (mVar 3) (mRet [])))) (mStar (mSl (mVar 4) (mMap (fun d => (gI d).map some) (mBin gAdd (mVar 2) (mRet (.int 1)))) (mRet none)) (mRet []))))))
    (sSeq (sSet 7 (mMap (lenIs 2 F_columns_of) (mCons (mMap gTup (mCons (mVar 6) (mCons (mVar 5) (mRet [])))) (mCons (mVar 1) (mRet [])))))
    (sSeq (sRet (mAndV (mMap gNotN (mVar 7)) (mMap gNotN (mMap (lenIs 3 F_all_up) (mCons (mMap gTup (mCons (mVar 6) (mCons (mVar 5) (mRet [])))) (mCons (mVar 7) (mCons (mMap gTup (mRet [])) (mRet []))))))))
    sNil))))
def F__can_stay (ds : List D) : Option D := outF (B__can_stay (envOf ["hall", "book", "rank", "stay", "ranks", "desks", "others", "columns"] ds))
def B_stays : Ro := (rSeq (sDrop (mMap (lenIs 1 F_need_hall) (mCons (mVar 0) (mRet [])))) (rSeq (sDrop (mMap (lenIs 2 F_need_book) (mCons (mVar 0) (mCons (mVar 1) (mRet []))))) (rSeq (sDrop (mMap (lenIs 2 F_need_rank) (mCons (mVar 0) (mCons (mVar 2) (mRet []))))) (rRet (mMap (fun ds => some (.list ds)) (mLc (mMap gRg2 (mCons (mRet (.int 1)) (mCons (mBin gAdd (mRet (.int (10))) (mRet (.int 1))) (mRet [])))) (gNm 3) (mMap gTru (mMap (lenIs 4 F__can_stay) (mCons (mVar 0) (mCons (mVar 1) (mCons (mVar 2) (mCons (mVar 3) (mRet []))))))) (mVar 3) [3]))))))
def F_stays (ds : List D) : Option D := outN (B_stays (envOf ["hall", "book", "rank", "stay"] ds))
def B__waiting_next : So := (sSeq (sSet 4 (mBin gIx (mBin gIx (mBin gIx (mVar 0) (mRet (.int 0))) (mVar 2)) (mRet (.int 0))))
    (sSeq (sSet 5 (mBin gIx (mMap (lenIs 2 F_ways_to) (mCons (mVar 3) (mCons (mVar 4) (mRet [])))) (mMap gNeg (mRet (.int 1)))))
    (sSeq (sSet 6 (mMap (lenIs 4 F_ways_within) (mCons (mVar 5) (mCons (mVar 4) (mCons (mRet (.int 0)) (mCons (mBin gAdd (mMap gLen (mCons (mVar 5) (mRet []))) (mVar 4)) (mRet [])))))))
    (sSeq (sSet 7 (mBin gSub (mBin gIx (mBin gIx (mVar 3) (mMap gNeg (mRet (.int 1)))) (mRet (.int 0))) (mBin gIx (mMap (lenIs 2 F_taken_by) (mCons (mVar 1) (mCons (mVar 2) (mRet [])))) (mMap gNeg (mRet (.int 1))))))
    (sSeq (sSet 8 (mMap gRgV2 (mCons (mMap gNeg (mVar 7)) (mCons (mBin gSub (mBin gAdd (mMap gLen (mCons (mBin gIx (mVar 0) (mRet (.int 1))) (mRet []))) (mRet (.int 1))) (mVar 7)) (mRet [])))))
    (sSeq (sSet 9 (mMap (fun ds => some (.list ds)) (mLc (mMap gSeqR (mVar 8)) (gNm 10) (mRet true) (mIf (mChain gLe gLt (mRet (.int 0)) (mVar 10) (mMap gLen (mCons (mVar 6) (mRet [])))) (mBin gIx (mVar 6) (mVar 10)) (mRet (.int 0))) [10])))
    (sSeq (sRet (mMap gTup (mCons (mVar 9) (mCons (mMap (fun ds => some (.list ds)) (mLc (mMap gSeqR (mVar 8)) (gNm 10) (mRet true) (mMap gSum (mCons (mSl (mVar 6) (mMap (fun d => (gI d).map some) (mMap gMax2 (mCons (mRet (.int 0)) (mCons (mVar 10) (mRet []))))) (mRet none)) (mRet []))) [10])) (mRet [])))))
    sNil)))))))
def F__waiting_next (ds : List D) : Option D := outF (B__waiting_next (envOf ["hall", "book", "rank", "steps", "most", "last", "ways", "fewest", "places", "just", "place"] ds))
def B__with_turn : So := (sSeq (sSetN 3 0 (mMap gLst (mCons (mMap gTup (mCons (mMap gTup (mStar (mVar 0) (mCons (mRet .none) (mRet [])))) (mCons (mMap gTup (mStar (mVar 1) (mStar (mVar 2) (mRet [])))) (mRet [])))) (mRet []))))
    (sSeq (sFor (mMap gEnum (mCons (mVar 2) (mRet []))) (gTu 2 (gsCons (gNm 4) (gsCons (gNm 5) gsNil))) (sSeq (sIf (mMap gB (mBin (gIn true) (mVar 5) (mVar 1))) (sSeq (sApp 3 (mMap gTup (mCons (mMap gTup (mStar (mVar 0) (mCons (mVar 5) (mRet [])))) (mCons (mMap gTup (mStar (mVar 1) (mStar (mSl (mVar 2) (mRet none) (mMap (fun d => (gI d).map some) (mVar 4))) (mRet [])))) (mRet [])))))
    sNil) sNil)
    sNil))
    (sFrz 3 (sSeq (sRet (mVar 3))
    sNil))))
def F__with_turn (ds : List D) : Option D := outF (B__with_turn (envOf ["row", "emptied", "desk", "found", "place", "one"] ds))
def B__rows_next : So := (sSeq (sSet 2 (mMap (lenIs 1 F_all_stays) (mCons (mVar 0) (mRet []))))
    (sSeq (sSet 3 (mMap gLst (mCons (mMap gTup (mCons (mMap gTup (mRet [])) (mCons (mMap gTup (mRet [])) (mRet [])))) (mRet []))))
    (sSeq (sFor (mMap gZip2 (mCons (mVar 1) (mCons (mBin gIx (mVar 0) (mRet (.int 1))) (mRet [])))) (gTu 2 (gsCons (gNm 4) (gsCons (gNm 5) gsNil))) (sSeq (sIf (mMap gB (mBin gGt (mMap (lenIs 2 F_free_from) (mCons (mVar 2) (mCons (mVar 4) (mRet [])))) (mMap gLen (mCons (mVar 4) (mRet []))))) (sSeq (sSet 3 (mMap (fun ds => some (.list ds)) (mLc (mMap gSeq (mVar 3)) (gTu 2 (gsCons (gNm 6) (gsCons (gNm 7) gsNil))) (mRet true) (mMap gTup (mCons (mMap gTup (mStar (mVar 6) (mCons (mRet .none) (mRet [])))) (mCons (mVar 7) (mRet [])))) [6, 7])))
    sNil) (sSeq (sSet 3 (mMap (fun ds => some (.list ds)) (mLc2 (mMap gSeq (mVar 3)) (gTu 2 (gsCons (gNm 6) (gsCons (gNm 7) gsNil))) (mRet true) (mMap gSeq (mMap (lenIs 3 F__with_turn) (mCons (mVar 6) (mCons (mVar 7) (mCons (mVar 5) (mRet [])))))) (gNm 8) (mRet true) (mVar 8) [6, 7, 8] [8])))
    sNil))
    sNil))
    (sSeq (sRet (mVar 3))
    sNil))))
def F__rows_next (ds : List D) : Option D := outF (B__rows_next (envOf ["hall", "columns", "stays", "found", "column", "desk", "row", "emptied", "longer"] ds))
def B_nexts : Ro := (rSeq (sSet 3 (mMap (lenIs 3 F_need_written) (mCons (mVar 0) (mCons (mVar 1) (mCons (mVar 2) (mRet [])))))) (rSeq (sSet 4 (mMap (lenIs 3 F_all_steps) (mCons (mVar 0) (mCons (mVar 3) (mCons (mVar 2) (mRet [])))))) (rIf (mMap gB (mMap gIsN (mVar 4))) (rRet (mMap gLst (mRet []))) (rSeq (sSet 5 (mMap (fun ds => some (.list ds)) (mLc (mMap gEnum (mCons (mVar 4) (mRet []))) (gTu 2 (gsCons (gNm 10) (gsCons (gNm 14) gsNil))) (mRet true) (mMap (lenIs 4 F__waiting_next) (mCons (mVar 0) (mCons (mVar 1) (mCons (mVar 10) (mCons (mVar 14) (mRet [])))))) [10, 14]))) (rSeq (sSetN 6 0 (mMap gLst (mRet []))) (rSeq (sFor (mMap gSeq (mMap (lenIs 2 F__rows_next) (mCons (mVar 0) (mCons (mVar 3) (mRet []))))) (gTu 2 (gsCons (gNm 7) (gsCons (gNm 8) gsNil))) (sSeq (sSet 9 (mRet (.int 1)))
    (sSeq (sFor (mMap gEnum (mCons (mVar 5) (mRet []))) (gTu 2 (gsCons (gNm 10) (gsCons (gTu 2 (gsCons (gNm 11) (gsCons (gNm 12) gsNil))) gsNil))) (sSeq (sSet 13 (mBin gCnt (mVar 7) (mVar 10)))
    (sSeq (sSet 9 (mBin gMulB (mVar 9) (mIf (mMap gB (mBin (gIn false) (mVar 10) (mVar 8))) (mBin gIx (mVar 11) (mVar 13)) (mBin gIx (mVar 12) (mVar 13)))))
    sNil)))
    (sSeq (sIf (mMap gB (mBin gGt (mVar 9) (mRet (.int 0)))) (sSeq (sApp 6 (mMap gTup (mCons (mVar 7) (mCons (mVar 9) (mRet [])))))
    sNil) sNil)
    sNil)))) (rRet (mGive 6 0))))))))
def F_nexts (ds : List D) : Option D := outN (B_nexts (envOf ["hall", "book", "looks", "columns", "every", "waiting", "found", "row", "emptied", "many", "rank", "just", "more", "taken", "steps"] ds))
def B__worst_answers : So := (sSeq (sSet 2 (mMap (lenIs 2 F_ways_to) (mCons (mVar 0) (mCons (mVar 1) (mRet [])))))
    (sSeq (sSetN 3 0 (mMap gLst (mRet [])))
    (sSeq (sFor (mMap gZip2 (mCons (mVar 2) (mCons (mMap (lenIs 2 F_ways_on) (mCons (mVar 0) (mCons (mVar 1) (mRet [])))) (mRet [])))) (gTu 2 (gsCons (gNm 4) (gsCons (gNm 5) gsNil))) (sSeq (sApp 3 (mMap gMaxL (mCons (mMap (fun ds => some (.list ds)) (mLc (mMap gZip2 (mCons (mVar 4) (mCons (mVar 5) (mRet [])))) (gTu 2 (gsCons (gNm 6) (gsCons (gNm 7) gsNil))) (mRet true) (mBin gMulB (mVar 6) (mVar 7)) [6, 7])) (mRet []))))
    sNil))
    (sFrz 3 (sSeq (sRet (mMap gTup (mCons (mMap gSum (mCons (mBin gIx (mVar 2) (mMap gNeg (mRet (.int 1)))) (mRet []))) (mCons (mVar 3) (mRet [])))))
    sNil)))))
def F__worst_answers (ds : List D) : Option D := outF (B__worst_answers (envOf ["steps", "most", "ahead", "worst", "to", "on", "ways", "more"] ds))
def B_best_look : So := (sSeq (sSet 3 (mMap (lenIs 3 F_need_written) (mCons (mVar 0) (mCons (mVar 1) (mCons (mVar 2) (mRet []))))))
    (sSeq (sSet 4 (mMap (lenIs 3 F_all_steps) (mCons (mVar 0) (mCons (mVar 3) (mCons (mVar 2) (mRet []))))))
    (sSeq (sIf (mMap gB (mMap gIsN (mVar 4))) (sSeq (sRet (mRet .none))
    sNil) sNil)
    (sSeq (sSet 5 (mMap (fun ds => some (.list ds)) (mLc (mMap gZip2 (mCons (mVar 4) (mCons (mBin gIx (mVar 0) (mRet (.int 0))) (mRet [])))) (gTu 2 (gsCons (gNm 14) (gsCons (gTu 2 (gsCons (gNm 15) (gsCons (gNm 8) gsNil))) gsNil))) (mRet true) (mMap (lenIs 2 F__worst_answers) (mCons (mVar 14) (mCons (mVar 15) (mRet [])))) [14, 15, 8])))
    (sSeq (sSet 6 (mRet (.int 1)))
    (sSeq (sFor (mMap gSeq (mVar 5)) (gTu 2 (gsCons (gNm 7) (gsCons (gNm 8) gsNil))) (sSeq (sSet 6 (mBin gMulB (mVar 6) (mVar 7)))
    sNil))
    (sSeq (sIf (mMap gB (mBin gEq (mVar 6) (mRet (.int 1)))) (sSeq (sRet (mRet .none))
    sNil) sNil)
    (sSeq (sSetN 9 0 (mMap gLst (mRet [])))
    (sSeq (sFor (mMap gEnum (mCons (mVar 5) (mRet []))) (gTu 2 (gsCons (gNm 10) (gsCons (gTu 2 (gsCons (gNm 7) (gsCons (gNm 11) gsNil))) gsNil))) (sSeq (sExt 9 (mMap (fun ds => some (.list ds)) (mLc (mMap gEnum (mCons (mVar 11) (mRet []))) (gTu 2 (gsCons (gNm 13) (gsCons (gNm 16) gsNil))) (mRet true) (mMap gTup (mCons (mBin gMulB (mBin gDivB (mVar 6) (mVar 7)) (mVar 16)) (mCons (mVar 13) (mCons (mVar 10) (mRet []))))) [13, 16])))
    sNil))
    (sFrz 9 (sSeq (sTup (mMap gMinTs (mCons (mVar 9) (mRet []))) (gTu 3 (gsCons (gNm 12) (gsCons (gNm 13) (gsCons (gNm 10) gsNil)))))
    (sSeq (sRet (mMap gTup (mCons (mVar 13) (mCons (mVar 10) (mCons (mVar 12) (mRet []))))))
    sNil))))))))))))
def F_best_look (ds : List D) : Option D := outF (B_best_look (envOf ["hall", "book", "looks", "columns", "every", "answers", "comings", "many", "_", "looked", "rank", "worst", "fewest", "tick", "steps", "most", "left"] ds))
def B__orders_with : So := (sSeq (sSetN 2 0 (mMap gLst (mRet [])))
    (sSeq (sFor (mMap gPerm (mMap gRgV1 (mCons (mMap gLen (mCons (mBin gIx (mVar 0) (mRet (.int 0))) (mRet []))) (mRet [])))) (gNm 3) (sSeq (sIf (mMap gTru (mMap gAll (mCons (mMap (fun ds => some (.list ds)) (mLc (mMap gSeq (mVar 1)) (gTu 2 (gsCons (gNm 4) (gsCons (gNm 5) gsNil))) (mRet true) (mBin gLt (mBin gIdxT (mVar 3) (mVar 4)) (mBin gIdxT (mVar 3) (mVar 5))) [4, 5])) (mRet [])))) (sSeq (sApp 2 (mVar 3))
    sNil) sNil)
    sNil))
    (sFrz 2 (sSeq (sRet (mVar 2))
    sNil))))
def F__orders_with (ds : List D) : Option D := outF (B__orders_with (envOf ["hall", "pairs", "found", "order", "one", "other"] ds))
def B__up : So := (sSeq (sRet (mMap (lenIs 4 F_steps_up) (mCons (mMap (lenIs 5 F_told_of) (mCons (mVar 0) (mCons (mVar 1) (mCons (mVar 2) (mCons (mVar 3) (mCons (mRet (.int 0)) (mRet []))))))) (mCons (mBin gIx (mBin gIx (mBin gIx (mVar 0) (mRet (.int 0))) (mVar 2)) (mRet (.int 0))) (mCons (mRet (.int 0)) (mCons (mRet (.int 0)) (mRet [])))))))
    sNil)
def F__up (ds : List D) : Option D := outF (B__up (envOf ["hall", "turns", "rank", "behind"] ds))
def B__pairs : So := (sSeq (sSet 2 (mMap gRgV1 (mCons (mMap gLen (mCons (mBin gIx (mVar 0) (mRet (.int 0))) (mRet []))) (mRet []))))
    (sSeq (sRet (mMap (fun ds => some (.list ds)) (mLc2 (mMap gSeqR (mVar 2)) (gNm 3) (mRet true) (mMap gSeqR (mVar 2)) (gNm 4) (mMap gTru (mMap (lenIs 1 F_is_barred) (mCons (mMap (lenIs 4 F__up) (mCons (mVar 0) (mCons (mVar 1) (mCons (mVar 4) (mCons (mMap gTup (mCons (mVar 3) (mRet []))) (mRet [])))))) (mRet [])))) (mMap gTup (mCons (mVar 3) (mCons (mVar 4) (mRet [])))) [3, 4] [4])))
    sNil))
def F__pairs (ds : List D) : Option D := outF (B__pairs (envOf ["hall", "turns", "ranks", "one", "other"] ds))
def B__ways_of : So := (sSeq (sSet 4 (mBin gIx (mBin gIx (mBin gIx (mVar 0) (mRet (.int 0))) (mVar 2)) (mRet (.int 0))))
    (sSeq (sRet (mMap (lenIs 2 F_all_ways) (mCons (mMap (lenIs 2 F_steps_down) (mCons (mMap (lenIs 4 F__up) (mCons (mVar 0) (mCons (mVar 1) (mCons (mVar 2) (mCons (mVar 3) (mRet [])))))) (mCons (mVar 4) (mRet [])))) (mCons (mVar 4) (mRet [])))))
    sNil))
def F__ways_of (ds : List D) : Option D := outF (B__ways_of (envOf ["hall", "turns", "rank", "behind", "most"] ds))
def B_orders : Ro := (rSeq (sDrop (mMap (lenIs 1 F_need_hall) (mCons (mVar 0) (mRet [])))) (rSeq (sSet 2 (mMap (lenIs 2 F_all_turns) (mCons (mVar 0) (mCons (mMap (lenIs 2 F_need_book) (mCons (mVar 0) (mCons (mVar 1) (mRet [])))) (mRet []))))) (rSeq (sSetN 3 1 (mRet (.dict [(.bool false, .dict [])]))) (rSeq (sSetN 4 0 (mMap gLst (mRet []))) (rSeq (sFor (mMap gSeq (mMap (lenIs 2 F__orders_with) (mCons (mVar 0) (mCons (mMap (lenIs 2 F__pairs) (mCons (mVar 0) (mCons (mVar 2) (mRet [])))) (mRet []))))) (gNm 5) (sSeq (sSet 6 (mRet (.int 1)))
    (sSeq (sFor (mMap gEnum (mCons (mVar 5) (mRet []))) (gTu 2 (gsCons (gNm 7) (gsCons (gNm 8) gsNil))) (sSeq (sSet 9 (mMap gTuple (mCons (mMap gSortT (mCons (mSl (mVar 5) (mMap (fun d => (gI d).map some) (mBin gAdd (mVar 7) (mRet (.int 1)))) (mRet none)) (mRet []))) (mRet []))))
    (sSeq (sIf (mLendT (mMap gB (mBin (gInT true) (mMap gTup (mCons (mVar 8) (mCons (mVar 9) (mRet [])))) (mVar 3)))) (sSeq (sNPut 3 (mMap gTup (mCons (mVar 8) (mCons (mVar 9) (mRet [])))) (mMap (lenIs 4 F__ways_of) (mCons (mVar 0) (mCons (mVar 2) (mCons (mVar 8) (mCons (mVar 9) (mRet [])))))))
    sNil) sNil)
    (sSeq (sSet 6 (mLend (mBin gMulB (mVar 6) (mBin gNIx (mVar 3) (mMap gTup (mCons (mVar 8) (mCons (mVar 9) (mRet []))))))))
    sNil))))
    (sSeq (sApp 4 (mMap gTup (mCons (mVar 5) (mCons (mVar 6) (mRet [])))))
    sNil)))) (rRet (mGive 4 0)))))))
def F_orders (ds : List D) : Option D := outN (B_orders (envOf ["hall", "book", "turns", "known", "found", "order", "many", "place", "rank", "behind"] ds))
def B_must_be_ahead : So := (sSeq (sDrop (mMap (lenIs 1 F_need_hall) (mCons (mVar 0) (mRet []))))
    (sSeq (sSet 2 (mMap (lenIs 2 F_all_turns) (mCons (mVar 0) (mCons (mMap (lenIs 2 F_need_book) (mCons (mVar 0) (mCons (mVar 1) (mRet [])))) (mRet [])))))
    (sSeq (sSet 3 (mMap (lenIs 2 F__pairs) (mCons (mVar 0) (mCons (mVar 2) (mRet [])))))
    (sSeq (sRet (mIf (mMap gTru (mMap (lenIs 2 F__orders_with) (mCons (mVar 0) (mCons (mVar 3) (mRet []))))) (mVar 3) (mRet .none)))
    sNil))))
def F_must_be_ahead (ds : List D) : Option D := outF (B_must_be_ahead (envOf ["hall", "book", "turns", "pairs"] ds))
def B__law_one_desk : So := (sSeq (sTup (mMap gTup (mCons (mMap gTup (mCons (mMap gTup (mCons (mMap gTup (mCons (mRet (.int 1)) (mCons (mRet (.int 2)) (mRet [])))) (mCons (mMap gTup (mCons (mRet (.int 1)) (mCons (mRet (.int 2)) (mRet [])))) (mRet [])))) (mCons (mMap gTup (mCons (mMap gTup (mCons (mRet (.int 0)) (mCons (mRet (.int 1)) (mRet [])))) (mRet []))) (mRet [])))) (mCons (mMap gTup (mCons (mMap gTup (mCons (mRet (.int 1)) (mRet []))) (mCons (mMap gTup (mCons (mRet .none) (mRet []))) (mCons (mMap gTup (mCons (mRet (.int 0)) (mRet []))) (mCons (mMap gTup (mCons (mRet .none) (mRet []))) (mCons (mMap gTup (mCons (mRet (.int 1)) (mRet []))) (mRet []))))))) (mRet [])))) (gTu 2 (gsCons (gNm 0) (gsCons (gNm 1) gsNil))))
    (sSeq (sIf (mMap gB (mBin gNe (mMap (lenIs 4 F_stairs) (mCons (mVar 0) (mCons (mVar 1) (mCons (mMap gTup (mRet [])) (mCons (mRet (.int 0)) (mRet [])))))) (mMap gLst (mCons (mMap gTup (mCons (mRet (.int 0)) (mCons (mRet (.int 0)) (mRet [])))) (mCons (mMap gTup (mCons (mRet (.int 0)) (mCons (mRet (.int 1)) (mRet [])))) (mCons (mMap gTup (mCons (mRet (.int 1)) (mCons (mRet (.int 1)) (mRet [])))) (mCons (mMap gTup (mCons (mRet (.int 1)) (mCons (mRet (.int 1)) (mRet [])))) (mCons (mMap gTup (mCons (mRet (.int 1)) (mCons (mRet (.int 1)) (mRet [])))) (mRet []))))))))) (sSeq (sRet (mRet (.bool false)))
    sNil) sNil)
    (sSeq (sIf (mMap gB (mBin gNe (mMap (lenIs 4 F_stairs) (mCons (mVar 0) (mCons (mVar 1) (mCons (mMap gTup (mRet [])) (mCons (mRet (.int 1)) (mRet [])))))) (mMap gLst (mCons (mMap gTup (mCons (mRet (.int 1)) (mCons (mRet (.int 1)) (mRet [])))) (mCons (mMap gTup (mCons (mRet (.int 1)) (mCons (mRet (.int 2)) (mRet [])))) (mCons (mMap gTup (mCons (mRet (.int 1)) (mCons (mRet (.int 3)) (mRet [])))) (mCons (mMap gTup (mCons (mRet (.int 1)) (mCons (mRet (.int 4)) (mRet [])))) (mCons (mMap gTup (mCons (mRet (.int 2)) (mCons (mRet (.int 5)) (mRet [])))) (mRet []))))))))) (sSeq (sRet (mRet (.bool false)))
    sNil) sNil)
    (sSeq (sIf (mOr (mMap gB (mBin gNe (mMap (lenIs 3 F_how_many) (mCons (mVar 0) (mCons (mVar 1) (mCons (mMap gTup (mRet [])) (mRet []))))) (mBin gMulB (mRet (.int 2)) (mMap (lenIs 4 F_how_many_of) (mCons (mVar 0) (mCons (mVar 1) (mCons (mMap gTup (mRet [])) (mCons (mRet (.int 1)) (mRet []))))))))) (mMap gB (mBin gNe (mMap (lenIs 4 F_how_many_of) (mCons (mVar 0) (mCons (mVar 1) (mCons (mMap gTup (mRet [])) (mCons (mRet (.int 1)) (mRet [])))))) (mRet (.int 15))))) (sSeq (sRet (mRet (.bool false)))
    sNil) sNil)
    (sSeq (sIf (mOr (mMap gB (mBin gNe (mMap (lenIs 5 F_came) (mCons (mVar 0) (mCons (mVar 1) (mCons (mMap gTup (mRet [])) (mCons (mRet (.int 0)) (mCons (mRet (.int 1)) (mRet []))))))) (mMap gTup (mCons (mRet (.int 1)) (mCons (mRet (.int 2)) (mRet [])))))) (mOr (mMap gB (mBin gNe (mMap (lenIs 5 F_came) (mCons (mVar 0) (mCons (mVar 1) (mCons (mMap gTup (mRet [])) (mCons (mRet (.int 1)) (mCons (mRet (.int 2)) (mRet []))))))) (mMap gTup (mCons (mRet (.int 1)) (mCons (mRet (.int 4)) (mRet [])))))) (mMap gB (mBin gNe (mMap (lenIs 4 F_taken) (mCons (mVar 0) (mCons (mVar 1) (mCons (mRet (.int 1)) (mCons (mRet (.int 2)) (mRet [])))))) (mRet (.int 4)))))) (sSeq (sRet (mRet (.bool false)))
    sNil) sNil)
    (sSeq (sIf (mOr (mMap gB (mBin gNe (mMap (lenIs 4 F_waits) (mCons (mVar 0) (mCons (mVar 1) (mCons (mMap gTup (mRet [])) (mCons (mRet (.int 0)) (mRet [])))))) (mMap gTup (mCons (mRet (.int 0)) (mCons (mRet (.int 1)) (mRet [])))))) (mMap gB (mBin gNe (mMap (lenIs 5 F_because) (mCons (mVar 0) (mCons (mVar 1) (mCons (mMap gTup (mRet [])) (mCons (mRet (.int 0)) (mCons (mRet (.int 1)) (mRet []))))))) (mMap gTup (mCons (mRet (.int 0)) (mCons (mRet (.int 0)) (mRet []))))))) (sSeq (sRet (mRet (.bool false)))
    sNil) sNil)
    (sSeq (sRet (mAndV (mBin gEq (mMap (lenIs 5 F_because) (mCons (mVar 0) (mCons (mVar 1) (mCons (mMap gTup (mRet [])) (mCons (mRet (.int 1)) (mCons (mRet (.int 0)) (mRet []))))))) (mMap gTup (mCons (mRet (.int 0)) (mCons (mRet (.int 2)) (mRet []))))) (mBin gEq (mMap (lenIs 5 F_waiting) (mCons (mVar 0) (mCons (mVar 1) (mCons (mMap gTup (mRet [])) (mCons (mRet (.int 1)) (mCons (mRet (.int 4)) (mRet []))))))) (mMap gTup (mCons (mRet (.int 0)) (mCons (mRet (.int 3)) (mRet [])))))))
    sNil)))))))
def F__law_one_desk (ds : List D) : Option D := outF (B__law_one_desk (envOf ["hall", "book"] ds))
def B__law_barred : So := (sSeq (sSet 0 (mMap gTup (mCons (mMap gTup (mCons (mMap gTup (mCons (mRet (.int 1)) (mCons (mRet (.int 1)) (mRet [])))) (mCons (mMap gTup (mCons (mRet (.int 1)) (mCons (mRet (.int 1)) (mRet [])))) (mRet [])))) (mCons (mMap gTup (mCons (mMap gTup (mCons (mRet (.int 0)) (mCons (mRet (.int 1)) (mRet [])))) (mCons (mMap gTup (mCons (mRet (.int 0)) (mCons (mRet (.int 1)) (mRet [])))) (mRet [])))) (mRet [])))))
    (sSeq (sSet 1 (mMap gTup (mCons (mMap gTup (mCons (mRet .none) (mCons (mRet .none) (mRet [])))) (mCons (mMap gTup (mCons (mRet (.int 0)) (mCons (mRet (.int 0)) (mRet [])))) (mRet [])))))
    (sSeq (sIf (mOr (mMap gTru (mMap (lenIs 3 F_can_be) (mCons (mVar 0) (mCons (mVar 1) (mCons (mMap gTup (mRet [])) (mRet [])))))) (mOr (mMap gB (mBin gNe (mMap (lenIs 2 F_first_bar) (mCons (mVar 0) (mCons (mVar 1) (mRet [])))) (mRet (.int 1)))) (mMap gB (mMap gIsN (mMap (lenIs 3 F_bar) (mCons (mVar 0) (mCons (mVar 1) (mCons (mMap gTup (mRet [])) (mRet []))))))))) (sSeq (sRet (mRet (.bool false)))
    sNil) sNil)
    (sSeq (sIf (mOr (mMap gB (mBin (gIsB true) (mMap (lenIs 4 F_is_bar) (mCons (mVar 0) (mCons (mVar 1) (mCons (mMap gTup (mRet [])) (mCons (mMap gTup (mCons (mRet (.int 0)) (mCons (mRet (.int 0)) (mCons (mRet (.int 1)) (mRet []))))) (mRet [])))))) (mRet (.bool true)))) (mMap gB (mBin (gIsB true) (mMap (lenIs 4 F_is_bar) (mCons (mVar 0) (mCons (mVar 1) (mCons (mMap gTup (mRet [])) (mCons (mMap gTup (mCons (mRet (.int 1)) (mCons (mRet (.int 0)) (mCons (mRet (.int 1)) (mRet []))))) (mRet [])))))) (mRet (.bool false))))) (sSeq (sRet (mRet (.bool false)))
    sNil) sNil)
    (sSeq (sIf (mMap gB (mBin gNe (mMap (lenIs 2 F_mends) (mCons (mVar 0) (mCons (mVar 1) (mRet [])))) (mMap gLst (mCons (mMap gTup (mCons (mRet (.int 1)) (mCons (mRet (.int 1)) (mCons (mRet .none) (mRet []))))) (mCons (mMap gTup (mCons (mRet (.int 1)) (mCons (mRet (.int 1)) (mCons (mRet (.int 1)) (mRet []))))) (mRet [])))))) (sSeq (sRet (mRet (.bool false)))
    sNil) sNil)
    (sSeq (sRet (mAndV (mBin gEq (mMap (lenIs 3 F_nexts) (mCons (mVar 0) (mCons (mVar 1) (mCons (mMap gTup (mRet [])) (mRet []))))) (mMap gLst (mRet []))) (mAndV (mMap gIsN (mMap (lenIs 3 F_best_look) (mCons (mVar 0) (mCons (mVar 1) (mCons (mMap gTup (mRet [])) (mRet [])))))) (mBin gEq (mMap (lenIs 2 F_orders) (mCons (mVar 0) (mCons (mVar 1) (mRet [])))) (mMap gLst (mRet []))))))
    sNil))))))
def F__law_barred (ds : List D) : Option D := outF (B__law_barred (envOf ["hall", "book"] ds))
def B__law_orders_told : So := (sSeq (sSet 0 (mMap gTup (mCons (mMap gTup (mCons (mMap gTup (mCons (mRet (.int 1)) (mCons (mRet (.int 1)) (mRet [])))) (mCons (mMap gTup (mCons (mRet (.int 1)) (mCons (mRet (.int 1)) (mRet [])))) (mRet [])))) (mCons (mMap gTup (mCons (mMap gTup (mCons (mRet (.int 0)) (mCons (mRet (.int 1)) (mRet [])))) (mRet []))) (mRet [])))))
    (sSeq (sSet 1 (mMap gTup (mCons (mMap gTup (mCons (mRet (.int 1)) (mRet []))) (mCons (mMap gTup (mCons (mRet (.int 1)) (mRet []))) (mCons (mMap gTup (mCons (mRet (.int 0)) (mRet []))) (mCons (mMap gTup (mCons (mRet (.int 0)) (mRet []))) (mCons (mMap gTup (mCons (mRet (.int 0)) (mRet []))) (mRet []))))))))
    (sSeq (sIf (mOr (mMap gB (mBin gNe (mMap (lenIs 2 F_orders) (mCons (mVar 0) (mCons (mVar 1) (mRet [])))) (mMap gLst (mCons (mMap gTup (mCons (mMap gTup (mCons (mRet (.int 0)) (mCons (mRet (.int 1)) (mRet [])))) (mCons (mRet (.int 8)) (mRet [])))) (mCons (mMap gTup (mCons (mMap gTup (mCons (mRet (.int 1)) (mCons (mRet (.int 0)) (mRet [])))) (mCons (mRet (.int 16)) (mRet [])))) (mRet [])))))) (mMap gB (mBin gNe (mMap (lenIs 2 F_must_be_ahead) (mCons (mVar 0) (mCons (mVar 1) (mRet [])))) (mMap gLst (mRet []))))) (sSeq (sRet (mRet (.bool false)))
    sNil) sNil)
    (sSeq (sSet 2 (mMap gTup (mCons (mMap gTup (mCons (mMap gTup (mCons (mRet (.int 1)) (mCons (mRet (.int 1)) (mRet [])))) (mCons (mMap gTup (mCons (mRet (.int 1)) (mCons (mRet (.int 1)) (mRet [])))) (mRet [])))) (mCons (mMap gTup (mCons (mMap gTup (mCons (mRet (.int 0)) (mCons (mRet (.int 1)) (mRet [])))) (mCons (mMap gTup (mCons (mRet (.int 0)) (mCons (mRet (.int 1)) (mRet [])))) (mRet [])))) (mRet [])))))
    (sSeq (sIf (mOr (mMap gB (mBin gNe (mMap (lenIs 2 F_orders) (mCons (mVar 2) (mCons (mMap gTup (mCons (mMap gTup (mCons (mRet (.int 1)) (mCons (mRet (.int 0)) (mRet [])))) (mCons (mMap gTup (mCons (mRet (.int 0)) (mCons (mRet .none) (mRet [])))) (mRet [])))) (mRet [])))) (mMap gLst (mCons (mMap gTup (mCons (mMap gTup (mCons (mRet (.int 1)) (mCons (mRet (.int 0)) (mRet [])))) (mCons (mRet (.int 1)) (mRet [])))) (mRet []))))) (mMap gB (mBin gNe (mMap (lenIs 2 F_must_be_ahead) (mCons (mVar 2) (mCons (mMap gTup (mCons (mMap gTup (mCons (mRet (.int 1)) (mCons (mRet (.int 0)) (mRet [])))) (mCons (mMap gTup (mCons (mRet (.int 0)) (mCons (mRet .none) (mRet [])))) (mRet [])))) (mRet [])))) (mMap gLst (mCons (mMap gTup (mCons (mRet (.int 1)) (mCons (mRet (.int 0)) (mRet [])))) (mRet [])))))) (sSeq (sRet (mRet (.bool false)))
    sNil) sNil)
    (sSeq (sRet (mAndV (mBin gEq (mMap (lenIs 3 F_stays) (mCons (mVar 0) (mCons (mVar 1) (mCons (mRet (.int 0)) (mRet []))))) (mMap gLst (mCons (mRet (.int 1)) (mRet [])))) (mBin gEq (mMap (lenIs 3 F_stays) (mCons (mVar 0) (mCons (mMap gTup (mCons (mMap gTup (mCons (mRet (.int 0)) (mRet []))) (mCons (mMap gTup (mCons (mRet .none) (mRet []))) (mRet [])))) (mCons (mRet (.int 0)) (mRet []))))) (mBin gLstRg2 (mRet (.int 1)) (mRet (.int 11))))))
    sNil))))))
def F__law_orders_told (ds : List D) : Option D := outF (B__law_orders_told (envOf ["hall", "book", "wide"] ds))
def B__law_two_taken : So := (sSeq (sTup (mMap gTup (mCons (mMap gTup (mCons (mMap gTup (mCons (mMap gTup (mCons (mRet (.int 1)) (mCons (mRet (.int 1)) (mRet [])))) (mCons (mMap gTup (mCons (mRet (.int 3)) (mCons (mRet (.int 1)) (mRet [])))) (mRet [])))) (mCons (mMap gTup (mCons (mMap gTup (mCons (mRet (.int 0)) (mCons (mRet (.int 1)) (mRet [])))) (mCons (mMap gTup (mCons (mRet (.int 0)) (mCons (mRet (.int 1)) (mRet [])))) (mRet [])))) (mRet [])))) (mCons (mMap gTup (mCons (mMap gTup (mCons (mRet (.int 1)) (mCons (mRet (.int 1)) (mRet [])))) (mRet []))) (mRet [])))) (gTu 2 (gsCons (gNm 0) (gsCons (gNm 1) gsNil))))
    (sSeq (sIf (mOr (mMap gB (mBin gNe (mMap (lenIs 5 F_because) (mCons (mVar 0) (mCons (mVar 1) (mCons (mMap gTup (mRet [])) (mCons (mRet (.int 1)) (mCons (mRet (.int 1)) (mRet []))))))) (mMap gTup (mCons (mRet (.int 0)) (mCons (mRet (.int 2)) (mRet [])))))) (mMap gB (mBin gNe (mMap (lenIs 5 F_because) (mCons (mVar 0) (mCons (mVar 1) (mCons (mMap gTup (mRet [])) (mCons (mRet (.int 0)) (mCons (mRet (.int 1)) (mRet []))))))) (mMap gTup (mCons (mRet (.int 0)) (mCons (mRet (.int 0)) (mRet []))))))) (sSeq (sRet (mRet (.bool false)))
    sNil) sNil)
    (sSeq (sRet (mAndV (mBin gEq (mMap (lenIs 5 F_waiting) (mCons (mVar 0) (mCons (mVar 1) (mCons (mMap gTup (mRet [])) (mCons (mRet (.int 1)) (mCons (mRet (.int 0)) (mRet []))))))) (mMap gTup (mCons (mRet (.int 0)) (mCons (mRet (.int 1)) (mRet []))))) (mBin gEq (mMap (lenIs 4 F_waits) (mCons (mVar 0) (mCons (mVar 1) (mCons (mMap gTup (mRet [])) (mCons (mRet (.int 1)) (mRet [])))))) (mMap gTup (mCons (mRet (.int 0)) (mCons (mRet (.int 0)) (mRet [])))))))
    sNil)))
def F__law_two_taken (ds : List D) : Option D := outF (B__law_two_taken (envOf ["hall", "book"] ds))
def B__law_first_told : So := (sSeq (sSet 1 (mMap gTup (mCons (mMap gTup (mCons (mMap gTup (mCons (mRet (.int 1)) (mCons (mRet (.int 1)) (mRet [])))) (mCons (mMap gTup (mCons (mVar 0) (mCons (mRet (.int 1)) (mRet [])))) (mRet [])))) (mCons (mMap gTup (mCons (mMap gTup (mCons (mRet (.int 0)) (mCons (mRet (.int 1)) (mRet [])))) (mRet []))) (mRet [])))))
    (sSeq (sSet 2 (mMap gTup (mCons (mMap gTup (mCons (mRet (.int 0)) (mRet []))) (mCons (mMap gTup (mCons (mRet (.int 0)) (mRet []))) (mCons (mMap gTup (mCons (mRet (.int 1)) (mRet []))) (mCons (mMap gTup (mCons (mRet .none) (mRet []))) (mRet [])))))))
    (sSeq (sIf (mOr (mMap gB (mBin gNe (mMap (lenIs 5 F_first_taken) (mCons (mVar 1) (mCons (mVar 2) (mCons (mMap gTup (mRet [])) (mCons (mRet (.int 1)) (mCons (mRet (.int 1)) (mRet []))))))) (mMap gTup (mCons (mRet (.int 0)) (mCons (mRet (.int 2)) (mRet [])))))) (mMap gB (mBin gNe (mMap (lenIs 5 F_first_taken) (mCons (mVar 1) (mCons (mVar 2) (mCons (mMap gTup (mRet [])) (mCons (mRet (.int 0)) (mCons (mRet (.int 1)) (mRet []))))))) (mMap gTup (mCons (mRet (.int 0)) (mCons (mRet (.int 0)) (mRet []))))))) (sSeq (sRet (mRet (.bool false)))
    sNil) sNil)
    (sSeq (sIf (mOr (mMap gB (mBin gNe (mMap (lenIs 5 F_first_taken) (mCons (mVar 1) (mCons (mVar 2) (mCons (mMap gTup (mRet [])) (mCons (mRet (.int 1)) (mCons (mRet (.int 2)) (mRet []))))))) (mMap gTup (mCons (mRet .none) (mCons (mRet .none) (mRet [])))))) (mMap gB (mBin gNe (mMap (lenIs 4 F_waits) (mCons (mVar 1) (mCons (mVar 2) (mCons (mMap gTup (mRet [])) (mCons (mRet (.int 1)) (mRet [])))))) (mMap gTup (mCons (mRet (.int 0)) (mCons (mRet (.int 2)) (mRet []))))))) (sSeq (sRet (mRet (.bool false)))
    sNil) sNil)
    (sSeq (sRet (mBin gEq (mBin gIx (mMap (lenIs 3 F_nexts) (mCons (mVar 1) (mCons (mVar 2) (mCons (mMap gTup (mRet [])) (mRet []))))) (mRet (.int 0))) (mMap gTup (mCons (mMap gTup (mCons (mRet .none) (mRet []))) (mCons (mMap (lenIs 3 F_how_many) (mCons (mVar 1) (mCons (mVar 2) (mCons (mMap gTup (mRet [])) (mRet []))))) (mRet []))))))
    sNil)))))
def F__law_first_told (ds : List D) : Option D := outF (B__law_first_told (envOf ["many", "hall", "book"] ds))
def B_law : So := (sSeq (sForOwn 1 (mMap (lenIs 2 F__law_bags) (mCons (mVar 0) (mCons (mRet (.int 4)) (mRet [])))) (sSeq (sIf (mNot (mMap gTru (mMap (lenIs 1 F__law_first_told) (mCons (mBin gAdd (mRet (.int 1)) (mCallIO [some 0, none] F__law_take (mIo 1 (mCons (mMap (fun d => some (AR.fz d)) (mRet (.int 5))) (mRet []))))) (mRet []))))) (sSeq (sRet (mRet (.bool false)))
    sNil) sNil)
    (sSeq (sPar 2 3 (mCons (mBin gAdd (mRet (.int 1)) (mCallIO [some 0, none] F__law_take (mIo 1 (mCons (mMap (fun d => some (AR.fz d)) (mRet (.int 10))) (mRet []))))) (mCons (mBin gAdd (mRet (.int 1)) (mCallIO [some 0, none] F__law_take (mIo 1 (mCons (mMap (fun d => some (AR.fz d)) (mRet (.int 5))) (mRet []))))) (mRet []))))
    (sSeq (sSet 4 (mMap gTup (mCons (mMap gTup (mCons (mMap gTup (mCons (mVar 3) (mCons (mVar 2) (mRet [])))) (mRet []))) (mCons (mMap gTup (mCons (mMap gTup (mCons (mRet (.int 0)) (mRet []))) (mRet []))) (mRet [])))))
    (sSeq (sSet 5 (mIf (mMap gB (mBin gGt (mVar 3) (mRet (.int 1)))) (mMap gTup (mCons (mRet (.int 0)) (mCons (mRet (.int 0)) (mCons (mRet (.int 1)) (mRet []))))) (mRet .none)))
    (sSeq (sIf (mOr (mMap gB (mBin gNe (mMap (lenIs 3 F_best_look) (mCons (mVar 4) (mCons (mMap gTup (mCons (mMap gTup (mCons (mRet (.int 0)) (mRet []))) (mRet []))) (mCons (mMap gTup (mRet [])) (mRet []))))) (mVar 5))) (mMap gB (mBin gNe (mMap (lenIs 3 F_how_many) (mCons (mVar 4) (mCons (mMap gTup (mCons (mMap gTup (mCons (mRet (.int 0)) (mRet []))) (mRet []))) (mCons (mMap gTup (mRet [])) (mRet []))))) (mVar 3)))) (sSeq (sRet (mRet (.bool false)))
    sNil) sNil)
    (sSeq (sIf (mMap gB (mBin gNe (mMap (lenIs 3 F_nexts) (mCons (mVar 4) (mCons (mMap gTup (mCons (mMap gTup (mCons (mRet .none) (mRet []))) (mRet []))) (mCons (mMap gTup (mRet [])) (mRet []))))) (mMap gLst (mCons (mMap gTup (mCons (mMap gTup (mCons (mRet .none) (mRet []))) (mCons (mRet (.int 1)) (mRet [])))) (mCons (mMap gTup (mCons (mMap gTup (mCons (mRet (.int 0)) (mRet []))) (mCons (mVar 3) (mRet [])))) (mRet [])))))) (sSeq (sRet (mRet (.bool false)))
    sNil) sNil)
    sNil)))))))
    (sSeq (sRet (mAndV (mMap (lenIs 0 F__law_one_desk) (mRet [])) (mAndV (mMap (lenIs 0 F__law_barred) (mRet [])) (mAndV (mMap (lenIs 0 F__law_orders_told) (mRet [])) (mMap (lenIs 0 F__law_two_taken) (mRet []))))))
    sNil))
def F_law (ds : List D) : Option D := outF (B_law (envOf ["script", "bag", "stay", "many", "hall", "due"] ds))
end Dn
set_option maxHeartbeats 4000000
namespace Dn
open PySem PySem.Spec PyProof.Rows L2
section
variable {P : Program} {w : World} {K : PySem.W.Frag} {mg : Str → Option Value} {base : Heap}
theorem sc_is_whole : FnScope ["thing"] ["thing"] (defScope s_is_whole) := ⟨rfl, rfl, rfl, by decide +kernel, rfl, by decide +kernel, by decide +kernel⟩
theorem fn_is_whole (d : Df K mg "is_whole" s_is_whole ["thing"]) (Z : Blt2 mg) (Y : ImpsP mg) : Fd P w K mg base "is_whole" 1 1 F_is_whole := by
  have nd := sc_is_whole.nd
  exact Fd.of (B := B_is_whole) d sc_is_whole rfl fun f cdv A outer s H E hr => (denss_cons (dens_ret (den_and (den_isi isi_int (dv 0) rfl Z.isinstance_ rfl Z.int_ (by decide +kernel)) (den_one (den_not (den_isi isi_bool (dv 0) rfl Z.isinstance_ rfl Z.bool_ (by decide +kernel))))))
    denss_nil)
theorem sc_are_whole : FnScope ["things", "thing"] ["things"] (defScope s_are_whole) := ⟨rfl, rfl, rfl, by decide +kernel, rfl, by decide +kernel, by decide +kernel⟩
theorem fn_are_whole (d : Df K mg "are_whole" s_are_whole ["things"]) (Z : Blt2 mg) (Y : ImpsP mg) (h_is_whole : Fd P w K mg base "is_whole" 1 1 F_is_whole) : Fd P w K mg base "are_whole" 2 1 F_are_whole := by
  have nd := sc_are_whole.nd
  exact Fd.of (B := B_are_whole) d sc_are_whole rfl fun f cdv A outer s H E hr => (denss_cons (dens_for PassesOwn.never rfl (deni_seq (dv 0)) (deng_name 1 nd rfl (by first | exact .inl rfl | exact .inr rfl)) (denss_cons (dens_if (dent_w (denw_and (dent_tyNotInt (dv 1) rfl Z.type_ rfl Z.int_) (denw_and1 (dent_not (dent_val (den_call h_is_whole (hr.mono (by decide)) rfl (dena_cons (dv 1) dena_nil))))))) (denss_cons (dens_ret den_bl)
    denss_nil) denss_nil)
    denss_nil))
    (denss_cons (dens_ret den_bl)
    denss_nil))
theorem sc_is_from_to : FnScope ["thing", "low", "high"] ["thing", "low", "high"] (defScope s_is_from_to) := ⟨rfl, rfl, rfl, by decide +kernel, rfl, by decide +kernel, by decide +kernel⟩
theorem fn_is_from_to (d : Df K mg "is_from_to" s_is_from_to ["thing", "low", "high"]) (Z : Blt2 mg) (Y : ImpsP mg) (h_is_whole : Fd P w K mg base "is_whole" 1 1 F_is_whole) : Fd P w K mg base "is_from_to" 2 3 F_is_from_to := by
  have nd := sc_is_from_to.nd
  exact Fd.of (B := B_is_from_to) d sc_is_from_to rfl fun f cdv A outer s H E hr => (denss_cons (dens_ret (den_and (den_call h_is_whole (hr.mono (by decide)) rfl (dena_cons (dv 0) dena_nil)) (den_one (dene_chain opD_le opD_le (dv 1) (dv 0) (dv 2)))))
    denss_nil)
theorem sc_is_tuple : FnScope ["thing", "least", "most"] ["thing", "least", "most"] (defScope s_is_tuple) := ⟨rfl, rfl, rfl, by decide +kernel, rfl, by decide +kernel, by decide +kernel⟩
theorem fn_is_tuple (d : Df K mg "is_tuple" s_is_tuple ["thing", "least", "most"]) (Z : Blt2 mg) (Y : ImpsP mg) : Fd P w K mg base "is_tuple" 1 3 F_is_tuple := by
  have nd := sc_is_tuple.nd
  exact Fd.of (B := B_is_tuple) d sc_is_tuple rfl fun f cdv A outer s H E hr => (denss_cons (dens_ret (den_and (den_isi isi_tuple (dv 0) rfl Z.isinstance_ rfl Z.tuple_ (by decide +kernel)) (den_one (dene_chain opD_le opD_le (dv 1) (den_callB callD_len rfl Z.len_ (by decide +kernel) (dena_cons (dv 0) dena_nil)) (dv 2)))))
    denss_nil)
theorem sc_are_rows : FnScope ["thing", "most", "wide", "row"] ["thing", "most", "wide"] (defScope s_are_rows) := ⟨rfl, rfl, rfl, by decide +kernel, rfl, by decide +kernel, by decide +kernel⟩
theorem fn_are_rows (d : Df K mg "are_rows" s_are_rows ["thing", "most", "wide"]) (Z : Blt2 mg) (Y : ImpsP mg) (h_is_tuple : Fd P w K mg base "is_tuple" 1 3 F_is_tuple) : Fd P w K mg base "are_rows" 2 3 F_are_rows := by
  have nd := sc_are_rows.nd
  exact Fd.of (B := B_are_rows) d sc_are_rows rfl fun f cdv A outer s H E hr => (denss_cons (dens_if (dent_not (dent_val (den_call h_is_tuple (hr.mono (by decide)) rfl (dena_cons (dv 0) (dena_cons den_int (dena_cons (dv 1) dena_nil)))))) (denss_cons (dens_ret den_bl)
    denss_nil) denss_nil)
    (denss_cons (dens_ret (den_cmp (opD_eq hr.units) (den_frz (denn_lc (vs := [3]) [("row", 3)] rfl nd (deni_seq (dv 0)) (blkOk_by (by rfl)) (fun _ _ _ _ _ => (deng_name 3 nd rfl (by first | exact .inl rfl | exact .inr rfl))) (fun _ _ _ _ _ => (dents_one (dent_val (den_isi isi_tuple (dv 3) rfl Z.isinstance_ rfl Z.tuple_ (by decide +kernel))))) (fun _ _ _ _ _ => (den_callB callD_len rfl Z.len_ (by decide +kernel) (dena_cons (dv 3) dena_nil))))) (den_bin opD_mulB (den_lst (dena_cons (dv 2) dena_nil)) (den_callB callD_len rfl Z.len_ (by decide +kernel) (dena_cons (dv 0) dena_nil)))))
    denss_nil))
theorem sc_is_rising : FnScope ["things", "one", "other"] ["things"] (defScope s_is_rising) := ⟨rfl, rfl, rfl, by decide +kernel, rfl, by decide +kernel, by decide +kernel⟩
theorem fn_is_rising (d : Df K mg "is_rising" s_is_rising ["things"]) (Z : Blt2 mg) (Y : ImpsP mg) : Fd P w K mg base "is_rising" 1 1 F_is_rising := by
  have nd := sc_is_rising.nd
  exact Fd.of (B := B_is_rising) d sc_is_rising rfl fun f cdv A outer s H E hr => (denss_cons (dens_for PassesOwn.never rfl (deni_zip2 rfl Z.zip_ (dena_cons (dv 0) (dena_cons (den_slice (dv 0) (deno_some den_int) deno_none) dena_nil))) (deng_tup (n := 2) rfl (dengs_cons (deng_name 1 nd rfl (by first | exact .inl rfl | exact .inr rfl)) (dengs_cons (deng_name 2 nd rfl (by first | exact .inl rfl | exact .inr rfl)) dengs_nil))) (denss_cons (dens_if (dent_not (dent_cmp (opD_lt hr.units0) (dv 1) (dv 2))) (denss_cons (dens_ret den_bl)
    denss_nil) denss_nil)
    denss_nil))
    (denss_cons (dens_ret den_bl)
    denss_nil))
theorem sc_is_column : FnScope ["stays", "desk", "column", "free", "tick", "one"] ["stays", "desk", "column"] (defScope s_is_column) := ⟨rfl, rfl, rfl, by decide +kernel, rfl, by decide +kernel, by decide +kernel⟩
theorem fn_is_column (d : Df K mg "is_column" s_is_column ["stays", "desk", "column"]) (Z : Blt2 mg) (Y : ImpsP mg) (h_is_whole : Fd P w K mg base "is_whole" 1 1 F_is_whole) : Fd P w K mg base "is_column" 2 3 F_is_column := by
  have nd := sc_is_column.nd
  exact Fd.of (B := B_is_column) d sc_is_column rfl fun f cdv A outer s H E hr => (denss_cons (dens_set 3 nd rfl (by first | exact .inl rfl | exact .inr rfl) den_int)
    (denss_cons (dens_for PassesOwn.never rfl (deni_enum rfl Z.enumerate_ (dena_cons (dv 2) dena_nil)) (deng_tup (n := 2) rfl (dengs_cons (deng_name 4 nd rfl (by first | exact .inl rfl | exact .inr rfl)) (dengs_cons (deng_name 5 nd rfl (by first | exact .inl rfl | exact .inr rfl)) dengs_nil))) (denss_cons (dens_if (dent_notN (dv 5)) (denss_cons (dens_if (dent_w (denw_or (dent_cmp (opD_lt hr.units0) (dv 4) (dv 3)) (denw_or (dent_cmp opD_notIn (dv 5) (dv 1)) (denw_or1 (dent_w (denw_and (dent_tyNotInt (dv 5) rfl Z.type_ rfl Z.int_) (denw_and1 (dent_not (dent_val (den_call h_is_whole (hr.mono (by decide)) rfl (dena_cons (dv 5) dena_nil))))))))))) (denss_cons (dens_ret den_bl)
    denss_nil) denss_nil)
    (denss_cons (dens_set 3 nd rfl (by first | exact .inl rfl | exact .inr rfl) (den_bin opD_add (dv 4) (den_ix (dv 0) (dv 5))))
    denss_nil)) denss_nil)
    denss_nil))
    (denss_cons (dens_ret den_bl)
    denss_nil)))
theorem sc_turns_of : FnScope ["stays", "column", "turns", "free", "tick", "one"] ["stays", "column"] (defScope s_turns_of) := ⟨rfl, rfl, rfl, by decide +kernel, rfl, by decide +kernel, by decide +kernel⟩
theorem fn_turns_of (d : Df K mg "turns_of" s_turns_of ["stays", "column"]) (Z : Blt2 mg) (Y : ImpsP mg) (g_BUSY : ∃ t, mg "BUSY" = some (.int (-1) t)) (g_NOBODY : ∃ t, mg "NOBODY" = some (.int (4) t)) : Fd P w K mg base "turns_of" 1 2 F_turns_of := by
  have nd := sc_turns_of.nd
  exact Fd.of (B := B_turns_of) d sc_turns_of rfl fun f cdv A outer s H E hr => (denss_cons (dens_setN 2 0 nd rfl (by first | exact .inl rfl | exact .inr rfl) (denn_lst dena_nil))
    (denss_cons (dens_set 3 nd rfl (by first | exact .inl rfl | exact .inr rfl) den_int)
    (denss_cons (dens_for PassesOwn.never rfl (deni_enum rfl Z.enumerate_ (dena_cons (dv 1) dena_nil)) (deng_tup (n := 2) rfl (dengs_cons (deng_name 4 nd rfl (by first | exact .inl rfl | exact .inr rfl)) (dengs_cons (deng_name 5 nd rfl (by first | exact .inl rfl | exact .inr rfl)) dengs_nil))) (denss_cons (dens_if (dent_notN (dv 5)) (denss_cons (dens_app 2 rfl (by first | exact .inl rfl | exact .inr (.inl rfl) | exact .inr (.inr rfl)) (dv 5))
    (denss_cons (dens_set 3 nd rfl (by first | exact .inl rfl | exact .inr rfl) (den_bin opD_add (dv 4) (den_ix (dv 0) (dv 5))))
    denss_nil)) (denss_cons (dens_app 2 rfl (by first | exact .inl rfl | exact .inr (.inl rfl) | exact .inr (.inr rfl)) (den_if (dent_cmp (opD_lt hr.units0) (dv 4) (dv 3)) (den_glb g_BUSY rfl) (den_glb g_NOBODY rfl)))
    denss_nil))
    denss_nil))
    (denss_frz 2 (denss_cons (dens_ret (dv 2))
    denss_nil)))))
theorem sc_all_stays : FnScope ["hall", "_", "stay"] ["hall"] (defScope s_all_stays) := ⟨rfl, rfl, rfl, by decide +kernel, rfl, by decide +kernel, by decide +kernel⟩
theorem fn_all_stays (d : Df K mg "all_stays" s_all_stays ["hall"]) (Z : Blt2 mg) (Y : ImpsP mg) : Fd P w K mg base "all_stays" 1 1 F_all_stays := by
  have nd := sc_all_stays.nd
  exact Fd.of (B := B_all_stays) d sc_all_stays rfl fun f cdv A outer s H E hr => (denss_cons (dens_ret (den_frz (denn_lc (vs := [1, 2]) [("_", 1), ("stay", 2)] rfl nd (deni_seq (den_ix (dv 0) den_int)) (blkOk_by (by rfl)) (fun _ _ _ _ _ => (deng_tup (n := 2) rfl (dengs_cons (deng_name 1 nd rfl (by first | exact .inl rfl | exact .inr rfl)) (dengs_cons (deng_name 2 nd rfl (by first | exact .inl rfl | exact .inr rfl)) dengs_nil)))) (fun _ _ _ _ _ => dents_nil) (fun _ _ _ _ _ => (dv 2)))))
    denss_nil)
theorem sc_all_turns : FnScope ["hall", "columns", "stays", "column"] ["hall", "columns"] (defScope s_all_turns) := ⟨rfl, rfl, rfl, by decide +kernel, rfl, by decide +kernel, by decide +kernel⟩
theorem fn_all_turns (d : Df K mg "all_turns" s_all_turns ["hall", "columns"]) (Z : Blt2 mg) (Y : ImpsP mg) (h_all_stays : Fd P w K mg base "all_stays" 1 1 F_all_stays) (h_turns_of : Fd P w K mg base "turns_of" 1 2 F_turns_of) : Fd P w K mg base "all_turns" 2 2 F_all_turns := by
  have nd := sc_all_turns.nd
  exact Fd.of (B := B_all_turns) d sc_all_turns rfl fun f cdv A outer s H E hr => (denss_cons (dens_set 2 nd rfl (by first | exact .inl rfl | exact .inr rfl) (den_call h_all_stays (hr.mono (by decide)) rfl (dena_cons (dv 0) dena_nil)))
    (denss_cons (dens_ret (den_frz (denn_lc (vs := [3]) [("column", 3)] rfl nd (deni_seq (dv 1)) (blkOk_by (by rfl)) (fun _ _ _ _ _ => (deng_name 3 nd rfl (by first | exact .inl rfl | exact .inr rfl))) (fun _ _ _ _ _ => dents_nil) (fun _ _ _ _ _ => (den_call h_turns_of (hr.mono (by decide)) rfl (dena_cons (dv 2) (dena_cons (dv 3) dena_nil)))))))
    denss_nil))
theorem sc_free_from : FnScope ["stays", "column", "tick"] ["stays", "column"] (defScope s_free_from) := ⟨rfl, rfl, rfl, by decide +kernel, rfl, by decide +kernel, by decide +kernel⟩
theorem fn_free_from (d : Df K mg "free_from" s_free_from ["stays", "column"]) (Z : Blt2 mg) (Y : ImpsP mg) : Fd P w K mg base "free_from" 1 2 F_free_from := by
  have nd := sc_free_from.nd
  exact Fd.of (B := B_free_from) d sc_free_from rfl fun f cdv A outer s H E hr => (denss_cons (dens_for PassesOwn.never rfl (deni_revrange1 rfl Z.reversed_ rfl Z.range_ (den_callB callD_len rfl Z.len_ (by decide +kernel) (dena_cons (dv 1) dena_nil))) (deng_name 2 nd rfl (by first | exact .inl rfl | exact .inr rfl)) (denss_cons (dens_if (dent_notN (den_ix (dv 1) (dv 2))) (denss_cons (dens_ret (den_bin opD_add (dv 2) (den_ix (dv 0) (den_ix (dv 1) (dv 2)))))
    denss_nil) denss_nil)
    denss_nil))
    (denss_cons (dens_ret den_int)
    denss_nil))
theorem sc__are_desks : FnScope ["thing", "ranks", "desk", "low", "rank"] ["thing", "ranks"] (defScope s__are_desks) := ⟨rfl, rfl, rfl, by decide +kernel, rfl, by decide +kernel, by decide +kernel⟩
theorem fn__are_desks (d : Df K mg "_are_desks" s__are_desks ["thing", "ranks"]) (Z : Blt2 mg) (Y : ImpsP mg) (h_is_tuple : Fd P w K mg base "is_tuple" 1 3 F_is_tuple) (h_is_whole : Fd P w K mg base "is_whole" 1 1 F_is_whole) (g_DESKS_AT_MOST : ∃ t, mg "DESKS_AT_MOST" = some (.int (3) t)) : Fd P w K mg base "_are_desks" 2 2 F__are_desks := by
  have nd := sc__are_desks.nd
  exact Fd.of (B := B__are_desks) d sc__are_desks rfl fun f cdv A outer s H E hr => (denss_cons (dens_if (dent_not (dent_val (den_call h_is_tuple (hr.mono (by decide)) rfl (dena_cons (dv 0) (dena_cons den_int (dena_cons (den_glb g_DESKS_AT_MOST rfl) dena_nil)))))) (denss_cons (dens_ret den_bl)
    denss_nil) denss_nil)
    (denss_cons (dens_for PassesOwn.never rfl (deni_seq (dv 0)) (deng_name 2 nd rfl (by first | exact .inl rfl | exact .inr rfl)) (denss_cons (dens_if (dent_w (denw_or (dent_not (dent_val (den_isi isi_tuple (dv 2) rfl Z.isinstance_ rfl Z.tuple_ (by decide +kernel)))) (denw_or1 (dent_not (dent_val (dv 2)))))) (denss_cons (dens_ret den_bl)
    denss_nil) denss_nil)
    (denss_cons (dens_set 3 nd rfl (by first | exact .inl rfl | exact .inr rfl) den_int)
    (denss_cons (dens_for PassesOwn.never rfl (deni_seq (dv 2)) (deng_name 4 nd rfl (by first | exact .inl rfl | exact .inr rfl)) (denss_cons (dens_if (dent_w (denw_or (dent_w (denw_and (dent_tyNotInt (dv 4) rfl Z.type_ rfl Z.int_) (denw_and1 (dent_not (dent_val (den_call h_is_whole (hr.mono (by decide)) rfl (dena_cons (dv 4) dena_nil))))))) (denw_or1 (dent_not (dent_chain opD_le (opD_lt hr.units0) (dv 3) (dv 4) (dv 1)))))) (denss_cons (dens_ret den_bl)
    denss_nil) denss_nil)
    (denss_cons (dens_set 3 nd rfl (by first | exact .inl rfl | exact .inr rfl) (den_bin opD_add (dv 4) den_int))
    denss_nil)))
    denss_nil))))
    (denss_cons (dens_ret den_bl)
    denss_nil)))
theorem sc__are_ranks : FnScope ["thing", "pair", "most", "stay"] ["thing"] (defScope s__are_ranks) := ⟨rfl, rfl, rfl, by decide +kernel, rfl, by decide +kernel, by decide +kernel⟩
theorem fn__are_ranks (d : Df K mg "_are_ranks" s__are_ranks ["thing"]) (Z : Blt2 mg) (Y : ImpsP mg) (h_is_tuple : Fd P w K mg base "is_tuple" 1 3 F_is_tuple) (h_are_whole : Fd P w K mg base "are_whole" 2 1 F_are_whole) (g_RANKS_AT_MOST : ∃ t, mg "RANKS_AT_MOST" = some (.int (4) t)) (g_STAY_AT_MOST : ∃ t, mg "STAY_AT_MOST" = some (.int (10) t)) (g_COME_AT_MOST : ∃ t, mg "COME_AT_MOST" = some (.int (5) t)) : Fd P w K mg base "_are_ranks" 3 1 F__are_ranks := by
  have nd := sc__are_ranks.nd
  exact Fd.of (B := B__are_ranks) d sc__are_ranks rfl fun f cdv A outer s H E hr => (denss_cons (dens_if (dent_not (dent_val (den_call h_is_tuple (hr.mono (by decide)) rfl (dena_cons (dv 0) (dena_cons den_int (dena_cons (den_glb g_RANKS_AT_MOST rfl) dena_nil)))))) (denss_cons (dens_ret den_bl)
    denss_nil) denss_nil)
    (denss_cons (dens_for PassesOwn.never rfl (deni_seq (dv 0)) (deng_name 1 nd rfl (by first | exact .inl rfl | exact .inr rfl)) (denss_cons (dens_if (dent_w (denw_or (dent_not (dent_val (den_isi isi_tuple (dv 1) rfl Z.isinstance_ rfl Z.tuple_ (by decide +kernel)))) (denw_or (dent_cmp (opD_ne hr.units) (den_callB callD_len rfl Z.len_ (by decide +kernel) (dena_cons (dv 1) dena_nil)) den_int) (denw_or1 (dent_not (dent_val (den_call h_are_whole (hr.mono (by decide)) rfl (dena_cons (dv 1) dena_nil)))))))) (denss_cons (dens_ret den_bl)
    denss_nil) denss_nil)
    (denss_cons (dens_asg (dv 1) (deng_tup (n := 2) rfl (dengs_cons (deng_name 2 nd rfl (by first | exact .inl rfl | exact .inr rfl)) (dengs_cons (deng_name 3 nd rfl (by first | exact .inl rfl | exact .inr rfl)) dengs_nil))))
    (denss_cons (dens_if (dent_w (denw_or (dent_not (dent_chain opD_le opD_le den_int (dv 2) (den_glb g_COME_AT_MOST rfl))) (denw_or1 (dent_not (dent_chain opD_le opD_le den_int (dv 3) (den_glb g_STAY_AT_MOST rfl)))))) (denss_cons (dens_ret den_bl)
    denss_nil) denss_nil)
    denss_nil))))
    (denss_cons (dens_ret den_bl)
    denss_nil)))
theorem sc_is_hall : FnScope ["thing", "ranks", "desks"] ["thing"] (defScope s_is_hall) := ⟨rfl, rfl, rfl, by decide +kernel, rfl, by decide +kernel, by decide +kernel⟩
theorem fn_is_hall (d : Df K mg "is_hall" s_is_hall ["thing"]) (Z : Blt2 mg) (Y : ImpsP mg) (h_is_tuple : Fd P w K mg base "is_tuple" 1 3 F_is_tuple) (h__are_desks : Fd P w K mg base "_are_desks" 2 2 F__are_desks) (h__are_ranks : Fd P w K mg base "_are_ranks" 3 1 F__are_ranks) : Fd P w K mg base "is_hall" 4 1 F_is_hall := by
  have nd := sc_is_hall.nd
  exact Fd.of (B := B_is_hall) d sc_is_hall rfl fun f cdv A outer s H E hr => (denss_cons (dens_if (dent_not (dent_val (den_call h_is_tuple (hr.mono (by decide)) rfl (dena_cons (dv 0) (dena_cons den_int (dena_cons den_int dena_nil)))))) (denss_cons (dens_ret den_bl)
    denss_nil) denss_nil)
    (denss_cons (dens_asg (dv 0) (deng_tup (n := 2) rfl (dengs_cons (deng_name 1 nd rfl (by first | exact .inl rfl | exact .inr rfl)) (dengs_cons (deng_name 2 nd rfl (by first | exact .inl rfl | exact .inr rfl)) dengs_nil))))
    (denss_cons (dens_ret (den_and (den_call h__are_ranks (hr.mono (by decide)) rfl (dena_cons (dv 1) dena_nil)) (den_one (den_call h__are_desks (hr.mono (by decide)) rfl (dena_cons (dv 2) (dena_cons (den_callB callD_len rfl Z.len_ (by decide +kernel) (dena_cons (dv 1) dena_nil)) dena_nil))))))
    denss_nil)))
theorem sc_columns_of : FnScope ["hall", "thing", "desks", "stays", "columns", "column", "desk"] ["hall", "thing"] (defScope s_columns_of) := ⟨rfl, rfl, rfl, by decide +kernel, rfl, by decide +kernel, by decide +kernel⟩
theorem fn_columns_of (d : Df K mg "columns_of" s_columns_of ["hall", "thing"]) (Z : Blt2 mg) (Y : ImpsP mg) (h_are_rows : Fd P w K mg base "are_rows" 2 3 F_are_rows) (h_all_stays : Fd P w K mg base "all_stays" 1 1 F_all_stays) (h_is_column : Fd P w K mg base "is_column" 2 3 F_is_column) (g_TICKS_AT_MOST : ∃ t, mg "TICKS_AT_MOST" = some (.int (40) t)) : Fd P w K mg base "columns_of" 3 2 F_columns_of := by
  have nd := sc_columns_of.nd
  exact Fd.of (B := B_columns_of) d sc_columns_of rfl fun f cdv A outer s H E hr => (denss_cons (dens_set 2 nd rfl (by first | exact .inl rfl | exact .inr rfl) (den_ix (dv 0) den_int))
    (denss_cons (dens_if (dent_not (dent_val (den_call h_are_rows (hr.mono (by decide)) rfl (dena_cons (dv 1) (dena_cons (den_glb g_TICKS_AT_MOST rfl) (dena_cons (den_callB callD_len rfl Z.len_ (by decide +kernel) (dena_cons (dv 2) dena_nil)) dena_nil)))))) (denss_cons (dens_ret den_non)
    denss_nil) denss_nil)
    (denss_cons (dens_set 3 nd rfl (by first | exact .inl rfl | exact .inr rfl) (den_call h_all_stays (hr.mono (by decide)) rfl (dena_cons (dv 0) dena_nil)))
    (denss_cons (dens_set 4 nd rfl (by first | exact .inl rfl | exact .inr rfl) (den_listZipS (dv 1) rfl rfl Z.list_ rfl Z.zip_))
    (denss_cons (dens_for PassesOwn.never rfl (deni_zip2 rfl Z.zip_ (dena_cons (dv 4) (dena_cons (dv 2) dena_nil))) (deng_tup (n := 2) rfl (dengs_cons (deng_name 5 nd rfl (by first | exact .inl rfl | exact .inr rfl)) (dengs_cons (deng_name 6 nd rfl (by first | exact .inl rfl | exact .inr rfl)) dengs_nil))) (denss_cons (dens_if (dent_not (dent_val (den_call h_is_column (hr.mono (by decide)) rfl (dena_cons (dv 3) (dena_cons (dv 6) (dena_cons (dv 5) dena_nil)))))) (denss_cons (dens_ret den_non)
    denss_nil) denss_nil)
    denss_nil))
    (denss_cons (dens_ret (dv 4))
    denss_nil))))))
theorem sc_need_hall : FnScope ["thing"] ["thing"] (defScope s_need_hall) := ⟨rfl, rfl, rfl, by decide +kernel, rfl, by decide +kernel, by decide +kernel⟩
theorem fn_need_hall (d : Df K mg "need_hall" s_need_hall ["thing"]) (Z : Blt2 mg) (Y : ImpsP mg) (h_is_hall : Fd P w K mg base "is_hall" 4 1 F_is_hall) : Fd P w K mg base "need_hall" 5 1 F_need_hall := by
  have nd := sc_need_hall.nd
  exact Fd.of (B := B_need_hall) d sc_need_hall rfl fun f cdv A outer s H E hr => (denss_cons (dens_if (dent_not (dent_val (den_call h_is_hall (hr.mono (by decide)) rfl (dena_cons (dv 0) dena_nil)))) (denss_cons dens_never
    denss_nil) denss_nil)
    denss_nil)
theorem sc_need_book : FnScope ["hall", "thing", "columns"] ["hall", "thing"] (defScope s_need_book) := ⟨rfl, rfl, rfl, by decide +kernel, rfl, by decide +kernel, by decide +kernel⟩
theorem fn_need_book (d : Df K mg "need_book" s_need_book ["hall", "thing"]) (Z : Blt2 mg) (Y : ImpsP mg) (h_columns_of : Fd P w K mg base "columns_of" 3 2 F_columns_of) : Fd P w K mg base "need_book" 4 2 F_need_book := by
  have nd := sc_need_book.nd
  exact Fd.of (B := B_need_book) d sc_need_book rfl fun f cdv A outer s H E hr => (denss_cons (dens_set 2 nd rfl (by first | exact .inl rfl | exact .inr rfl) (den_call h_columns_of (hr.mono (by decide)) rfl (dena_cons (dv 0) (dena_cons (dv 1) dena_nil))))
    (denss_cons (dens_if (dent_isN (dv 2)) (denss_cons dens_never
    denss_nil) denss_nil)
    (denss_cons (dens_ret (dv 2))
    denss_nil)))
theorem sc__is_look : FnScope ["hall", "book", "look", "tick", "rank", "least", "most"] ["hall", "book", "look"] (defScope s__is_look) := ⟨rfl, rfl, rfl, by decide +kernel, rfl, by decide +kernel, by decide +kernel⟩
theorem fn__is_look (d : Df K mg "_is_look" s__is_look ["hall", "book", "look"]) (Z : Blt2 mg) (Y : ImpsP mg) (g_LOOK_AT_MOST : ∃ t, mg "LOOK_AT_MOST" = some (.int (99) t)) : Fd P w K mg base "_is_look" 1 3 F__is_look := by
  have nd := sc__is_look.nd
  exact Fd.of (B := B__is_look) d sc__is_look rfl fun f cdv A outer s H E hr => (denss_cons (dens_asg (dv 2) (deng_tup (n := 4) rfl (dengs_cons (deng_name 3 nd rfl (by first | exact .inl rfl | exact .inr rfl)) (dengs_cons (deng_name 4 nd rfl (by first | exact .inl rfl | exact .inr rfl)) (dengs_cons (deng_name 5 nd rfl (by first | exact .inl rfl | exact .inr rfl)) (dengs_cons (deng_name 6 nd rfl (by first | exact .inl rfl | exact .inr rfl)) dengs_nil))))))
    (denss_cons (dens_ret (den_and (dene_chain opD_le (opD_lt hr.units0) den_int (dv 3) (den_callB callD_len rfl Z.len_ (by decide +kernel) (dena_cons (dv 1) dena_nil))) (den_and (dene_chain opD_le (opD_lt hr.units0) den_int (dv 4) (den_callB callD_len rfl Z.len_ (by decide +kernel) (dena_cons (den_ix (dv 0) den_int) dena_nil))) (den_one (dene_chain3 opD_le opD_le opD_le den_int (dv 5) (dv 6) (den_glb g_LOOK_AT_MOST rfl))))))
    denss_nil))
theorem sc__are_looks_of : FnScope ["hall", "book", "thing", "look"] ["hall", "book", "thing"] (defScope s__are_looks_of) := ⟨rfl, rfl, rfl, by decide +kernel, rfl, by decide +kernel, by decide +kernel⟩
theorem fn__are_looks_of (d : Df K mg "_are_looks_of" s__are_looks_of ["hall", "book", "thing"]) (Z : Blt2 mg) (Y : ImpsP mg) (h_is_tuple : Fd P w K mg base "is_tuple" 1 3 F_is_tuple) (h__is_look : Fd P w K mg base "_is_look" 1 3 F__is_look) (h_are_whole : Fd P w K mg base "are_whole" 2 1 F_are_whole) (h_is_rising : Fd P w K mg base "is_rising" 1 1 F_is_rising) (g_LOOKS_AT_MOST : ∃ t, mg "LOOKS_AT_MOST" = some (.int (6) t)) : Fd P w K mg base "_are_looks_of" 3 3 F__are_looks_of := by
  have nd := sc__are_looks_of.nd
  exact Fd.of (B := B__are_looks_of) d sc__are_looks_of rfl fun f cdv A outer s H E hr => (denss_cons (dens_if (dent_not (dent_val (den_call h_is_tuple (hr.mono (by decide)) rfl (dena_cons (dv 2) (dena_cons den_int (dena_cons (den_glb g_LOOKS_AT_MOST rfl) dena_nil)))))) (denss_cons (dens_ret den_bl)
    denss_nil) denss_nil)
    (denss_cons (dens_for PassesOwn.never rfl (deni_seq (dv 2)) (deng_name 3 nd rfl (by first | exact .inl rfl | exact .inr rfl)) (denss_cons (dens_if (dent_w (denw_or (dent_not (dent_val (den_call h_is_tuple (hr.mono (by decide)) rfl (dena_cons (dv 3) (dena_cons den_int (dena_cons den_int dena_nil)))))) (denw_or (dent_not (dent_val (den_call h_are_whole (hr.mono (by decide)) rfl (dena_cons (dv 3) dena_nil)))) (denw_or1 (dent_not (dent_val (den_call h__is_look (hr.mono (by decide)) rfl (dena_cons (dv 0) (dena_cons (dv 1) (dena_cons (dv 3) dena_nil)))))))))) (denss_cons (dens_ret den_bl)
    denss_nil) denss_nil)
    denss_nil))
    (denss_cons (dens_ret (den_call h_is_rising (hr.mono (by decide)) rfl (dena_cons (dv 2) dena_nil)))
    denss_nil)))
theorem sc_need_looks : FnScope ["hall", "book", "thing"] ["hall", "book", "thing"] (defScope s_need_looks) := ⟨rfl, rfl, rfl, by decide +kernel, rfl, by decide +kernel, by decide +kernel⟩
theorem fn_need_looks (d : Df K mg "need_looks" s_need_looks ["hall", "book", "thing"]) (Z : Blt2 mg) (Y : ImpsP mg) (h__are_looks_of : Fd P w K mg base "_are_looks_of" 3 3 F__are_looks_of) : Fd P w K mg base "need_looks" 4 3 F_need_looks := by
  have nd := sc_need_looks.nd
  exact Fd.of (B := B_need_looks) d sc_need_looks rfl fun f cdv A outer s H E hr => (denss_cons (dens_if (dent_not (dent_val (den_call h__are_looks_of (hr.mono (by decide)) rfl (dena_cons (dv 0) (dena_cons (dv 1) (dena_cons (dv 2) dena_nil)))))) (denss_cons dens_never
    denss_nil) denss_nil)
    denss_nil)
theorem sc_need_written : FnScope ["hall", "book", "looks", "columns"] ["hall", "book", "looks"] (defScope s_need_written) := ⟨rfl, rfl, rfl, by decide +kernel, rfl, by decide +kernel, by decide +kernel⟩
theorem fn_need_written (d : Df K mg "need_written" s_need_written ["hall", "book", "looks"]) (Z : Blt2 mg) (Y : ImpsP mg) (h_need_hall : Fd P w K mg base "need_hall" 5 1 F_need_hall) (h_need_book : Fd P w K mg base "need_book" 4 2 F_need_book) (h_need_looks : Fd P w K mg base "need_looks" 4 3 F_need_looks) : Fd P w K mg base "need_written" 6 3 F_need_written := by
  have nd := sc_need_written.nd
  exact Fd.of (B := B_need_written) d sc_need_written rfl fun f cdv A outer s H E hr => (denss_cons (dens_expr (den_call h_need_hall (hr.mono (by decide)) rfl (dena_cons (dv 0) dena_nil)))
    (denss_cons (dens_set 3 nd rfl (by first | exact .inl rfl | exact .inr rfl) (den_call h_need_book (hr.mono (by decide)) rfl (dena_cons (dv 0) (dena_cons (dv 1) dena_nil))))
    (denss_cons (dens_expr (den_call h_need_looks (hr.mono (by decide)) rfl (dena_cons (dv 0) (dena_cons (dv 1) (dena_cons (dv 2) dena_nil)))))
    (denss_cons (dens_ret (dv 3))
    denss_nil))))
theorem sc_need_rank : FnScope ["hall", "thing"] ["hall", "thing"] (defScope s_need_rank) := ⟨rfl, rfl, rfl, by decide +kernel, rfl, by decide +kernel, by decide +kernel⟩
theorem fn_need_rank (d : Df K mg "need_rank" s_need_rank ["hall", "thing"]) (Z : Blt2 mg) (Y : ImpsP mg) (h_is_from_to : Fd P w K mg base "is_from_to" 2 3 F_is_from_to) : Fd P w K mg base "need_rank" 3 2 F_need_rank := by
  have nd := sc_need_rank.nd
  exact Fd.of (B := B_need_rank) d sc_need_rank rfl fun f cdv A outer s H E hr => (denss_cons (dens_if (dent_not (dent_val (den_call h_is_from_to (hr.mono (by decide)) rfl (dena_cons (dv 1) (dena_cons den_int (dena_cons (den_bin opD_sub (den_callB callD_len rfl Z.len_ (by decide +kernel) (dena_cons (den_ix (dv 0) den_int) dena_nil)) den_int) dena_nil)))))) (denss_cons dens_never
    denss_nil) denss_nil)
    denss_nil)
theorem sc_need_tick : FnScope ["book", "thing"] ["book", "thing"] (defScope s_need_tick) := ⟨rfl, rfl, rfl, by decide +kernel, rfl, by decide +kernel, by decide +kernel⟩
theorem fn_need_tick (d : Df K mg "need_tick" s_need_tick ["book", "thing"]) (Z : Blt2 mg) (Y : ImpsP mg) (h_is_from_to : Fd P w K mg base "is_from_to" 2 3 F_is_from_to) : Fd P w K mg base "need_tick" 3 2 F_need_tick := by
  have nd := sc_need_tick.nd
  exact Fd.of (B := B_need_tick) d sc_need_tick rfl fun f cdv A outer s H E hr => (denss_cons (dens_if (dent_not (dent_val (den_call h_is_from_to (hr.mono (by decide)) rfl (dena_cons (dv 1) (dena_cons den_int (dena_cons (den_bin opD_sub (den_callB callD_len rfl Z.len_ (by decide +kernel) (dena_cons (dv 0) dena_nil)) den_int) dena_nil)))))) (denss_cons dens_never
    denss_nil) denss_nil)
    denss_nil)
theorem sc_taken_by : FnScope ["book", "rank", "row"] ["book", "rank"] (defScope s_taken_by) := ⟨rfl, rfl, rfl, by decide +kernel, rfl, by decide +kernel, by decide +kernel⟩
theorem fn_taken_by (d : Df K mg "taken_by" s_taken_by ["book", "rank"]) (Z : Blt2 mg) (Y : ImpsP mg) : Fd P w K mg base "taken_by" 1 2 F_taken_by := by
  have nd := sc_taken_by.nd
  exact Fd.of (B := B_taken_by) d sc_taken_by rfl fun f cdv A outer s H E hr => (denss_cons (dens_ret (den_listAcc (den_frz (denn_lc (vs := [2]) [("row", 2)] rfl nd (deni_seq (dv 0)) (blkOk_by (by rfl)) (fun _ _ _ _ _ => (deng_name 2 nd rfl (by first | exact .inl rfl | exact .inr rfl))) (fun _ _ _ _ _ => dents_nil) (fun _ _ _ _ _ => (den_count (dv 2) (dv 1) hr.units)))) rfl rfl Z.list_ rfl Y.acc))
    denss_nil)
theorem sc_told_of : FnScope ["hall", "turns", "rank", "behind", "gone", "over", "own", "rows", "least", "most", "row", "passed", "one", "column", "desk", "_"] ["hall", "turns", "rank", "behind", "gone"] (defScope s_told_of) := ⟨rfl, rfl, rfl, by decide +kernel, rfl, by decide +kernel, by decide +kernel⟩
theorem fn_told_of (d : Df K mg "told_of" s_told_of ["hall", "turns", "rank", "behind", "gone"]) (Z : Blt2 mg) (Y : ImpsP mg) (g_NOBODY : ∃ t, mg "NOBODY" = some (.int (4) t)) : Fd P w K mg base "told_of" 1 5 F_told_of := by
  have nd := sc_told_of.nd
  exact Fd.of (B := B_told_of) d sc_told_of rfl fun f cdv A outer s H E hr => (denss_cons (dens_setDc (vs := [12]) 5 [("one", 12)] rfl nd rfl rfl (swD_true rfl rfl rfl (by decide +kernel)) (deni_seq (den_tup (dena_cons (den_glb g_NOBODY rfl) (dena_star (dv 3) dena_nil)))) (blkOk_by (by rfl)) (fun _ _ _ _ _ => (deng_name 12 nd rfl (by first | exact .inl rfl | exact .inr rfl))) (fun _ _ _ _ _ => dents_nil) (fun _ _ _ _ _ => (dv 12)) (fun _ _ _ _ _ => den_bl))
    (denss_cons (dens_setLc (vs := [13, 14]) 6 [("column", 13), ("desk", 14)] rfl nd rfl rfl (sw_true rfl rfl rfl (by decide +kernel)) (deni_zip2 rfl Z.zip_ (dena_cons (dv 1) (dena_cons (den_ix (dv 0) den_int) dena_nil))) (blkOk_by (by rfl)) (fun _ _ _ _ _ => (deng_tup (n := 2) rfl (dengs_cons (deng_name 13 nd rfl (by first | exact .inl rfl | exact .inr rfl)) (dengs_cons (deng_name 14 nd rfl (by first | exact .inl rfl | exact .inr rfl)) dengs_nil)))) (fun _ _ _ _ _ => (dents_one (dent_cmp opD_in (dv 2) (dv 14)))) (fun _ _ _ _ _ => (dv 13)))
    (denss_cons (dens_set 7 nd rfl (by first | exact .inl rfl | exact .inr rfl) (den_if (dent_val (dv 6)) (den_listZipS (dv 6) rfl rfl Z.list_ rfl Z.zip_) (den_frz (denn_lc (vs := [15]) [("_", 15)] rfl nd (deni_seq (den_ix (dv 1) den_int)) (blkOk_by (by rfl)) (fun _ _ _ _ _ => (deng_name 15 nd rfl (by first | exact .inl rfl | exact .inr rfl))) (fun _ _ _ _ _ => dents_nil) (fun _ _ _ _ _ => (den_tup dena_nil))))))
    (denss_cons (dens_setN 8 0 nd rfl (by first | exact .inl rfl | exact .inr rfl) (denn_lst dena_nil))
    (denss_cons (dens_setN 9 0 nd rfl (by first | exact .inl rfl | exact .inr rfl) (denn_lst dena_nil))
    (denss_cons (dens_for PassesOwn.never rfl (deni_seq (dv 7)) (deng_name 10 nd rfl (by first | exact .inl rfl | exact .inr rfl)) (denss_cons (dens_set 11 nd rfl (by first | exact .inl rfl | exact .inr rfl) den_non)
    (denss_cons (dens_for PassesOwn.never rfl (deni_seq (dv 10)) (deng_name 12 nd rfl (by first | exact .inl rfl | exact .inr rfl)) (denss_cons (dens_if (dent_cmp (opD_eq hr.units) (dv 12) (dv 2)) (denss_cons (dens_aug 4 opD_iadd nd rfl (by first | exact .inl rfl | exact .inr rfl) den_int)
    denss_nil) (denss_cons (dens_if (dent_w (denw_and (dent_cmp (opD_inK hr.units0') (dv 12) (dv 5)) (denw_and1 (dent_isN (dv 11))))) (denss_cons (dens_set 11 nd rfl (by first | exact .inl rfl | exact .inr rfl) (dv 4))
    denss_nil) denss_nil)
    denss_nil))
    denss_nil))
    (denss_cons (dens_app 8 rfl (by first | exact .inl rfl | exact .inr (.inl rfl) | exact .inr (.inr rfl)) (dv 4))
    (denss_cons (dens_app 9 rfl (by first | exact .inl rfl | exact .inr (.inl rfl) | exact .inr (.inr rfl)) (dv 11))
    denss_nil)))))
    (denss_frz 9 (denss_frz 8 (denss_cons (dens_ret (den_tup (dena_cons (dv 8) (dena_cons (dv 9) dena_nil))))
    denss_nil)))))))))
theorem sc_told_with : FnScope ["told", "looks", "rank", "taken", "least", "most", "tick", "one", "few", "many"] ["told", "looks", "rank"] (defScope s_told_with) := ⟨rfl, rfl, rfl, by decide +kernel, rfl, by decide +kernel, by decide +kernel⟩
theorem fn_told_with (d : Df K mg "told_with" s_told_with ["told", "looks", "rank"]) (Z : Blt2 mg) (Y : ImpsP mg) : Fd P w K mg base "told_with" 1 3 F_told_with := by
  have nd := sc_told_with.nd
  exact Fd.of (B := B_told_with) d sc_told_with rfl fun f cdv A outer s H E hr => (denss_cons (dens_set 3 nd rfl (by first | exact .inl rfl | exact .inr rfl) (den_ix (dv 0) den_int))
    (denss_cons (dens_setN 4 0 nd rfl (by first | exact .inl rfl | exact .inr rfl) (denn_listc rfl Z.list_ (dena_cons (dv 3) dena_nil)))
    (denss_cons (dens_setN 5 0 nd rfl (by first | exact .inl rfl | exact .inr rfl) (denn_listc rfl Z.list_ (dena_cons (den_ix (dv 0) den_int) dena_nil)))
    (denss_cons (dens_for PassesOwn.never rfl (deni_seq (dv 1)) (deng_tup (n := 4) rfl (dengs_cons (deng_name 6 nd rfl (by first | exact .inl rfl | exact .inr rfl)) (dengs_cons (deng_name 7 nd rfl (by first | exact .inl rfl | exact .inr rfl)) (dengs_cons (deng_name 8 nd rfl (by first | exact .inl rfl | exact .inr rfl)) (dengs_cons (deng_name 9 nd rfl (by first | exact .inl rfl | exact .inr rfl)) dengs_nil))))) (denss_cons (dens_if (dent_cmp (opD_eq hr.units) (dv 7) (dv 2)) (denss_cons (dens_put 4 rfl (by first | exact .inl rfl | exact .inr (.inl rfl) | exact .inr (.inr rfl)) (den_lend (den_callB (callD_max2 rfl) rfl Z.max_ (by decide +kernel) (dena_cons (den_ix (dv 4) (dv 6)) (dena_cons (den_bin opD_add (den_ix (dv 3) (dv 6)) (dv 8)) dena_nil)))) (dv 6))
    (denss_cons (dens_put 5 rfl (by first | exact .inl rfl | exact .inr (.inl rfl) | exact .inr (.inr rfl)) (den_lend (den_if (dent_isN (den_ix (dv 5) (dv 6))) (den_bin opD_add (den_ix (dv 3) (dv 6)) (dv 9)) (den_callB (callD_min2 rfl) rfl Z.min_ (by decide +kernel) (dena_cons (den_ix (dv 5) (dv 6)) (dena_cons (den_bin opD_add (den_ix (dv 3) (dv 6)) (dv 9)) dena_nil))))) (dv 6))
    denss_nil)) denss_nil)
    denss_nil))
    (denss_frz 5 (denss_frz 4 (denss_cons (dens_ret (den_tup (dena_cons (dv 4) (dena_cons (dv 5) dena_nil))))
    denss_nil)))))))
theorem sc_ranks_behind : FnScope ["hall", "rank"] ["hall", "rank"] (defScope s_ranks_behind) := ⟨rfl, rfl, rfl, by decide +kernel, rfl, by decide +kernel, by decide +kernel⟩
theorem fn_ranks_behind (d : Df K mg "ranks_behind" s_ranks_behind ["hall", "rank"]) (Z : Blt2 mg) (Y : ImpsP mg) : Fd P w K mg base "ranks_behind" 1 2 F_ranks_behind := by
  have nd := sc_ranks_behind.nd
  exact Fd.of (B := B_ranks_behind) d sc_ranks_behind rfl fun f cdv A outer s H E hr => (denss_cons (dens_ret (den_tupRange2 rfl Z.tuple_ rfl Z.range_ rfl (den_bin opD_add (dv 1) den_int) (den_callB callD_len rfl Z.len_ (by decide +kernel) (dena_cons (den_ix (dv 0) den_int) dena_nil))))
    denss_nil)
theorem sc_steps_up : FnScope ["told", "most", "low", "high", "steps", "least", "limit"] ["told", "most", "low", "high"] (defScope s_steps_up) := ⟨rfl, rfl, rfl, by decide +kernel, rfl, by decide +kernel, by decide +kernel⟩
theorem fn_steps_up (d : Df K mg "steps_up" s_steps_up ["told", "most", "low", "high"]) (Z : Blt2 mg) (Y : ImpsP mg) : Fd P w K mg base "steps_up" 1 4 F_steps_up := by
  have nd := sc_steps_up.nd
  exact Fd.of (B := B_steps_up) d sc_steps_up rfl fun f cdv A outer s H E hr => (denss_cons (dens_setN 4 0 nd rfl (by first | exact .inl rfl | exact .inr rfl) (denn_lst dena_nil))
    (denss_cons (dens_for PassesOwn.never rfl (deni_zip2 rfl Z.zip_ (dena_cons (den_ix (dv 0) den_int) (dena_cons (den_ix (dv 0) den_int) dena_nil))) (deng_tup (n := 2) rfl (dengs_cons (deng_name 5 nd rfl (by first | exact .inl rfl | exact .inr rfl)) (dengs_cons (deng_name 6 nd rfl (by first | exact .inl rfl | exact .inr rfl)) dengs_nil))) (denss_cons (dens_aug 3 opD_iadd nd rfl (by first | exact .inl rfl | exact .inr rfl) (dv 1))
    (denss_cons (dens_if (dent_w (denw_and (dent_notN (dv 6)) (denw_and1 (dent_cmp (opD_lt hr.units0) (dv 6) (dv 3))))) (denss_cons (dens_set 3 nd rfl (by first | exact .inl rfl | exact .inr rfl) (dv 6))
    denss_nil) denss_nil)
    (denss_cons (dens_if (dent_cmp opD_gt (dv 5) (dv 2)) (denss_cons (dens_set 2 nd rfl (by first | exact .inl rfl | exact .inr rfl) (dv 5))
    denss_nil) denss_nil)
    (denss_cons (dens_app 4 rfl (by first | exact .inl rfl | exact .inr (.inl rfl) | exact .inr (.inr rfl)) (den_tup (dena_cons (dv 2) (dena_cons (dv 3) dena_nil))))
    (denss_cons (dens_if (dent_cmp opD_gt (dv 2) (dv 3)) (denss_cons dens_break
    denss_nil) denss_nil)
    denss_nil))))))
    (denss_frz 4 (denss_cons (dens_ret (dv 4))
    denss_nil))))
theorem sc_is_barred : FnScope ["steps", "low", "high"] ["steps"] (defScope s_is_barred) := ⟨rfl, rfl, rfl, by decide +kernel, rfl, by decide +kernel, by decide +kernel⟩
theorem fn_is_barred (d : Df K mg "is_barred" s_is_barred ["steps"]) (Z : Blt2 mg) (Y : ImpsP mg) : Fd P w K mg base "is_barred" 1 1 F_is_barred := by
  have nd := sc_is_barred.nd
  exact Fd.of (B := B_is_barred) d sc_is_barred rfl fun f cdv A outer s H E hr => (denss_cons (dens_asg (den_ix (dv 0) (den_neg den_int)) (deng_tup (n := 2) rfl (dengs_cons (deng_name 1 nd rfl (by first | exact .inl rfl | exact .inr rfl)) (dengs_cons (deng_name 2 nd rfl (by first | exact .inl rfl | exact .inr rfl)) dengs_nil))))
    (denss_cons (dens_ret (den_cmp opD_gt (dv 1) (dv 2)))
    denss_nil))
theorem sc_steps_down : FnScope ["steps", "most", "low", "high", "found", "low_up", "high_up"] ["steps", "most"] (defScope s_steps_down) := ⟨rfl, rfl, rfl, by decide +kernel, rfl, by decide +kernel, by decide +kernel⟩
theorem fn_steps_down (d : Df K mg "steps_down" s_steps_down ["steps", "most"]) (Z : Blt2 mg) (Y : ImpsP mg) : FdN P w K mg base "steps_down" 1 2 1 F_steps_down := by
  have nd := sc_steps_down.nd
  exact FdN.of (B := B_steps_down) d sc_steps_down rfl fun f cdv A outer s H E hr => (denssN_cons (dens_asg (den_ix (dv 0) (den_neg den_int)) (deng_tup (n := 2) rfl (dengs_cons (deng_name 2 nd rfl (by first | exact .inl rfl | exact .inr rfl)) (dengs_cons (deng_name 3 nd rfl (by first | exact .inl rfl | exact .inr rfl)) dengs_nil)))) (denssN_cons (dens_setN 4 0 nd rfl (by first | exact .inl rfl | exact .inr rfl) (denn_lst dena_nil)) (denssN_cons (dens_for PassesOwn.never rfl (deni_rev rfl Z.reversed_ (dena_cons (dv 0) dena_nil)) (deng_tup (n := 2) rfl (dengs_cons (deng_name 5 nd rfl (by first | exact .inl rfl | exact .inr rfl)) (dengs_cons (deng_name 6 nd rfl (by first | exact .inl rfl | exact .inr rfl)) dengs_nil))) (denss_cons (dens_set 2 nd rfl (by first | exact .inl rfl | exact .inr rfl) (den_if (dent_cmp opD_gt (dv 5) (den_bin opD_sub (dv 2) (dv 1))) (dv 5) (den_bin opD_sub (dv 2) (dv 1))))
    (denss_cons (dens_set 3 nd rfl (by first | exact .inl rfl | exact .inr rfl) (den_if (dent_cmp (opD_lt hr.units0) (dv 6) (dv 3)) (dv 6) (dv 3)))
    (denss_cons (dens_app 4 rfl (by first | exact .inl rfl | exact .inr (.inl rfl) | exact .inr (.inr rfl)) (den_tup (dena_cons (dv 2) (dena_cons (dv 3) dena_nil))))
    denss_nil)))) (denssN_frz 4 (denssN_ret (denn_revL (dv 4)))))))
theorem sc_rank_up : FnScope ["hall", "turns", "looks", "rank", "told"] ["hall", "turns", "looks", "rank"] (defScope s_rank_up) := ⟨rfl, rfl, rfl, by decide +kernel, rfl, by decide +kernel, by decide +kernel⟩
theorem fn_rank_up (d : Df K mg "rank_up" s_rank_up ["hall", "turns", "looks", "rank"]) (Z : Blt2 mg) (Y : ImpsP mg) (h_told_of : Fd P w K mg base "told_of" 1 5 F_told_of) (h_ranks_behind : Fd P w K mg base "ranks_behind" 1 2 F_ranks_behind) (h_steps_up : Fd P w K mg base "steps_up" 1 4 F_steps_up) (h_told_with : Fd P w K mg base "told_with" 1 3 F_told_with) : Fd P w K mg base "rank_up" 2 4 F_rank_up := by
  have nd := sc_rank_up.nd
  exact Fd.of (B := B_rank_up) d sc_rank_up rfl fun f cdv A outer s H E hr => (denss_cons (dens_set 4 nd rfl (by first | exact .inl rfl | exact .inr rfl) (den_call h_told_of (hr.mono (by decide)) rfl (dena_cons (dv 0) (dena_cons (dv 1) (dena_cons (dv 3) (dena_cons (den_call h_ranks_behind (hr.mono (by decide)) rfl (dena_cons (dv 0) (dena_cons (dv 3) dena_nil))) (dena_cons den_int dena_nil)))))))
    (denss_cons (dens_ret (den_call h_steps_up (hr.mono (by decide)) rfl (dena_cons (den_if (dent_val (dv 2)) (den_call h_told_with (hr.mono (by decide)) rfl (dena_cons (dv 4) (dena_cons (dv 2) (dena_cons (dv 3) dena_nil)))) (dv 4)) (dena_cons (den_ix (den_ix (den_ix (dv 0) den_int) (dv 3)) den_int) (dena_cons den_int (dena_cons den_int dena_nil))))))
    denss_nil))
theorem sc_all_up : FnScope ["hall", "columns", "looks", "turns", "found", "rank", "steps"] ["hall", "columns", "looks"] (defScope s_all_up) := ⟨rfl, rfl, rfl, by decide +kernel, rfl, by decide +kernel, by decide +kernel⟩
theorem fn_all_up (d : Df K mg "all_up" s_all_up ["hall", "columns", "looks"]) (Z : Blt2 mg) (Y : ImpsP mg) (h_all_turns : Fd P w K mg base "all_turns" 2 2 F_all_turns) (h_rank_up : Fd P w K mg base "rank_up" 2 4 F_rank_up) (h_is_barred : Fd P w K mg base "is_barred" 1 1 F_is_barred) : Fd P w K mg base "all_up" 3 3 F_all_up := by
  have nd := sc_all_up.nd
  exact Fd.of (B := B_all_up) d sc_all_up rfl fun f cdv A outer s H E hr => (denss_cons (dens_set 3 nd rfl (by first | exact .inl rfl | exact .inr rfl) (den_call h_all_turns (hr.mono (by decide)) rfl (dena_cons (dv 0) (dena_cons (dv 1) dena_nil))))
    (denss_cons (dens_setN 4 0 nd rfl (by first | exact .inl rfl | exact .inr rfl) (denn_lst dena_nil))
    (denss_cons (dens_for PassesOwn.never rfl (deni_range1 rfl Z.range_ (dena_cons (den_callB callD_len rfl Z.len_ (by decide +kernel) (dena_cons (den_ix (dv 0) den_int) dena_nil)) dena_nil)) (deng_name 5 nd rfl (by first | exact .inl rfl | exact .inr rfl)) (denss_cons (dens_set 6 nd rfl (by first | exact .inl rfl | exact .inr rfl) (den_call h_rank_up (hr.mono (by decide)) rfl (dena_cons (dv 0) (dena_cons (dv 3) (dena_cons (dv 2) (dena_cons (dv 5) dena_nil))))))
    (denss_cons (dens_if (dent_val (den_call h_is_barred (hr.mono (by decide)) rfl (dena_cons (dv 6) dena_nil))) (denss_cons (dens_ret den_non)
    denss_nil) denss_nil)
    (denss_cons (dens_app 4 rfl (by first | exact .inl rfl | exact .inr (.inl rfl) | exact .inr (.inr rfl)) (dv 6))
    denss_nil))))
    (denss_frz 4 (denss_cons (dens_ret (dv 4))
    denss_nil)))))
theorem sc_all_steps : FnScope ["hall", "columns", "looks", "every", "steps", "most", "_"] ["hall", "columns", "looks"] (defScope s_all_steps) := ⟨rfl, rfl, rfl, by decide +kernel, rfl, by decide +kernel, by decide +kernel⟩
theorem fn_all_steps (d : Df K mg "all_steps" s_all_steps ["hall", "columns", "looks"]) (Z : Blt2 mg) (Y : ImpsP mg) (h_all_up : Fd P w K mg base "all_up" 3 3 F_all_up) (h_steps_down : FdN P w K mg base "steps_down" 1 2 1 F_steps_down) : Fd P w K mg base "all_steps" 4 3 F_all_steps := by
  have nd := sc_all_steps.nd
  exact Fd.of (B := B_all_steps) d sc_all_steps rfl fun f cdv A outer s H E hr => (denss_cons (dens_set 3 nd rfl (by first | exact .inl rfl | exact .inr rfl) (den_call h_all_up (hr.mono (by decide)) rfl (dena_cons (dv 0) (dena_cons (dv 1) (dena_cons (dv 2) dena_nil)))))
    (denss_cons (dens_ret (den_if (dent_isN (dv 3)) den_non (den_frz (denn_lc (vs := [4, 5, 6]) [("steps", 4), ("most", 5), ("_", 6)] rfl nd (deni_zip2 rfl Z.zip_ (dena_cons (dv 3) (dena_cons (den_ix (dv 0) den_int) dena_nil))) (blkOk_by (by rfl)) (fun _ _ _ _ _ => (deng_tup (n := 2) rfl (dengs_cons (deng_name 4 nd rfl (by first | exact .inl rfl | exact .inr rfl)) (dengs_cons (deng_tup (n := 2) rfl (dengs_cons (deng_name 5 nd rfl (by first | exact .inl rfl | exact .inr rfl)) (dengs_cons (deng_name 6 nd rfl (by first | exact .inl rfl | exact .inr rfl)) dengs_nil))) dengs_nil)))) (fun _ _ _ _ _ => dents_nil) (fun _ _ _ _ _ => (den_frz (denn_call h_steps_down (hr.mono (by decide)) rfl (dena_cons (dv 4) (dena_cons (dv 5) dena_nil)))))))))
    denss_nil))
theorem sc_steps_of : FnScope ["hall", "columns", "looks", "rank", "every"] ["hall", "columns", "looks", "rank"] (defScope s_steps_of) := ⟨rfl, rfl, rfl, by decide +kernel, rfl, by decide +kernel, by decide +kernel⟩
theorem fn_steps_of (d : Df K mg "steps_of" s_steps_of ["hall", "columns", "looks", "rank"]) (Z : Blt2 mg) (Y : ImpsP mg) (h_all_up : Fd P w K mg base "all_up" 3 3 F_all_up) (h_steps_down : FdN P w K mg base "steps_down" 1 2 1 F_steps_down) : FdO P w K mg base "steps_of" 4 4 1 F_steps_of := by
  have nd := sc_steps_of.nd
  exact FdO.of (B := B_steps_of) d sc_steps_of rfl fun f cdv A outer s H E hr => (denssO_cons (dens_set 4 nd rfl (by first | exact .inl rfl | exact .inr rfl) (den_call h_all_up (hr.mono (by decide)) rfl (dena_cons (dv 0) (dena_cons (dv 1) (dena_cons (dv 2) dena_nil))))) (denssO_ret (denno_if (dent_isN (dv 4)) denno_non (denno_of (denn_call h_steps_down (hr.mono (by decide)) rfl (dena_cons (den_ix (dv 4) (dv 3)) (dena_cons (den_ix (den_ix (den_ix (dv 0) den_int) (dv 3)) den_int) dena_nil)))))))
theorem sc_stairs : FnScope ["hall", "book", "looks", "rank", "columns"] ["hall", "book", "looks", "rank"] (defScope s_stairs) := ⟨rfl, rfl, rfl, by decide +kernel, rfl, by decide +kernel, by decide +kernel⟩
theorem fn_stairs (d : Df K mg "stairs" s_stairs ["hall", "book", "looks", "rank"]) (Z : Blt2 mg) (Y : ImpsP mg) (h_need_written : Fd P w K mg base "need_written" 6 3 F_need_written) (h_need_rank : Fd P w K mg base "need_rank" 3 2 F_need_rank) (h_steps_of : FdO P w K mg base "steps_of" 4 4 1 F_steps_of) : FdO P w K mg base "stairs" 7 4 1 F_stairs := by
  have nd := sc_stairs.nd
  exact FdO.of (B := B_stairs) d sc_stairs rfl fun f cdv A outer s H E hr => (denssO_cons (dens_set 4 nd rfl (by first | exact .inl rfl | exact .inr rfl) (den_call h_need_written (hr.mono (by decide)) rfl (dena_cons (dv 0) (dena_cons (dv 1) (dena_cons (dv 2) dena_nil))))) (denssO_cons (dens_expr (den_call h_need_rank (hr.mono (by decide)) rfl (dena_cons (dv 0) (dena_cons (dv 3) dena_nil)))) (denssO_ret (denno_call h_steps_of (hr.mono (by decide)) rfl (dena_cons (dv 0) (dena_cons (dv 4) (dena_cons (dv 2) (dena_cons (dv 3) dena_nil))))))))
theorem sc_can_be : FnScope ["hall", "book", "looks", "columns"] ["hall", "book", "looks"] (defScope s_can_be) := ⟨rfl, rfl, rfl, by decide +kernel, rfl, by decide +kernel, by decide +kernel⟩
theorem fn_can_be (d : Df K mg "can_be" s_can_be ["hall", "book", "looks"]) (Z : Blt2 mg) (Y : ImpsP mg) (h_need_written : Fd P w K mg base "need_written" 6 3 F_need_written) (h_all_up : Fd P w K mg base "all_up" 3 3 F_all_up) : Fd P w K mg base "can_be" 7 3 F_can_be := by
  have nd := sc_can_be.nd
  exact Fd.of (B := B_can_be) d sc_can_be rfl fun f cdv A outer s H E hr => (denss_cons (dens_set 3 nd rfl (by first | exact .inl rfl | exact .inr rfl) (den_call h_need_written (hr.mono (by decide)) rfl (dena_cons (dv 0) (dena_cons (dv 1) (dena_cons (dv 2) dena_nil)))))
    (denss_cons (dens_ret (dene_notN (den_call h_all_up (hr.mono (by decide)) rfl (dena_cons (dv 0) (dena_cons (dv 3) (dena_cons (dv 2) dena_nil))))))
    denss_nil))
theorem sc_first_bar : FnScope ["hall", "book", "turns", "every", "rank", "steps"] ["hall", "book"] (defScope s_first_bar) := ⟨rfl, rfl, rfl, by decide +kernel, rfl, by decide +kernel, by decide +kernel⟩
theorem fn_first_bar (d : Df K mg "first_bar" s_first_bar ["hall", "book"]) (Z : Blt2 mg) (Y : ImpsP mg) (h_need_hall : Fd P w K mg base "need_hall" 5 1 F_need_hall) (h_all_turns : Fd P w K mg base "all_turns" 2 2 F_all_turns) (h_need_book : Fd P w K mg base "need_book" 4 2 F_need_book) (h_rank_up : Fd P w K mg base "rank_up" 2 4 F_rank_up) (h_is_barred : Fd P w K mg base "is_barred" 1 1 F_is_barred) : Fd P w K mg base "first_bar" 6 2 F_first_bar := by
  have nd := sc_first_bar.nd
  exact Fd.of (B := B_first_bar) d sc_first_bar rfl fun f cdv A outer s H E hr => (denss_cons (dens_expr (den_call h_need_hall (hr.mono (by decide)) rfl (dena_cons (dv 0) dena_nil)))
    (denss_cons (dens_set 2 nd rfl (by first | exact .inl rfl | exact .inr rfl) (den_call h_all_turns (hr.mono (by decide)) rfl (dena_cons (dv 0) (dena_cons (den_call h_need_book (hr.mono (by decide)) rfl (dena_cons (dv 0) (dena_cons (dv 1) dena_nil))) dena_nil))))
    (denss_cons (dens_setLc (vs := [4]) 3 [("rank", 4)] rfl nd rfl rfl (sw_true rfl rfl rfl (by decide +kernel)) (deni_range1 rfl Z.range_ (dena_cons (den_callB callD_len rfl Z.len_ (by decide +kernel) (dena_cons (den_ix (dv 0) den_int) dena_nil)) dena_nil)) (blkOk_by (by rfl)) (fun _ _ _ _ _ => (deng_name 4 nd rfl (by first | exact .inl rfl | exact .inr rfl))) (fun _ _ _ _ _ => dents_nil) (fun _ _ _ _ _ => (den_call h_rank_up (hr.mono (by decide)) rfl (dena_cons (dv 0) (dena_cons (dv 2) (dena_cons (den_tup dena_nil) (dena_cons (dv 4) dena_nil)))))))
    (denss_cons (dens_ret (den_minDef rfl hr.units (den_frz (denn_lc (vs := [5]) [("steps", 5)] rfl nd (deni_seq (dv 3)) (blkOk_by (by rfl)) (fun _ _ _ _ _ => (deng_name 5 nd rfl (by first | exact .inl rfl | exact .inr rfl))) (fun _ _ _ _ _ => (dents_one (dent_val (den_call h_is_barred (hr.mono (by decide)) rfl (dena_cons (dv 5) dena_nil))))) (fun _ _ _ _ _ => (den_bin opD_sub (den_callB callD_len rfl Z.len_ (by decide +kernel) (dena_cons (dv 5) dena_nil)) den_int)))) pe_non rfl Z.min_))
    denss_nil))))
theorem sc__first_bar_of : FnScope ["hall", "turns", "looks", "rank", "can_come", "least", "most", "told", "one", "at_most", "other", "at_least", "tick", "many"] ["hall", "turns", "looks", "rank"] (defScope s__first_bar_of) := ⟨rfl, rfl, rfl, by decide +kernel, rfl, by decide +kernel, by decide +kernel⟩
theorem fn__first_bar_of (d : Df K mg "_first_bar_of" s__first_bar_of ["hall", "turns", "looks", "rank"]) (Z : Blt2 mg) (Y : ImpsP mg) (h_told_with : Fd P w K mg base "told_with" 1 3 F_told_with) (h_told_of : Fd P w K mg base "told_of" 1 5 F_told_of) (h_ranks_behind : Fd P w K mg base "ranks_behind" 1 2 F_ranks_behind) : Fd P w K mg base "_first_bar_of" 2 4 F__first_bar_of := by
  have nd := sc__first_bar_of.nd
  exact Fd.of (B := B__first_bar_of) d sc__first_bar_of rfl fun f cdv A outer s H E hr => (denss_cons (dens_set 4 nd rfl (by first | exact .inl rfl | exact .inr rfl) (den_ix (den_ix (den_ix (dv 0) den_int) (dv 3)) den_int))
    (denss_cons (dens_asg (den_call h_told_with (hr.mono (by decide)) rfl (dena_cons (den_call h_told_of (hr.mono (by decide)) rfl (dena_cons (dv 0) (dena_cons (dv 1) (dena_cons (dv 3) (dena_cons (den_call h_ranks_behind (hr.mono (by decide)) rfl (dena_cons (dv 0) (dena_cons (dv 3) dena_nil))) (dena_cons den_int dena_nil)))))) (dena_cons (dv 2) (dena_cons (dv 3) dena_nil)))) (deng_tup (n := 2) rfl (dengs_cons (deng_name 5 nd rfl (by first | exact .inl rfl | exact .inr rfl)) (dengs_cons (deng_name 6 nd rfl (by first | exact .inl rfl | exact .inr rfl)) dengs_nil))))
    (denss_cons (dens_set 7 nd rfl (by first | exact .inl rfl | exact .inr rfl) (den_bin opD_add (den_lst (dena_cons (den_tup (dena_cons (den_neg den_int) (dena_cons den_int dena_nil))) dena_nil)) (den_frz (denn_lc (vs := [12, 13]) [("tick", 12), ("many", 13)] rfl nd (deni_enum rfl Z.enumerate_ (dena_cons (dv 6) dena_nil)) (blkOk_by (by rfl)) (fun _ _ _ _ _ => (deng_tup (n := 2) rfl (dengs_cons (deng_name 12 nd rfl (by first | exact .inl rfl | exact .inr rfl)) (dengs_cons (deng_name 13 nd rfl (by first | exact .inl rfl | exact .inr rfl)) dengs_nil)))) (fun _ _ _ _ _ => (dents_one (dent_notN (dv 13)))) (fun _ _ _ _ _ => (den_tup (dena_cons (dv 12) (dena_cons (dv 13) dena_nil))))))))
    (denss_cons (dens_for PassesOwn.never rfl (deni_seq (dv 7)) (deng_tup (n := 2) rfl (dengs_cons (deng_name 8 nd rfl (by first | exact .inl rfl | exact .inr rfl)) (dengs_cons (deng_name 9 nd rfl (by first | exact .inl rfl | exact .inr rfl)) dengs_nil))) (denss_cons (dens_for PassesOwn.never rfl (deni_enum rfl Z.enumerate_ (dena_cons (dv 5) dena_nil)) (deng_tup (n := 2) rfl (dengs_cons (deng_name 10 nd rfl (by first | exact .inl rfl | exact .inr rfl)) (dengs_cons (deng_name 11 nd rfl (by first | exact .inl rfl | exact .inr rfl)) dengs_nil))) (denss_cons (dens_if (dent_cmp opD_gt (dv 11) (den_bin opD_add (dv 9) (den_bin opD_mulB (dv 4) (den_callB (callD_max2 rfl) rfl Z.max_ (by decide +kernel) (dena_cons den_int (dena_cons (den_bin opD_sub (dv 10) (dv 8)) dena_nil)))))) (denss_cons (dens_ret (den_tup (dena_cons (dv 3) (dena_cons (dv 8) (dena_cons (dv 10) dena_nil)))))
    denss_nil) denss_nil)
    denss_nil))
    denss_nil))
    (denss_cons (dens_ret den_non)
    denss_nil)))))
theorem sc_bar : FnScope ["hall", "book", "looks", "turns", "rank"] ["hall", "book", "looks"] (defScope s_bar) := ⟨rfl, rfl, rfl, by decide +kernel, rfl, by decide +kernel, by decide +kernel⟩
theorem fn_bar (d : Df K mg "bar" s_bar ["hall", "book", "looks"]) (Z : Blt2 mg) (Y : ImpsP mg) (h_all_turns : Fd P w K mg base "all_turns" 2 2 F_all_turns) (h_need_written : Fd P w K mg base "need_written" 6 3 F_need_written) (h_is_barred : Fd P w K mg base "is_barred" 1 1 F_is_barred) (h_rank_up : Fd P w K mg base "rank_up" 2 4 F_rank_up) (h__first_bar_of : Fd P w K mg base "_first_bar_of" 2 4 F__first_bar_of) : Fd P w K mg base "bar" 7 3 F_bar := by
  have nd := sc_bar.nd
  exact Fd.of (B := B_bar) d sc_bar rfl fun f cdv A outer s H E hr => (denss_cons (dens_set 3 nd rfl (by first | exact .inl rfl | exact .inr rfl) (den_call h_all_turns (hr.mono (by decide)) rfl (dena_cons (dv 0) (dena_cons (den_call h_need_written (hr.mono (by decide)) rfl (dena_cons (dv 0) (dena_cons (dv 1) (dena_cons (dv 2) dena_nil)))) dena_nil))))
    (denss_cons (dens_for PassesOwn.never rfl (deni_range1 rfl Z.range_ (dena_cons (den_callB callD_len rfl Z.len_ (by decide +kernel) (dena_cons (den_ix (dv 0) den_int) dena_nil)) dena_nil)) (deng_name 4 nd rfl (by first | exact .inl rfl | exact .inr rfl)) (denss_cons (dens_if (dent_val (den_call h_is_barred (hr.mono (by decide)) rfl (dena_cons (den_call h_rank_up (hr.mono (by decide)) rfl (dena_cons (dv 0) (dena_cons (dv 3) (dena_cons (dv 2) (dena_cons (dv 4) dena_nil))))) dena_nil))) (denss_cons (dens_ret (den_call h__first_bar_of (hr.mono (by decide)) rfl (dena_cons (dv 0) (dena_cons (dv 3) (dena_cons (dv 2) (dena_cons (dv 4) dena_nil))))))
    denss_nil) denss_nil)
    denss_nil))
    (denss_cons (dens_ret den_non)
    denss_nil)))
theorem sc__taken_ahead : FnScope ["columns", "rank", "tick", "column"] ["columns", "rank", "tick"] (defScope s__taken_ahead) := ⟨rfl, rfl, rfl, by decide +kernel, rfl, by decide +kernel, by decide +kernel⟩
theorem fn__taken_ahead (d : Df K mg "_taken_ahead" s__taken_ahead ["columns", "rank", "tick"]) (Z : Blt2 mg) (Y : ImpsP mg) : Fd P w K mg base "_taken_ahead" 1 3 F__taken_ahead := by
  have nd := sc__taken_ahead.nd
  exact Fd.of (B := B__taken_ahead) d sc__taken_ahead rfl fun f cdv A outer s H E hr => (denss_cons (dens_ret (den_callB (callD_sum rfl) rfl Z.sum_ (by decide +kernel) (dena_cons (den_frz (denn_lc (vs := [3]) [("column", 3)] rfl nd (deni_seq (dv 0)) (blkOk_by (by rfl)) (fun _ _ _ _ _ => (deng_name 3 nd rfl (by first | exact .inl rfl | exact .inr rfl))) (fun _ _ _ _ _ => dents_nil) (fun _ _ _ _ _ => (den_count (den_slice (dv 3) deno_none (deno_some (dv 2))) (dv 1) hr.units)))) dena_nil)))
    denss_nil)
theorem sc__least_by : FnScope ["columns", "looks", "rank", "tick", "taken", "told", "at", "one", "least", "_"] ["columns", "looks", "rank", "tick"] (defScope s__least_by) := ⟨rfl, rfl, rfl, by decide +kernel, rfl, by decide +kernel, by decide +kernel⟩
theorem fn__least_by (d : Df K mg "_least_by" s__least_by ["columns", "looks", "rank", "tick"]) (Z : Blt2 mg) (Y : ImpsP mg) (h__taken_ahead : Fd P w K mg base "_taken_ahead" 1 3 F__taken_ahead) : Fd P w K mg base "_least_by" 2 4 F__least_by := by
  have nd := sc__least_by.nd
  exact Fd.of (B := B__least_by) d sc__least_by rfl fun f cdv A outer s H E hr => (denss_cons (dens_set 4 nd rfl (by first | exact .inl rfl | exact .inr rfl) (den_call h__taken_ahead (hr.mono (by decide)) rfl (dena_cons (dv 0) (dena_cons (dv 2) (dena_cons (den_bin opD_add (dv 3) den_int) dena_nil)))))
    (denss_cons (dens_set 5 nd rfl (by first | exact .inl rfl | exact .inr rfl) (dv 4))
    (denss_cons (dens_for PassesOwn.never rfl (deni_seq (dv 1)) (deng_tup (n := 4) rfl (dengs_cons (deng_name 6 nd rfl (by first | exact .inl rfl | exact .inr rfl)) (dengs_cons (deng_name 7 nd rfl (by first | exact .inl rfl | exact .inr rfl)) (dengs_cons (deng_name 8 nd rfl (by first | exact .inl rfl | exact .inr rfl)) (dengs_cons (deng_name 9 nd rfl (by first | exact .inl rfl | exact .inr rfl)) dengs_nil))))) (denss_cons (dens_if (dent_w (denw_and (dent_cmp (opD_eq hr.units) (dv 6) (dv 3)) (denw_and1 (dent_cmp (opD_eq hr.units) (dv 7) (dv 2))))) (denss_cons (dens_set 5 nd rfl (by first | exact .inl rfl | exact .inr rfl) (den_callB (callD_max2 rfl) rfl Z.max_ (by decide +kernel) (dena_cons (dv 5) (dena_cons (den_bin opD_add (dv 4) (dv 8)) dena_nil))))
    denss_nil) denss_nil)
    denss_nil))
    (denss_cons (dens_ret (dv 5))
    denss_nil))))
theorem sc__passed_by : FnScope ["hall", "columns", "rank", "tick", "taken", "column", "desk", "one", "passes"] ["hall", "columns", "rank", "tick"] (defScope s__passed_by) := ⟨rfl, rfl, rfl, by decide +kernel, rfl, by decide +kernel, by decide +kernel⟩
theorem fn__passed_by (d : Df K mg "_passed_by" s__passed_by ["hall", "columns", "rank", "tick"]) (Z : Blt2 mg) (Y : ImpsP mg) (h__taken_ahead : Fd P w K mg base "_taken_ahead" 1 3 F__taken_ahead) (h_free_from : Fd P w K mg base "free_from" 1 2 F_free_from) (h_all_stays : Fd P w K mg base "all_stays" 1 1 F_all_stays) : Fd P w K mg base "_passed_by" 2 4 F__passed_by := by
  have nd := sc__passed_by.nd
  exact Fd.of (B := B__passed_by) d sc__passed_by rfl fun f cdv A outer s H E hr => (denss_cons (dens_set 4 nd rfl (by first | exact .inl rfl | exact .inr rfl) (den_call h__taken_ahead (hr.mono (by decide)) rfl (dena_cons (dv 1) (dena_cons (dv 2) (dena_cons (dv 3) dena_nil)))))
    (denss_cons (dens_for PassesOwn.never rfl (deni_zip2 rfl Z.zip_ (dena_cons (dv 1) (dena_cons (den_ix (dv 0) den_int) dena_nil))) (deng_tup (n := 2) rfl (dengs_cons (deng_name 5 nd rfl (by first | exact .inl rfl | exact .inr rfl)) (dengs_cons (deng_name 6 nd rfl (by first | exact .inl rfl | exact .inr rfl)) dengs_nil))) (denss_cons (dens_set 7 nd rfl (by first | exact .inl rfl | exact .inr rfl) (den_ix (dv 5) (dv 3)))
    (denss_cons (dens_if (dent_isN (dv 7)) (denss_cons (dens_set 8 nd rfl (by first | exact .inl rfl | exact .inr rfl) (den_and (den_cmp opD_in (dv 2) (dv 6)) (den_one (den_cmp opD_le (den_call h_free_from (hr.mono (by decide)) rfl (dena_cons (den_call h_all_stays (hr.mono (by decide)) rfl (dena_cons (dv 0) dena_nil)) (dena_cons (den_slice (dv 5) deno_none (deno_some (dv 3))) dena_nil))) (dv 3)))))
    denss_nil) (denss_cons (dens_set 8 nd rfl (by first | exact .inl rfl | exact .inr rfl) (den_and (den_cmp opD_in (dv 2) (dv 6)) (den_one (den_cmp opD_gt (dv 7) (dv 2)))))
    denss_nil))
    (denss_cons (dens_if (dent_val (dv 8)) (denss_cons (dens_ret (dv 4))
    denss_nil) denss_nil)
    (denss_cons (dens_if (dent_cmp (opD_eq hr.units) (dv 7) (dv 2)) (denss_cons (dens_aug 4 opD_iadd nd rfl (by first | exact .inl rfl | exact .inr rfl) den_int)
    denss_nil) denss_nil)
    denss_nil)))))
    (denss_cons (dens_ret den_non)
    denss_nil)))
theorem sc__most_by : FnScope ["hall", "columns", "looks", "rank", "tick", "taken", "told", "at", "one", "_", "most"] ["hall", "columns", "looks", "rank", "tick"] (defScope s__most_by) := ⟨rfl, rfl, rfl, by decide +kernel, rfl, by decide +kernel, by decide +kernel⟩
theorem fn__most_by (d : Df K mg "_most_by" s__most_by ["hall", "columns", "looks", "rank", "tick"]) (Z : Blt2 mg) (Y : ImpsP mg) (h__taken_ahead : Fd P w K mg base "_taken_ahead" 1 3 F__taken_ahead) (h__passed_by : Fd P w K mg base "_passed_by" 2 4 F__passed_by) : Fd P w K mg base "_most_by" 3 5 F__most_by := by
  have nd := sc__most_by.nd
  exact Fd.of (B := B__most_by) d sc__most_by rfl fun f cdv A outer s H E hr => (denss_cons (dens_if (dent_cmp (opD_lt hr.units0) (dv 4) den_int) (denss_cons (dens_ret den_int)
    denss_nil) denss_nil)
    (denss_cons (dens_set 5 nd rfl (by first | exact .inl rfl | exact .inr rfl) (den_call h__taken_ahead (hr.mono (by decide)) rfl (dena_cons (dv 1) (dena_cons (dv 3) (dena_cons (den_bin opD_add (dv 4) den_int) dena_nil)))))
    (denss_cons (dens_set 6 nd rfl (by first | exact .inl rfl | exact .inr rfl) (den_call h__passed_by (hr.mono (by decide)) rfl (dena_cons (dv 0) (dena_cons (dv 1) (dena_cons (dv 3) (dena_cons (dv 4) dena_nil))))))
    (denss_cons (dens_for PassesOwn.never rfl (deni_seq (dv 2)) (deng_tup (n := 4) rfl (dengs_cons (deng_name 7 nd rfl (by first | exact .inl rfl | exact .inr rfl)) (dengs_cons (deng_name 8 nd rfl (by first | exact .inl rfl | exact .inr rfl)) (dengs_cons (deng_name 9 nd rfl (by first | exact .inl rfl | exact .inr rfl)) (dengs_cons (deng_name 10 nd rfl (by first | exact .inl rfl | exact .inr rfl)) dengs_nil))))) (denss_cons (dens_if (dent_w (denw_and (dent_cmp (opD_eq hr.units) (dv 7) (dv 4)) (denw_and1 (dent_cmp (opD_eq hr.units) (dv 8) (dv 3))))) (denss_cons (dens_set 6 nd rfl (by first | exact .inl rfl | exact .inr rfl) (den_if (dent_isN (dv 6)) (den_bin opD_add (dv 5) (dv 10)) (den_callB (callD_min2 rfl) rfl Z.min_ (by decide +kernel) (dena_cons (dv 6) (dena_cons (den_bin opD_add (dv 5) (dv 10)) dena_nil)))))
    denss_nil) denss_nil)
    denss_nil))
    (denss_cons (dens_ret (dv 6))
    denss_nil)))))
theorem sc_is_bar : FnScope ["hall", "book", "looks", "thing", "columns", "rank", "one", "other", "more", "most"] ["hall", "book", "looks", "thing"] (defScope s_is_bar) := ⟨rfl, rfl, rfl, by decide +kernel, rfl, by decide +kernel, by decide +kernel⟩
theorem fn_is_bar (d : Df K mg "is_bar" s_is_bar ["hall", "book", "looks", "thing"]) (Z : Blt2 mg) (Y : ImpsP mg) (h_need_written : Fd P w K mg base "need_written" 6 3 F_need_written) (h_are_whole : Fd P w K mg base "are_whole" 2 1 F_are_whole) (h_is_tuple : Fd P w K mg base "is_tuple" 1 3 F_is_tuple) (h__least_by : Fd P w K mg base "_least_by" 2 4 F__least_by) (h__taken_ahead : Fd P w K mg base "_taken_ahead" 1 3 F__taken_ahead) (h__most_by : Fd P w K mg base "_most_by" 3 5 F__most_by) : Fd P w K mg base "is_bar" 7 4 F_is_bar := by
  have nd := sc_is_bar.nd
  exact Fd.of (B := B_is_bar) d sc_is_bar rfl fun f cdv A outer s H E hr => (denss_cons (dens_set 4 nd rfl (by first | exact .inl rfl | exact .inr rfl) (den_call h_need_written (hr.mono (by decide)) rfl (dena_cons (dv 0) (dena_cons (dv 1) (dena_cons (dv 2) dena_nil)))))
    (denss_cons (dens_if (dent_w (denw_or (dent_not (dent_val (den_call h_is_tuple (hr.mono (by decide)) rfl (dena_cons (dv 3) (dena_cons den_int (dena_cons den_int dena_nil)))))) (denw_or1 (dent_not (dent_val (den_call h_are_whole (hr.mono (by decide)) rfl (dena_cons (dv 3) dena_nil))))))) (denss_cons (dens_ret den_bl)
    denss_nil) denss_nil)
    (denss_cons (dens_asg (dv 3) (deng_tup (n := 3) rfl (dengs_cons (deng_name 5 nd rfl (by first | exact .inl rfl | exact .inr rfl)) (dengs_cons (deng_name 6 nd rfl (by first | exact .inl rfl | exact .inr rfl)) (dengs_cons (deng_name 7 nd rfl (by first | exact .inl rfl | exact .inr rfl)) dengs_nil)))))
    (denss_cons (dens_if (dent_not (dent_w (denw_and (dent_chain opD_le (opD_lt hr.units0) den_int (dv 5) (den_callB callD_len rfl Z.len_ (by decide +kernel) (dena_cons (den_ix (dv 0) den_int) dena_nil))) (denw_and (dent_chain opD_le (opD_lt hr.units0) (den_neg den_int) (dv 6) (den_callB callD_len rfl Z.len_ (by decide +kernel) (dena_cons (dv 1) dena_nil))) (denw_and1 (dent_chain opD_le (opD_lt hr.units0) den_int (dv 7) (den_callB callD_len rfl Z.len_ (by decide +kernel) (dena_cons (dv 1) dena_nil)))))))) (denss_cons (dens_ret den_bl)
    denss_nil) denss_nil)
    (denss_cons (dens_set 8 nd rfl (by first | exact .inl rfl | exact .inr rfl) (den_bin opD_sub (den_call h__least_by (hr.mono (by decide)) rfl (dena_cons (dv 4) (dena_cons (dv 2) (dena_cons (dv 5) (dena_cons (dv 7) dena_nil))))) (den_bin opD_mulB (den_ix (den_ix (den_ix (dv 0) den_int) (dv 5)) den_int) (den_callB (callD_max2 rfl) rfl Z.max_ (by decide +kernel) (dena_cons den_int (dena_cons (den_bin opD_sub (dv 7) (dv 6)) dena_nil))))))
    (denss_cons (dens_if (dent_w (denw_or (dent_cmp opD_le (dv 8) den_int) (denw_or1 (dent_cmp opD_le (dv 8) (den_call h__taken_ahead (hr.mono (by decide)) rfl (dena_cons (dv 4) (dena_cons (dv 5) (dena_cons (den_callB (callD_max2 rfl) rfl Z.max_ (by decide +kernel) (dena_cons den_int (dena_cons (dv 6) dena_nil))) dena_nil)))))))) (denss_cons (dens_ret den_bl)
    denss_nil) denss_nil)
    (denss_cons (dens_set 9 nd rfl (by first | exact .inl rfl | exact .inr rfl) (den_call h__most_by (hr.mono (by decide)) rfl (dena_cons (dv 0) (dena_cons (dv 4) (dena_cons (dv 2) (dena_cons (dv 5) (dena_cons (dv 6) dena_nil)))))))
    (denss_cons (dens_ret (den_and (dene_notN (dv 9)) (den_one (den_cmp opD_gt (dv 8) (dv 9)))))
    denss_nil))))))))
theorem sc_need_comer : FnScope ["thing"] ["thing"] (defScope s_need_comer) := ⟨rfl, rfl, rfl, by decide +kernel, rfl, by decide +kernel, by decide +kernel⟩
theorem fn_need_comer (d : Df K mg "need_comer" s_need_comer ["thing"]) (Z : Blt2 mg) (Y : ImpsP mg) (h_is_whole : Fd P w K mg base "is_whole" 1 1 F_is_whole) : Fd P w K mg base "need_comer" 2 1 F_need_comer := by
  have nd := sc_need_comer.nd
  exact Fd.of (B := B_need_comer) d sc_need_comer rfl fun f cdv A outer s H E hr => (denss_cons (dens_if (dent_w (denw_or (dent_not (dent_val (den_call h_is_whole (hr.mono (by decide)) rfl (dena_cons (dv 0) dena_nil)))) (denw_or1 (dent_cmp (opD_lt hr.units0) (dv 0) den_int)))) (denss_cons dens_never
    denss_nil) denss_nil)
    denss_nil)
theorem sc_first_tick : FnScope ["by", "comer", "tick", "many"] ["by", "comer"] (defScope s_first_tick) := ⟨rfl, rfl, rfl, by decide +kernel, rfl, by decide +kernel, by decide +kernel⟩
theorem fn_first_tick (d : Df K mg "first_tick" s_first_tick ["by", "comer"]) (Z : Blt2 mg) (Y : ImpsP mg) : Fd P w K mg base "first_tick" 1 2 F_first_tick := by
  have nd := sc_first_tick.nd
  exact Fd.of (B := B_first_tick) d sc_first_tick rfl fun f cdv A outer s H E hr => (denss_cons (dens_for PassesOwn.never rfl (deni_enum rfl Z.enumerate_ (dena_cons (dv 0) dena_nil)) (deng_tup (n := 2) rfl (dengs_cons (deng_name 2 nd rfl (by first | exact .inl rfl | exact .inr rfl)) (dengs_cons (deng_name 3 nd rfl (by first | exact .inl rfl | exact .inr rfl)) dengs_nil))) (denss_cons (dens_if (dent_cmp opD_ge (dv 3) (dv 1)) (denss_cons (dens_ret (dv 2))
    denss_nil) denss_nil)
    denss_nil))
    (denss_cons (dens_ret den_non)
    denss_nil))
theorem sc_came : FnScope ["hall", "book", "looks", "rank", "comer", "columns", "steps", "_", "high", "low"] ["hall", "book", "looks", "rank", "comer"] (defScope s_came) := ⟨rfl, rfl, rfl, by decide +kernel, rfl, by decide +kernel, by decide +kernel⟩
theorem fn_came (d : Df K mg "came" s_came ["hall", "book", "looks", "rank", "comer"]) (Z : Blt2 mg) (Y : ImpsP mg) (h_need_written : Fd P w K mg base "need_written" 6 3 F_need_written) (h_need_rank : Fd P w K mg base "need_rank" 3 2 F_need_rank) (h_need_comer : Fd P w K mg base "need_comer" 2 1 F_need_comer) (h_steps_of : FdO P w K mg base "steps_of" 4 4 1 F_steps_of) (h_first_tick : Fd P w K mg base "first_tick" 1 2 F_first_tick) : Fd P w K mg base "came" 7 5 F_came := by
  have nd := sc_came.nd
  exact Fd.of (B := B_came) d sc_came rfl fun f cdv A outer s H E hr => (denss_cons (dens_set 5 nd rfl (by first | exact .inl rfl | exact .inr rfl) (den_call h_need_written (hr.mono (by decide)) rfl (dena_cons (dv 0) (dena_cons (dv 1) (dena_cons (dv 2) dena_nil)))))
    (denss_cons (dens_expr (den_call h_need_rank (hr.mono (by decide)) rfl (dena_cons (dv 0) (dena_cons (dv 3) dena_nil))))
    (denss_cons (dens_expr (den_call h_need_comer (hr.mono (by decide)) rfl (dena_cons (dv 4) dena_nil)))
    (denss_cons (dens_set 6 nd rfl (by first | exact .inl rfl | exact .inr rfl) (denno_frz (denno_call h_steps_of (hr.mono (by decide)) rfl (dena_cons (dv 0) (dena_cons (dv 5) (dena_cons (dv 2) (dena_cons (dv 3) dena_nil)))))))
    (denss_cons (dens_if (dent_isN (dv 6)) (denss_cons (dens_ret den_non)
    denss_nil) denss_nil)
    (denss_cons (dens_ret (den_tup (dena_cons (den_call h_first_tick (hr.mono (by decide)) rfl (dena_cons (den_frz (denn_lc (vs := [7, 8]) [("_", 7), ("high", 8)] rfl nd (deni_seq (dv 6)) (blkOk_by (by rfl)) (fun _ _ _ _ _ => (deng_tup (n := 2) rfl (dengs_cons (deng_name 7 nd rfl (by first | exact .inl rfl | exact .inr rfl)) (dengs_cons (deng_name 8 nd rfl (by first | exact .inl rfl | exact .inr rfl)) dengs_nil)))) (fun _ _ _ _ _ => dents_nil) (fun _ _ _ _ _ => (dv 8)))) (dena_cons (dv 4) dena_nil))) (dena_cons (den_call h_first_tick (hr.mono (by decide)) rfl (dena_cons (den_frz (denn_lc (vs := [9, 7]) [("low", 9), ("_", 7)] rfl nd (deni_seq (dv 6)) (blkOk_by (by rfl)) (fun _ _ _ _ _ => (deng_tup (n := 2) rfl (dengs_cons (deng_name 9 nd rfl (by first | exact .inl rfl | exact .inr rfl)) (dengs_cons (deng_name 7 nd rfl (by first | exact .inl rfl | exact .inr rfl)) dengs_nil)))) (fun _ _ _ _ _ => dents_nil) (fun _ _ _ _ _ => (dv 9)))) (dena_cons (dv 4) dena_nil))) dena_nil))))
    denss_nil))))))
theorem sc_taken : FnScope ["hall", "book", "rank", "comer"] ["hall", "book", "rank", "comer"] (defScope s_taken) := ⟨rfl, rfl, rfl, by decide +kernel, rfl, by decide +kernel, by decide +kernel⟩
theorem fn_taken (d : Df K mg "taken" s_taken ["hall", "book", "rank", "comer"]) (Z : Blt2 mg) (Y : ImpsP mg) (h_need_hall : Fd P w K mg base "need_hall" 5 1 F_need_hall) (h_need_book : Fd P w K mg base "need_book" 4 2 F_need_book) (h_need_rank : Fd P w K mg base "need_rank" 3 2 F_need_rank) (h_need_comer : Fd P w K mg base "need_comer" 2 1 F_need_comer) (h_first_tick : Fd P w K mg base "first_tick" 1 2 F_first_tick) (h_taken_by : Fd P w K mg base "taken_by" 1 2 F_taken_by) : Fd P w K mg base "taken" 6 4 F_taken := by
  have nd := sc_taken.nd
  exact Fd.of (B := B_taken) d sc_taken rfl fun f cdv A outer s H E hr => (denss_cons (dens_expr (den_call h_need_hall (hr.mono (by decide)) rfl (dena_cons (dv 0) dena_nil)))
    (denss_cons (dens_expr (den_call h_need_book (hr.mono (by decide)) rfl (dena_cons (dv 0) (dena_cons (dv 1) dena_nil))))
    (denss_cons (dens_expr (den_call h_need_rank (hr.mono (by decide)) rfl (dena_cons (dv 0) (dena_cons (dv 2) dena_nil))))
    (denss_cons (dens_expr (den_call h_need_comer (hr.mono (by decide)) rfl (dena_cons (dv 3) dena_nil)))
    (denss_cons (dens_ret (den_call h_first_tick (hr.mono (by decide)) rfl (dena_cons (den_call h_taken_by (hr.mono (by decide)) rfl (dena_cons (dv 1) (dena_cons (dv 2) dena_nil))) (dena_cons (dv 3) dena_nil))))
    denss_nil)))))
theorem sc_waits : FnScope ["hall", "book", "looks", "rank", "columns", "steps", "by", "least", "low", "_", "gone", "high"] ["hall", "book", "looks", "rank"] (defScope s_waits) := ⟨rfl, rfl, rfl, by decide +kernel, rfl, by decide +kernel, by decide +kernel⟩
theorem fn_waits (d : Df K mg "waits" s_waits ["hall", "book", "looks", "rank"]) (Z : Blt2 mg) (Y : ImpsP mg) (h_need_written : Fd P w K mg base "need_written" 6 3 F_need_written) (h_need_rank : Fd P w K mg base "need_rank" 3 2 F_need_rank) (h_steps_of : FdO P w K mg base "steps_of" 4 4 1 F_steps_of) (h_taken_by : Fd P w K mg base "taken_by" 1 2 F_taken_by) : Fd P w K mg base "waits" 7 4 F_waits := by
  have nd := sc_waits.nd
  exact Fd.of (B := B_waits) d sc_waits rfl fun f cdv A outer s H E hr => (denss_cons (dens_set 4 nd rfl (by first | exact .inl rfl | exact .inr rfl) (den_call h_need_written (hr.mono (by decide)) rfl (dena_cons (dv 0) (dena_cons (dv 1) (dena_cons (dv 2) dena_nil)))))
    (denss_cons (dens_expr (den_call h_need_rank (hr.mono (by decide)) rfl (dena_cons (dv 0) (dena_cons (dv 3) dena_nil))))
    (denss_cons (dens_set 5 nd rfl (by first | exact .inl rfl | exact .inr rfl) (denno_frz (denno_call h_steps_of (hr.mono (by decide)) rfl (dena_cons (dv 0) (dena_cons (dv 4) (dena_cons (dv 2) (dena_cons (dv 3) dena_nil)))))))
    (denss_cons (dens_if (dent_isN (dv 5)) (denss_cons (dens_ret den_non)
    denss_nil) denss_nil)
    (denss_cons (dens_set 6 nd rfl (by first | exact .inl rfl | exact .inr rfl) (den_call h_taken_by (hr.mono (by decide)) rfl (dena_cons (dv 1) (dena_cons (dv 3) dena_nil))))
    (denss_cons (dens_set 7 nd rfl (by first | exact .inl rfl | exact .inr rfl) (den_callB (callD_sum rfl) rfl Z.sum_ (by decide +kernel) (dena_cons (den_frz (denn_lc (vs := [8, 9, 10]) [("low", 8), ("_", 9), ("gone", 10)] rfl nd (deni_zip2 rfl Z.zip_ (dena_cons (dv 5) (dena_cons (dv 6) dena_nil))) (blkOk_by (by rfl)) (fun _ _ _ _ _ => (deng_tup (n := 2) rfl (dengs_cons (deng_tup (n := 2) rfl (dengs_cons (deng_name 8 nd rfl (by first | exact .inl rfl | exact .inr rfl)) (dengs_cons (deng_name 9 nd rfl (by first | exact .inl rfl | exact .inr rfl)) dengs_nil))) (dengs_cons (deng_name 10 nd rfl (by first | exact .inl rfl | exact .inr rfl)) dengs_nil)))) (fun _ _ _ _ _ => dents_nil) (fun _ _ _ _ _ => (den_bin opD_sub (den_callB (callD_min2 rfl) rfl Z.min_ (by decide +kernel) (dena_cons (dv 8) (dena_cons (den_ix (dv 6) (den_neg den_int)) dena_nil))) (dv 10))))) dena_nil)))
    (denss_cons (dens_ret (den_tup (dena_cons (dv 7) (dena_cons (den_callB (callD_sum rfl) rfl Z.sum_ (by decide +kernel) (dena_cons (den_frz (denn_lc (vs := [9, 11, 10]) [("_", 9), ("high", 11), ("gone", 10)] rfl nd (deni_zip2 rfl Z.zip_ (dena_cons (dv 5) (dena_cons (dv 6) dena_nil))) (blkOk_by (by rfl)) (fun _ _ _ _ _ => (deng_tup (n := 2) rfl (dengs_cons (deng_tup (n := 2) rfl (dengs_cons (deng_name 9 nd rfl (by first | exact .inl rfl | exact .inr rfl)) (dengs_cons (deng_name 11 nd rfl (by first | exact .inl rfl | exact .inr rfl)) dengs_nil))) (dengs_cons (deng_name 10 nd rfl (by first | exact .inl rfl | exact .inr rfl)) dengs_nil)))) (fun _ _ _ _ _ => dents_nil) (fun _ _ _ _ _ => (den_bin opD_sub (den_callB (callD_min2 rfl) rfl Z.min_ (by decide +kernel) (dena_cons (dv 11) (dena_cons (den_ix (dv 6) (den_neg den_int)) dena_nil))) (dv 10))))) dena_nil)) dena_nil))))
    denss_nil)))))))
theorem sc__left : FnScope ["steps", "book", "rank", "low", "high", "gone"] ["steps", "book", "rank"] (defScope s__left) := ⟨rfl, rfl, rfl, by decide +kernel, rfl, by decide +kernel, by decide +kernel⟩
theorem fn__left (d : Df K mg "_left" s__left ["steps", "book", "rank"]) (Z : Blt2 mg) (Y : ImpsP mg) (h_taken_by : Fd P w K mg base "taken_by" 1 2 F_taken_by) : Fd P w K mg base "_left" 2 3 F__left := by
  have nd := sc__left.nd
  exact Fd.of (B := B__left) d sc__left rfl fun f cdv A outer s H E hr => (denss_cons (dens_ret (den_frz (denn_lc (vs := [3, 4, 5]) [("low", 3), ("high", 4), ("gone", 5)] rfl nd (deni_zip2 rfl Z.zip_ (dena_cons (dv 0) (dena_cons (den_call h_taken_by (hr.mono (by decide)) rfl (dena_cons (dv 1) (dena_cons (dv 2) dena_nil))) dena_nil))) (blkOk_by (by rfl)) (fun _ _ _ _ _ => (deng_tup (n := 2) rfl (dengs_cons (deng_tup (n := 2) rfl (dengs_cons (deng_name 3 nd rfl (by first | exact .inl rfl | exact .inr rfl)) (dengs_cons (deng_name 4 nd rfl (by first | exact .inl rfl | exact .inr rfl)) dengs_nil))) (dengs_cons (deng_name 5 nd rfl (by first | exact .inl rfl | exact .inr rfl)) dengs_nil)))) (fun _ _ _ _ _ => dents_nil) (fun _ _ _ _ _ => (den_tup (dena_cons (den_bin opD_sub (dv 3) (dv 5)) (dena_cons (den_bin opD_sub (dv 4) (dv 5)) dena_nil)))))))
    denss_nil)
theorem sc_waiting : FnScope ["hall", "book", "looks", "rank", "tick", "columns", "steps"] ["hall", "book", "looks", "rank", "tick"] (defScope s_waiting) := ⟨rfl, rfl, rfl, by decide +kernel, rfl, by decide +kernel, by decide +kernel⟩
theorem fn_waiting (d : Df K mg "waiting" s_waiting ["hall", "book", "looks", "rank", "tick"]) (Z : Blt2 mg) (Y : ImpsP mg) (h_need_written : Fd P w K mg base "need_written" 6 3 F_need_written) (h_need_rank : Fd P w K mg base "need_rank" 3 2 F_need_rank) (h_need_tick : Fd P w K mg base "need_tick" 3 2 F_need_tick) (h_steps_of : FdO P w K mg base "steps_of" 4 4 1 F_steps_of) (h__left : Fd P w K mg base "_left" 2 3 F__left) : Fd P w K mg base "waiting" 7 5 F_waiting := by
  have nd := sc_waiting.nd
  exact Fd.of (B := B_waiting) d sc_waiting rfl fun f cdv A outer s H E hr => (denss_cons (dens_set 5 nd rfl (by first | exact .inl rfl | exact .inr rfl) (den_call h_need_written (hr.mono (by decide)) rfl (dena_cons (dv 0) (dena_cons (dv 1) (dena_cons (dv 2) dena_nil)))))
    (denss_cons (dens_expr (den_call h_need_rank (hr.mono (by decide)) rfl (dena_cons (dv 0) (dena_cons (dv 3) dena_nil))))
    (denss_cons (dens_expr (den_call h_need_tick (hr.mono (by decide)) rfl (dena_cons (dv 1) (dena_cons (dv 4) dena_nil))))
    (denss_cons (dens_set 6 nd rfl (by first | exact .inl rfl | exact .inr rfl) (denno_frz (denno_call h_steps_of (hr.mono (by decide)) rfl (dena_cons (dv 0) (dena_cons (dv 5) (dena_cons (dv 2) (dena_cons (dv 3) dena_nil)))))))
    (denss_cons (dens_ret (den_if (dent_isN (dv 6)) den_non (den_ix (den_call h__left (hr.mono (by decide)) rfl (dena_cons (dv 6) (dena_cons (dv 1) (dena_cons (dv 3) dena_nil)))) (dv 4))))
    denss_nil)))))
theorem sc_because : FnScope ["hall", "book", "looks", "rank", "other", "columns", "steps", "left", "least", "low", "_", "row", "high"] ["hall", "book", "looks", "rank", "other"] (defScope s_because) := ⟨rfl, rfl, rfl, by decide +kernel, rfl, by decide +kernel, by decide +kernel⟩
theorem fn_because (d : Df K mg "because" s_because ["hall", "book", "looks", "rank", "other"]) (Z : Blt2 mg) (Y : ImpsP mg) (h_need_written : Fd P w K mg base "need_written" 6 3 F_need_written) (h_need_rank : Fd P w K mg base "need_rank" 3 2 F_need_rank) (h_steps_of : FdO P w K mg base "steps_of" 4 4 1 F_steps_of) (h__left : Fd P w K mg base "_left" 2 3 F__left) : Fd P w K mg base "because" 7 5 F_because := by
  have nd := sc_because.nd
  exact Fd.of (B := B_because) d sc_because rfl fun f cdv A outer s H E hr => (denss_cons (dens_set 5 nd rfl (by first | exact .inl rfl | exact .inr rfl) (den_call h_need_written (hr.mono (by decide)) rfl (dena_cons (dv 0) (dena_cons (dv 1) (dena_cons (dv 2) dena_nil)))))
    (denss_cons (dens_expr (den_call h_need_rank (hr.mono (by decide)) rfl (dena_cons (dv 0) (dena_cons (dv 3) dena_nil))))
    (denss_cons (dens_expr (den_call h_need_rank (hr.mono (by decide)) rfl (dena_cons (dv 0) (dena_cons (dv 4) dena_nil))))
    (denss_cons (dens_set 6 nd rfl (by first | exact .inl rfl | exact .inr rfl) (denno_frz (denno_call h_steps_of (hr.mono (by decide)) rfl (dena_cons (dv 0) (dena_cons (dv 5) (dena_cons (dv 2) (dena_cons (dv 3) dena_nil)))))))
    (denss_cons (dens_if (dent_isN (dv 6)) (denss_cons (dens_ret den_non)
    denss_nil) denss_nil)
    (denss_cons (dens_set 7 nd rfl (by first | exact .inl rfl | exact .inr rfl) (den_call h__left (hr.mono (by decide)) rfl (dena_cons (dv 6) (dena_cons (dv 1) (dena_cons (dv 3) dena_nil)))))
    (denss_cons (dens_set 8 nd rfl (by first | exact .inl rfl | exact .inr rfl) (den_callB (callD_sum rfl) rfl Z.sum_ (by decide +kernel) (dena_cons (den_frz (denn_lc (vs := [9, 10, 11]) [("low", 9), ("_", 10), ("row", 11)] rfl nd (deni_zip2 rfl Z.zip_ (dena_cons (dv 7) (dena_cons (dv 1) dena_nil))) (blkOk_by (by rfl)) (fun _ _ _ _ _ => (deng_tup (n := 2) rfl (dengs_cons (deng_tup (n := 2) rfl (dengs_cons (deng_name 9 nd rfl (by first | exact .inl rfl | exact .inr rfl)) (dengs_cons (deng_name 10 nd rfl (by first | exact .inl rfl | exact .inr rfl)) dengs_nil))) (dengs_cons (deng_name 11 nd rfl (by first | exact .inl rfl | exact .inr rfl)) dengs_nil)))) (fun _ _ _ _ _ => dents_nil) (fun _ _ _ _ _ => (den_bin opD_mulB (dv 9) (den_count (dv 11) (dv 4) hr.units))))) dena_nil)))
    (denss_cons (dens_ret (den_tup (dena_cons (dv 8) (dena_cons (den_callB (callD_sum rfl) rfl Z.sum_ (by decide +kernel) (dena_cons (den_frz (denn_lc (vs := [10, 12, 11]) [("_", 10), ("high", 12), ("row", 11)] rfl nd (deni_zip2 rfl Z.zip_ (dena_cons (dv 7) (dena_cons (dv 1) dena_nil))) (blkOk_by (by rfl)) (fun _ _ _ _ _ => (deng_tup (n := 2) rfl (dengs_cons (deng_tup (n := 2) rfl (dengs_cons (deng_name 10 nd rfl (by first | exact .inl rfl | exact .inr rfl)) (dengs_cons (deng_name 12 nd rfl (by first | exact .inl rfl | exact .inr rfl)) dengs_nil))) (dengs_cons (deng_name 11 nd rfl (by first | exact .inl rfl | exact .inr rfl)) dengs_nil)))) (fun _ _ _ _ _ => dents_nil) (fun _ _ _ _ _ => (den_bin opD_mulB (dv 12) (den_count (dv 11) (dv 4) hr.units))))) dena_nil)) dena_nil))))
    denss_nil))))))))
theorem sc__need_alike : FnScope ["hall", "ranks", "desks", "stays", "desk"] ["hall"] (defScope s__need_alike) := ⟨rfl, rfl, rfl, by decide +kernel, rfl, by decide +kernel, by decide +kernel⟩
theorem fn__need_alike (d : Df K mg "_need_alike" s__need_alike ["hall"]) (Z : Blt2 mg) (Y : ImpsP mg) (h_all_stays : Fd P w K mg base "all_stays" 1 1 F_all_stays) : Fd P w K mg base "_need_alike" 2 1 F__need_alike := by
  have nd := sc__need_alike.nd
  exact Fd.of (B := B__need_alike) d sc__need_alike rfl fun f cdv A outer s H E hr => (denss_cons (dens_asg (dv 0) (deng_tup (n := 2) rfl (dengs_cons (deng_name 1 nd rfl (by first | exact .inl rfl | exact .inr rfl)) (dengs_cons (deng_name 2 nd rfl (by first | exact .inl rfl | exact .inr rfl)) dengs_nil))))
    (denss_cons (dens_set 3 nd rfl (by first | exact .inl rfl | exact .inr rfl) (den_call h_all_stays (hr.mono (by decide)) rfl (dena_cons (dv 0) dena_nil)))
    (denss_cons (dens_if (dent_w (denw_or (dent_cmp (opD_lt hr.units0) (den_callB (callD_minL rfl) rfl Z.min_ (by decide +kernel) (dena_cons (dv 3) dena_nil)) (den_callB (callD_maxL rfl) rfl Z.max_ (by decide +kernel) (dena_cons (dv 3) dena_nil))) (denw_or1 (dent_cmp (opD_lt hr.units0) (den_callB (callD_minL rfl) rfl Z.min_ (by decide +kernel) (dena_cons (den_frz (denn_lc (vs := [4]) [("desk", 4)] rfl nd (deni_seq (dv 2)) (blkOk_by (by rfl)) (fun _ _ _ _ _ => (deng_name 4 nd rfl (by first | exact .inl rfl | exact .inr rfl))) (fun _ _ _ _ _ => dents_nil) (fun _ _ _ _ _ => (den_callB callD_len rfl Z.len_ (by decide +kernel) (dena_cons (dv 4) dena_nil))))) dena_nil)) (den_callB callD_len rfl Z.len_ (by decide +kernel) (dena_cons (dv 1) dena_nil)))))) (denss_cons dens_never
    denss_nil) denss_nil)
    denss_nil)))
theorem sc__taken_first : FnScope ["had_come", "free", "taken", "found", "many", "desks"] ["had_come", "free"] (defScope s__taken_first) := ⟨rfl, rfl, rfl, by decide +kernel, rfl, by decide +kernel, by decide +kernel⟩
theorem fn__taken_first (d : Df K mg "_taken_first" s__taken_first ["had_come", "free"]) (Z : Blt2 mg) (Y : ImpsP mg) : Fd P w K mg base "_taken_first" 1 2 F__taken_first := by
  have nd := sc__taken_first.nd
  exact Fd.of (B := B__taken_first) d sc__taken_first rfl fun f cdv A outer s H E hr => (denss_cons (dens_set 2 nd rfl (by first | exact .inl rfl | exact .inr rfl) den_int)
    (denss_cons (dens_setN 3 0 nd rfl (by first | exact .inl rfl | exact .inr rfl) (denn_lst dena_nil))
    (denss_cons (dens_for PassesOwn.never rfl (deni_zip2 rfl Z.zip_ (dena_cons (dv 0) (dena_cons (dv 1) dena_nil))) (deng_tup (n := 2) rfl (dengs_cons (deng_name 4 nd rfl (by first | exact .inl rfl | exact .inr rfl)) (dengs_cons (deng_name 5 nd rfl (by first | exact .inl rfl | exact .inr rfl)) dengs_nil))) (denss_cons (dens_set 2 nd rfl (by first | exact .inl rfl | exact .inr rfl) (den_callB (callD_min2 rfl) rfl Z.min_ (by decide +kernel) (dena_cons (dv 4) (dena_cons (den_bin opD_add (dv 2) (dv 5)) dena_nil))))
    (denss_cons (dens_app 3 rfl (by first | exact .inl rfl | exact .inr (.inl rfl) | exact .inr (.inr rfl)) (dv 2))
    denss_nil)))
    (denss_frz 3 (denss_cons (dens_ret (dv 3))
    denss_nil)))))
theorem sc_first_taken : FnScope ["hall", "book", "looks", "rank", "comer", "columns", "steps", "turns", "free", "earliest", "row", "_", "high", "low"] ["hall", "book", "looks", "rank", "comer"] (defScope s_first_taken) := ⟨rfl, rfl, rfl, by decide +kernel, rfl, by decide +kernel, by decide +kernel⟩
theorem fn_first_taken (d : Df K mg "first_taken" s_first_taken ["hall", "book", "looks", "rank", "comer"]) (Z : Blt2 mg) (Y : ImpsP mg) (h_need_written : Fd P w K mg base "need_written" 6 3 F_need_written) (h_need_rank : Fd P w K mg base "need_rank" 3 2 F_need_rank) (h_need_comer : Fd P w K mg base "need_comer" 2 1 F_need_comer) (h__need_alike : Fd P w K mg base "_need_alike" 2 1 F__need_alike) (h_steps_of : FdO P w K mg base "steps_of" 4 4 1 F_steps_of) (h_all_turns : Fd P w K mg base "all_turns" 2 2 F_all_turns) (h_first_tick : Fd P w K mg base "first_tick" 1 2 F_first_tick) (h__taken_first : Fd P w K mg base "_taken_first" 1 2 F__taken_first) (g_BUSY : ∃ t, mg "BUSY" = some (.int (-1) t)) : Fd P w K mg base "first_taken" 7 5 F_first_taken := by
  have nd := sc_first_taken.nd
  exact Fd.of (B := B_first_taken) d sc_first_taken rfl fun f cdv A outer s H E hr => (denss_cons (dens_set 5 nd rfl (by first | exact .inl rfl | exact .inr rfl) (den_call h_need_written (hr.mono (by decide)) rfl (dena_cons (dv 0) (dena_cons (dv 1) (dena_cons (dv 2) dena_nil)))))
    (denss_cons (dens_expr (den_call h_need_rank (hr.mono (by decide)) rfl (dena_cons (dv 0) (dena_cons (dv 3) dena_nil))))
    (denss_cons (dens_expr (den_call h_need_comer (hr.mono (by decide)) rfl (dena_cons (dv 4) dena_nil)))
    (denss_cons (dens_expr (den_call h__need_alike (hr.mono (by decide)) rfl (dena_cons (dv 0) dena_nil)))
    (denss_cons (dens_set 6 nd rfl (by first | exact .inl rfl | exact .inr rfl) (denno_frz (denno_call h_steps_of (hr.mono (by decide)) rfl (dena_cons (dv 0) (dena_cons (dv 5) (dena_cons (dv 2) (dena_cons (dv 3) dena_nil)))))))
    (denss_cons (dens_if (dent_isN (dv 6)) (denss_cons (dens_ret den_non)
    denss_nil) denss_nil)
    (denss_cons (dens_set 7 nd rfl (by first | exact .inl rfl | exact .inr rfl) (den_call h_all_turns (hr.mono (by decide)) rfl (dena_cons (dv 0) (dena_cons (dv 5) dena_nil))))
    (denss_cons (dens_setLc (vs := [10]) 8 [("row", 10)] rfl nd rfl rfl (sw_true rfl rfl rfl (by decide +kernel)) (deni_zipS (dv 7) rfl rfl Z.zip_) (blkOk_by (by rfl)) (fun _ _ _ _ _ => (deng_name 10 nd rfl (by first | exact .inl rfl | exact .inr rfl))) (fun _ _ _ _ _ => dents_nil) (fun _ _ _ _ _ => (den_bin opD_sub (den_callB callD_len rfl Z.len_ (by decide +kernel) (dena_cons (dv 10) dena_nil)) (den_count (dv 10) (den_glb g_BUSY rfl) hr.units))))
    (denss_cons (dens_set 9 nd rfl (by first | exact .inl rfl | exact .inr rfl) (den_call h_first_tick (hr.mono (by decide)) rfl (dena_cons (den_call h__taken_first (hr.mono (by decide)) rfl (dena_cons (den_frz (denn_lc (vs := [11, 12]) [("_", 11), ("high", 12)] rfl nd (deni_seq (dv 6)) (blkOk_by (by rfl)) (fun _ _ _ _ _ => (deng_tup (n := 2) rfl (dengs_cons (deng_name 11 nd rfl (by first | exact .inl rfl | exact .inr rfl)) (dengs_cons (deng_name 12 nd rfl (by first | exact .inl rfl | exact .inr rfl)) dengs_nil)))) (fun _ _ _ _ _ => dents_nil) (fun _ _ _ _ _ => (dv 12)))) (dena_cons (dv 8) dena_nil))) (dena_cons (dv 4) dena_nil))))
    (denss_cons (dens_ret (den_tup (dena_cons (dv 9) (dena_cons (den_call h_first_tick (hr.mono (by decide)) rfl (dena_cons (den_call h__taken_first (hr.mono (by decide)) rfl (dena_cons (den_frz (denn_lc (vs := [13, 11]) [("low", 13), ("_", 11)] rfl nd (deni_seq (dv 6)) (blkOk_by (by rfl)) (fun _ _ _ _ _ => (deng_tup (n := 2) rfl (dengs_cons (deng_name 13 nd rfl (by first | exact .inl rfl | exact .inr rfl)) (dengs_cons (deng_name 11 nd rfl (by first | exact .inl rfl | exact .inr rfl)) dengs_nil)))) (fun _ _ _ _ _ => dents_nil) (fun _ _ _ _ _ => (dv 13)))) (dena_cons (dv 8) dena_nil))) (dena_cons (dv 4) dena_nil))) dena_nil))))
    denss_nil))))))))))
theorem sc__with_first : FnScope ["hall", "desk", "turns", "one", "column", "turn"] ["hall", "desk", "turns", "one"] (defScope s__with_first) := ⟨rfl, rfl, rfl, by decide +kernel, rfl, by decide +kernel, by decide +kernel⟩
theorem fn__with_first (d : Df K mg "_with_first" s__with_first ["hall", "desk", "turns", "one"]) (Z : Blt2 mg) (Y : ImpsP mg) (h_is_column : Fd P w K mg base "is_column" 2 3 F_is_column) (h_all_stays : Fd P w K mg base "all_stays" 1 1 F_all_stays) (h_turns_of : Fd P w K mg base "turns_of" 1 2 F_turns_of) : Fd P w K mg base "_with_first" 3 4 F__with_first := by
  have nd := sc__with_first.nd
  exact Fd.of (B := B__with_first) d sc__with_first rfl fun f cdv A outer s H E hr => (denss_cons (dens_setLcN (vs := [5]) 4 [("turn", 5)] rfl nd rfl rfl (sw_true rfl rfl rfl (by decide +kernel)) (deni_seq (dv 2)) (blkOk_by (by rfl)) (fun _ _ _ _ _ => (deng_name 5 nd rfl (by first | exact .inl rfl | exact .inr rfl))) (fun _ _ _ _ _ => dents_nil) (fun _ _ _ _ _ => (den_if (dent_cmp opD_in (dv 5) (dv 1)) (dv 5) den_non)))
    (denss_cons (dens_put 4 rfl (by first | exact .inl rfl | exact .inr (.inl rfl) | exact .inr (.inr rfl)) (dv 3) den_int)
    (denss_frz 4 (denss_cons (dens_if (dent_not (dent_val (den_call h_is_column (hr.mono (by decide)) rfl (dena_cons (den_call h_all_stays (hr.mono (by decide)) rfl (dena_cons (dv 0) dena_nil)) (dena_cons (dv 1) (dena_cons (dv 4) dena_nil)))))) (denss_cons (dens_ret den_non)
    denss_nil) denss_nil)
    (denss_cons (dens_ret (den_call h_turns_of (hr.mono (by decide)) rfl (dena_cons (den_call h_all_stays (hr.mono (by decide)) rfl (dena_cons (dv 0) dena_nil)) (dena_cons (dv 4) dena_nil))))
    denss_nil)))))
theorem sc__up_from : FnScope ["hall", "turns", "steps", "tick", "rank", "gone", "high"] ["hall", "turns", "steps", "tick", "rank"] (defScope s__up_from) := ⟨rfl, rfl, rfl, by decide +kernel, rfl, by decide +kernel, by decide +kernel⟩
theorem fn__up_from (d : Df K mg "_up_from" s__up_from ["hall", "turns", "steps", "tick", "rank"]) (Z : Blt2 mg) (Y : ImpsP mg) (h_steps_up : Fd P w K mg base "steps_up" 1 4 F_steps_up) (h_told_of : Fd P w K mg base "told_of" 1 5 F_told_of) (h_ranks_behind : Fd P w K mg base "ranks_behind" 1 2 F_ranks_behind) : Fd P w K mg base "_up_from" 2 5 F__up_from := by
  have nd := sc__up_from.nd
  exact Fd.of (B := B__up_from) d sc__up_from rfl fun f cdv A outer s H E hr => (denss_cons (dens_asg (den_if (dent_cmp opD_gt (dv 3) den_int) (den_ix (dv 2) (den_bin opD_sub (dv 3) den_int)) (den_tup (dena_cons den_int (dena_cons den_int dena_nil)))) (deng_tup (n := 2) rfl (dengs_cons (deng_name 5 nd rfl (by first | exact .inl rfl | exact .inr rfl)) (dengs_cons (deng_name 6 nd rfl (by first | exact .inl rfl | exact .inr rfl)) dengs_nil))))
    (denss_cons (dens_ret (den_call h_steps_up (hr.mono (by decide)) rfl (dena_cons (den_call h_told_of (hr.mono (by decide)) rfl (dena_cons (dv 0) (dena_cons (dv 1) (dena_cons (dv 4) (dena_cons (den_call h_ranks_behind (hr.mono (by decide)) rfl (dena_cons (dv 0) (dena_cons (dv 4) dena_nil))) (dena_cons (dv 5) dena_nil)))))) (dena_cons (den_ix (den_ix (den_ix (dv 0) den_int) (dv 4)) den_int) (dena_cons (dv 5) (dena_cons (dv 6) dena_nil))))))
    denss_nil))
theorem sc__does : FnScope ["hall", "turns", "every", "mend", "tick", "at", "one", "from_then", "mended", "rank", "steps", "column"] ["hall", "turns", "every", "mend"] (defScope s__does) := ⟨rfl, rfl, rfl, by decide +kernel, rfl, by decide +kernel, by decide +kernel⟩
theorem fn__does (d : Df K mg "_does" s__does ["hall", "turns", "every", "mend"]) (Z : Blt2 mg) (Y : ImpsP mg) (h__with_first : Fd P w K mg base "_with_first" 3 4 F__with_first) (h_is_barred : Fd P w K mg base "is_barred" 1 1 F_is_barred) (h__up_from : Fd P w K mg base "_up_from" 2 5 F__up_from) (g_BUSY : ∃ t, mg "BUSY" = some (.int (-1) t)) : Fd P w K mg base "_does" 4 4 F__does := by
  have nd := sc__does.nd
  exact Fd.of (B := B__does) d sc__does rfl fun f cdv A outer s H E hr => (denss_cons (dens_asg (dv 3) (deng_tup (n := 3) rfl (dengs_cons (deng_name 4 nd rfl (by first | exact .inl rfl | exact .inr rfl)) (dengs_cons (deng_name 5 nd rfl (by first | exact .inl rfl | exact .inr rfl)) (dengs_cons (deng_name 6 nd rfl (by first | exact .inl rfl | exact .inr rfl)) dengs_nil)))))
    (denss_cons (dens_if (dent_cmp (opD_eq hr.units) (den_ix (den_ix (dv 1) (dv 5)) (dv 4)) (den_glb g_BUSY rfl)) (denss_cons (dens_ret den_bl)
    denss_nil) denss_nil)
    (denss_cons (dens_setLcN (vs := [11]) 7 [("column", 11)] rfl nd rfl rfl (sw_true rfl rfl rfl (by decide +kernel)) (deni_seq (dv 1)) (blkOk_by (by rfl)) (fun _ _ _ _ _ => (deng_name 11 nd rfl (by first | exact .inl rfl | exact .inr rfl))) (fun _ _ _ _ _ => dents_nil) (fun _ _ _ _ _ => (den_slice (dv 11) (deno_some (dv 4)) deno_none)))
    (denss_cons (dens_set 8 nd rfl (by first | exact .inl rfl | exact .inr rfl) (den_call h__with_first (hr.mono (by decide)) rfl (dena_cons (dv 0) (dena_cons (den_ix (den_ix (dv 0) den_int) (dv 5)) (dena_cons (den_ixO 7 rfl (by first | exact .inl rfl | exact .inr (.inl rfl) | exact .inr (.inr rfl)) (dv 5)) (dena_cons (dv 6) dena_nil))))))
    (denss_cons (dens_if (dent_isN (dv 8)) (denss_cons (dens_ret den_bl)
    denss_nil) denss_nil)
    (denss_cons (dens_put 7 rfl (by first | exact .inl rfl | exact .inr (.inl rfl) | exact .inr (.inr rfl)) (dv 8) (dv 5))
    (denss_frz 7 (denss_cons (dens_for PassesOwn.never rfl (deni_enum rfl Z.enumerate_ (dena_cons (dv 2) dena_nil)) (deng_tup (n := 2) rfl (dengs_cons (deng_name 9 nd rfl (by first | exact .inl rfl | exact .inr rfl)) (dengs_cons (deng_name 10 nd rfl (by first | exact .inl rfl | exact .inr rfl)) dengs_nil))) (denss_cons (dens_if (dent_val (den_call h_is_barred (hr.mono (by decide)) rfl (dena_cons (den_if (dent_cmp opD_in (dv 9) (den_ix (den_ix (dv 0) den_int) (dv 5))) (den_call h__up_from (hr.mono (by decide)) rfl (dena_cons (dv 0) (dena_cons (dv 7) (dena_cons (dv 10) (dena_cons (dv 4) (dena_cons (dv 9) dena_nil)))))) (dv 10)) dena_nil))) (denss_cons (dens_ret den_bl)
    denss_nil) denss_nil)
    denss_nil))
    (denss_cons (dens_ret den_bl)
    denss_nil)))))))))
theorem sc_mends : FnScope ["hall", "book", "turns", "every", "found", "tick", "at", "desk", "one", "rank", "steps"] ["hall", "book"] (defScope s_mends) := ⟨rfl, rfl, rfl, by decide +kernel, rfl, by decide +kernel, by decide +kernel⟩
theorem fn_mends (d : Df K mg "mends" s_mends ["hall", "book"]) (Z : Blt2 mg) (Y : ImpsP mg) (h_need_hall : Fd P w K mg base "need_hall" 5 1 F_need_hall) (h_all_turns : Fd P w K mg base "all_turns" 2 2 F_all_turns) (h_need_book : Fd P w K mg base "need_book" 4 2 F_need_book) (h_rank_up : Fd P w K mg base "rank_up" 2 4 F_rank_up) (h__does : Fd P w K mg base "_does" 4 4 F__does) : FdN P w K mg base "mends" 6 2 1 F_mends := by
  have nd := sc_mends.nd
  exact FdN.of (B := B_mends) d sc_mends rfl fun f cdv A outer s H E hr => (denssN_cons (dens_expr (den_call h_need_hall (hr.mono (by decide)) rfl (dena_cons (dv 0) dena_nil))) (denssN_cons (dens_set 2 nd rfl (by first | exact .inl rfl | exact .inr rfl) (den_call h_all_turns (hr.mono (by decide)) rfl (dena_cons (dv 0) (dena_cons (den_call h_need_book (hr.mono (by decide)) rfl (dena_cons (dv 0) (dena_cons (dv 1) dena_nil))) dena_nil)))) (denssN_cons (dens_setLc (vs := [9]) 3 [("rank", 9)] rfl nd rfl rfl (sw_true rfl rfl rfl (by decide +kernel)) (deni_range1 rfl Z.range_ (dena_cons (den_callB callD_len rfl Z.len_ (by decide +kernel) (dena_cons (den_ix (dv 0) den_int) dena_nil)) dena_nil)) (blkOk_by (by rfl)) (fun _ _ _ _ _ => (deng_name 9 nd rfl (by first | exact .inl rfl | exact .inr rfl))) (fun _ _ _ _ _ => dents_nil) (fun _ _ _ _ _ => (den_call h_rank_up (hr.mono (by decide)) rfl (dena_cons (dv 0) (dena_cons (dv 2) (dena_cons (den_tup dena_nil) (dena_cons (dv 9) dena_nil))))))) (denssN_cons (dens_setN 4 0 nd rfl (by first | exact .inl rfl | exact .inr rfl) (denn_lst dena_nil)) (denssN_cons (dens_for PassesOwn.never rfl (deni_range1 rfl Z.range_ (dena_cons (den_callB (callD_minL rfl) rfl Z.min_ (by decide +kernel) (dena_cons (den_frz (denn_lc (vs := [10]) [("steps", 10)] rfl nd (deni_seq (dv 3)) (blkOk_by (by rfl)) (fun _ _ _ _ _ => (deng_name 10 nd rfl (by first | exact .inl rfl | exact .inr rfl))) (fun _ _ _ _ _ => dents_nil) (fun _ _ _ _ _ => (den_callB callD_len rfl Z.len_ (by decide +kernel) (dena_cons (dv 10) dena_nil))))) dena_nil)) dena_nil)) (deng_name 5 nd rfl (by first | exact .inl rfl | exact .inr rfl)) (denss_cons (dens_for PassesOwn.never rfl (deni_enum rfl Z.enumerate_ (dena_cons (den_ix (dv 0) den_int) dena_nil)) (deng_tup (n := 2) rfl (dengs_cons (deng_name 6 nd rfl (by first | exact .inl rfl | exact .inr rfl)) (dengs_cons (deng_name 7 nd rfl (by first | exact .inl rfl | exact .inr rfl)) dengs_nil))) (denss_cons (dens_for PassesOwn.never rfl (deni_seq (den_tup (dena_cons den_non (dena_star (dv 7) dena_nil)))) (deng_name 8 nd rfl (by first | exact .inl rfl | exact .inr rfl)) (denss_cons (dens_if (dent_w (denw_and (dent_cmp (opD_ne hr.units) (dv 8) (den_ix (den_ix (dv 1) (dv 5)) (dv 6))) (denw_and1 (dent_val (den_call h__does (hr.mono (by decide)) rfl (dena_cons (dv 0) (dena_cons (dv 2) (dena_cons (dv 3) (dena_cons (den_tup (dena_cons (dv 5) (dena_cons (dv 6) (dena_cons (dv 8) dena_nil)))) dena_nil))))))))) (denss_cons (dens_app 4 rfl (by first | exact .inl rfl | exact .inr (.inl rfl) | exact .inr (.inr rfl)) (den_tup (dena_cons (dv 5) (dena_cons (dv 6) (dena_cons (dv 8) dena_nil)))))
    denss_nil) denss_nil)
    denss_nil))
    denss_nil))
    denss_nil)) (denssN_ret (denn_give 4 0 rfl (by first | exact .inl rfl | exact .inr (.inl rfl) | exact .inr (.inr rfl)))))))))
theorem sc__can_stay : FnScope ["hall", "book", "rank", "stay", "ranks", "desks", "others", "columns"] ["hall", "book", "rank", "stay"] (defScope s__can_stay) := ⟨rfl, rfl, rfl, by decide +kernel, rfl, by decide +kernel, by decide +kernel⟩
theorem fn__can_stay (d : Df K mg "_can_stay" s__can_stay ["hall", "book", "rank", "stay"]) (Z : Blt2 mg) (Y : ImpsP mg) (h_columns_of : Fd P w K mg base "columns_of" 3 2 F_columns_of) (h_all_up : Fd P w K mg base "all_up" 3 3 F_all_up) : Fd P w K mg base "_can_stay" 4 4 F__can_stay := by
  have nd := sc__can_stay.nd
  exact Fd.of (B := B__can_stay) d sc__can_stay rfl fun f cdv A outer s H E hr => (denss_cons (dens_asg (dv 0) (deng_tup (n := 2) rfl (dengs_cons (deng_name 4 nd rfl (by first | exact .inl rfl | exact .inr rfl)) (dengs_cons (deng_name 5 nd rfl (by first | exact .inl rfl | exact .inr rfl)) dengs_nil))))
    (denss_cons (dens_set 6 nd rfl (by first | exact .inl rfl | exact .inr rfl) (den_tup (dena_star (den_slice (dv 4) deno_none (deno_some (dv 2))) (dena_cons (den_tup (dena_cons (den_ix (den_ix (dv 4) (dv 2)) den_int) (dena_cons (dv 3) dena_nil))) (dena_star (den_slice (dv 4) (deno_some (den_bin opD_add (dv 2) den_int)) deno_none) dena_nil)))))
    (denss_cons (dens_set 7 nd rfl (by first | exact .inl rfl | exact .inr rfl) (den_call h_columns_of (hr.mono (by decide)) rfl (dena_cons (den_tup (dena_cons (dv 6) (dena_cons (dv 5) dena_nil))) (dena_cons (dv 1) dena_nil))))
    (denss_cons (dens_ret (den_and (dene_notN (dv 7)) (den_one (dene_notN (den_call h_all_up (hr.mono (by decide)) rfl (dena_cons (den_tup (dena_cons (dv 6) (dena_cons (dv 5) dena_nil))) (dena_cons (dv 7) (dena_cons (den_tup dena_nil) dena_nil))))))))
    denss_nil))))
theorem sc_stays : FnScope ["hall", "book", "rank", "stay"] ["hall", "book", "rank"] (defScope s_stays) := ⟨rfl, rfl, rfl, by decide +kernel, rfl, by decide +kernel, by decide +kernel⟩
theorem fn_stays (d : Df K mg "stays" s_stays ["hall", "book", "rank"]) (Z : Blt2 mg) (Y : ImpsP mg) (h_need_hall : Fd P w K mg base "need_hall" 5 1 F_need_hall) (h_need_book : Fd P w K mg base "need_book" 4 2 F_need_book) (h_need_rank : Fd P w K mg base "need_rank" 3 2 F_need_rank) (h__can_stay : Fd P w K mg base "_can_stay" 4 4 F__can_stay) (g_STAY_AT_MOST : ∃ t, mg "STAY_AT_MOST" = some (.int (10) t)) : FdN P w K mg base "stays" 6 3 1 F_stays := by
  have nd := sc_stays.nd
  exact FdN.of (B := B_stays) d sc_stays rfl fun f cdv A outer s H E hr => (denssN_cons (dens_expr (den_call h_need_hall (hr.mono (by decide)) rfl (dena_cons (dv 0) dena_nil))) (denssN_cons (dens_expr (den_call h_need_book (hr.mono (by decide)) rfl (dena_cons (dv 0) (dena_cons (dv 1) dena_nil)))) (denssN_cons (dens_expr (den_call h_need_rank (hr.mono (by decide)) rfl (dena_cons (dv 0) (dena_cons (dv 2) dena_nil)))) (denssN_ret (denn_lc (vs := [3]) [("stay", 3)] rfl nd (deni_range2 rfl Z.range_ (dena_cons den_int (dena_cons (den_bin opD_add (den_glb g_STAY_AT_MOST rfl) den_int) dena_nil))) (blkOk_by (by rfl)) (fun _ _ _ _ _ => (deng_name 3 nd rfl (by first | exact .inl rfl | exact .inr rfl))) (fun _ _ _ _ _ => (dents_one (dent_val (den_call h__can_stay (hr.mono (by decide)) rfl (dena_cons (dv 0) (dena_cons (dv 1) (dena_cons (dv 2) (dena_cons (dv 3) dena_nil)))))))) (fun _ _ _ _ _ => (dv 3)))))))
theorem sc_ways_within : FnScope ["ways", "most", "start", "many", "by", "behind", "one", "other"] ["ways", "most", "start", "many"] (defScope s_ways_within) := ⟨rfl, rfl, rfl, by decide +kernel, rfl, by decide +kernel, by decide +kernel⟩
theorem fn_ways_within (d : Df K mg "ways_within" s_ways_within ["ways", "most", "start", "many"]) (Z : Blt2 mg) (Y : ImpsP mg) : Fd P w K mg base "ways_within" 1 4 F_ways_within := by
  have nd := sc_ways_within.nd
  exact Fd.of (B := B_ways_within) d sc_ways_within rfl fun f cdv A outer s H E hr => (denss_cons (dens_set 4 nd rfl (by first | exact .inl rfl | exact .inr rfl) (den_listAcc (dv 0) rfl rfl Z.list_ rfl Y.acc))
    (denss_cons (dens_set 4 nd rfl (by first | exact .inl rfl | exact .inr rfl) (den_bin opD_add (den_bin opD_add (den_bin opD_mulB (den_lst (dena_cons den_int dena_nil)) (den_bin opD_add (dv 1) den_int)) (dv 4)) (den_bin opD_mulB (den_lst (dena_cons (den_ix (dv 4) (den_neg den_int)) dena_nil)) (dv 1))))
    (denss_cons (dens_set 5 nd rfl (by first | exact .inl rfl | exact .inr rfl) (den_bin opD_add (den_bin opD_add (dv 2) (dv 1)) den_int))
    (denss_cons (dens_ret (den_frz (denn_lc (vs := [6, 7]) [("one", 6), ("other", 7)] rfl nd (deni_zip2 rfl Z.zip_ (dena_cons (den_slice (dv 4) (deno_some (dv 5)) (deno_some (den_bin opD_add (dv 5) (dv 3)))) (dena_cons (den_slice (dv 4) (deno_some (dv 2)) (deno_some (den_bin opD_add (dv 2) (dv 3)))) dena_nil))) (blkOk_by (by rfl)) (fun _ _ _ _ _ => (deng_tup (n := 2) rfl (dengs_cons (deng_name 6 nd rfl (by first | exact .inl rfl | exact .inr rfl)) (dengs_cons (deng_name 7 nd rfl (by first | exact .inl rfl | exact .inr rfl)) dengs_nil)))) (fun _ _ _ _ _ => dents_nil) (fun _ _ _ _ _ => (den_bin opD_sub (dv 6) (dv 7))))))
    denss_nil))))
theorem sc_ways_to : FnScope ["steps", "most", "found", "ahead", "low_ahead", "low", "high"] ["steps", "most"] (defScope s_ways_to) := ⟨rfl, rfl, rfl, by decide +kernel, rfl, by decide +kernel, by decide +kernel⟩
theorem fn_ways_to (d : Df K mg "ways_to" s_ways_to ["steps", "most"]) (Z : Blt2 mg) (Y : ImpsP mg) (h_ways_within : Fd P w K mg base "ways_within" 1 4 F_ways_within) : Fd P w K mg base "ways_to" 2 2 F_ways_to := by
  have nd := sc_ways_to.nd
  exact Fd.of (B := B_ways_to) d sc_ways_to rfl fun f cdv A outer s H E hr => (denss_cons (dens_setN 2 0 nd rfl (by first | exact .inl rfl | exact .inr rfl) (denn_lst dena_nil))
    (denss_cons (dens_set 3 nd rfl (by first | exact .inl rfl | exact .inr rfl) (den_lst (dena_cons den_int dena_nil)))
    (denss_cons (dens_set 4 nd rfl (by first | exact .inl rfl | exact .inr rfl) den_int)
    (denss_cons (dens_for PassesOwn.never rfl (deni_seq (dv 0)) (deng_tup (n := 2) rfl (dengs_cons (deng_name 5 nd rfl (by first | exact .inl rfl | exact .inr rfl)) (dengs_cons (deng_name 6 nd rfl (by first | exact .inl rfl | exact .inr rfl)) dengs_nil))) (denss_cons (dens_set 3 nd rfl (by first | exact .inl rfl | exact .inr rfl) (den_call h_ways_within (hr.mono (by decide)) rfl (dena_cons (dv 3) (dena_cons (dv 1) (dena_cons (den_bin opD_sub (dv 5) (dv 4)) (dena_cons (den_bin opD_add (den_bin opD_sub (dv 6) (dv 5)) den_int) dena_nil))))))
    (denss_cons (dens_app 2 rfl (by first | exact .inl rfl | exact .inr (.inl rfl) | exact .inr (.inr rfl)) (dv 3))
    (denss_cons (dens_set 4 nd rfl (by first | exact .inl rfl | exact .inr rfl) (dv 5))
    denss_nil))))
    (denss_frz 2 (denss_cons (dens_ret (dv 2))
    denss_nil))))))
theorem sc_ways_on : FnScope ["steps", "most", "low_behind", "high", "behind", "found", "low"] ["steps", "most"] (defScope s_ways_on) := ⟨rfl, rfl, rfl, by decide +kernel, rfl, by decide +kernel, by decide +kernel⟩
theorem fn_ways_on (d : Df K mg "ways_on" s_ways_on ["steps", "most"]) (Z : Blt2 mg) (Y : ImpsP mg) (h_ways_within : Fd P w K mg base "ways_within" 1 4 F_ways_within) : Fd P w K mg base "ways_on" 2 2 F_ways_on := by
  have nd := sc_ways_on.nd
  exact Fd.of (B := B_ways_on) d sc_ways_on rfl fun f cdv A outer s H E hr => (denss_cons (dens_asg (den_ix (dv 0) (den_neg den_int)) (deng_tup (n := 2) rfl (dengs_cons (deng_name 2 nd rfl (by first | exact .inl rfl | exact .inr rfl)) (dengs_cons (deng_name 3 nd rfl (by first | exact .inl rfl | exact .inr rfl)) dengs_nil))))
    (denss_cons (dens_set 4 nd rfl (by first | exact .inl rfl | exact .inr rfl) (den_bin opD_mulB (den_lst (dena_cons den_int dena_nil)) (den_bin opD_add (den_bin opD_sub (dv 3) (dv 2)) den_int)))
    (denss_cons (dens_setN 5 0 nd rfl (by first | exact .inl rfl | exact .inr rfl) (denn_lst (dena_cons (dv 4) dena_nil)))
    (denss_cons (dens_for PassesOwn.never rfl (deni_rev rfl Z.reversed_ (dena_cons (den_slice (dv 0) deno_none (deno_some (den_neg den_int))) dena_nil)) (deng_tup (n := 2) rfl (dengs_cons (deng_name 6 nd rfl (by first | exact .inl rfl | exact .inr rfl)) (dengs_cons (deng_name 3 nd rfl (by first | exact .inl rfl | exact .inr rfl)) dengs_nil))) (denss_cons (dens_set 4 nd rfl (by first | exact .inl rfl | exact .inr rfl) (den_call h_ways_within (hr.mono (by decide)) rfl (dena_cons (dv 4) (dena_cons (dv 1) (dena_cons (den_bin opD_sub (den_bin opD_add (dv 6) (dv 1)) (dv 2)) (dena_cons (den_bin opD_add (den_bin opD_sub (dv 3) (dv 6)) den_int) dena_nil))))))
    (denss_cons (dens_app 5 rfl (by first | exact .inl rfl | exact .inr (.inl rfl) | exact .inr (.inr rfl)) (dv 4))
    (denss_cons (dens_set 2 nd rfl (by first | exact .inl rfl | exact .inr rfl) (dv 6))
    denss_nil))))
    (denss_frz 5 (denss_cons (dens_ret (den_revL (dv 5)))
    denss_nil))))))
theorem sc_all_ways : FnScope ["steps", "most"] ["steps", "most"] (defScope s_all_ways) := ⟨rfl, rfl, rfl, by decide +kernel, rfl, by decide +kernel, by decide +kernel⟩
theorem fn_all_ways (d : Df K mg "all_ways" s_all_ways ["steps", "most"]) (Z : Blt2 mg) (Y : ImpsP mg) (h_ways_to : Fd P w K mg base "ways_to" 2 2 F_ways_to) : Fd P w K mg base "all_ways" 3 2 F_all_ways := by
  have nd := sc_all_ways.nd
  exact Fd.of (B := B_all_ways) d sc_all_ways rfl fun f cdv A outer s H E hr => (denss_cons (dens_ret (den_callB (callD_sum rfl) rfl Z.sum_ (by decide +kernel) (dena_cons (den_ix (den_call h_ways_to (hr.mono (by decide)) rfl (dena_cons (dv 0) (dena_cons (dv 1) dena_nil))) (den_neg den_int)) dena_nil)))
    denss_nil)
theorem sc_all_comings : FnScope ["hall", "every", "many", "steps", "most", "_"] ["hall", "every"] (defScope s_all_comings) := ⟨rfl, rfl, rfl, by decide +kernel, rfl, by decide +kernel, by decide +kernel⟩
theorem fn_all_comings (d : Df K mg "all_comings" s_all_comings ["hall", "every"]) (Z : Blt2 mg) (Y : ImpsP mg) (h_all_ways : Fd P w K mg base "all_ways" 3 2 F_all_ways) : Fd P w K mg base "all_comings" 4 2 F_all_comings := by
  have nd := sc_all_comings.nd
  exact Fd.of (B := B_all_comings) d sc_all_comings rfl fun f cdv A outer s H E hr => (denss_cons (dens_set 2 nd rfl (by first | exact .inl rfl | exact .inr rfl) den_int)
    (denss_cons (dens_for PassesOwn.never rfl (deni_zip2 rfl Z.zip_ (dena_cons (dv 1) (dena_cons (den_ix (dv 0) den_int) dena_nil))) (deng_tup (n := 2) rfl (dengs_cons (deng_name 3 nd rfl (by first | exact .inl rfl | exact .inr rfl)) (dengs_cons (deng_tup (n := 2) rfl (dengs_cons (deng_name 4 nd rfl (by first | exact .inl rfl | exact .inr rfl)) (dengs_cons (deng_name 5 nd rfl (by first | exact .inl rfl | exact .inr rfl)) dengs_nil))) dengs_nil))) (denss_cons (dens_set 2 nd rfl (by first | exact .inl rfl | exact .inr rfl) (den_bin opD_mulB (dv 2) (den_call h_all_ways (hr.mono (by decide)) rfl (dena_cons (dv 3) (dena_cons (dv 4) dena_nil)))))
    denss_nil))
    (denss_cons (dens_ret (dv 2))
    denss_nil)))
theorem sc__waiting_next : FnScope ["hall", "book", "rank", "steps", "most", "last", "ways", "fewest", "places", "just", "place"] ["hall", "book", "rank", "steps"] (defScope s__waiting_next) := ⟨rfl, rfl, rfl, by decide +kernel, rfl, by decide +kernel, by decide +kernel⟩
theorem fn__waiting_next (d : Df K mg "_waiting_next" s__waiting_next ["hall", "book", "rank", "steps"]) (Z : Blt2 mg) (Y : ImpsP mg) (h_ways_to : Fd P w K mg base "ways_to" 2 2 F_ways_to) (h_ways_within : Fd P w K mg base "ways_within" 1 4 F_ways_within) (h_taken_by : Fd P w K mg base "taken_by" 1 2 F_taken_by) : Fd P w K mg base "_waiting_next" 3 4 F__waiting_next := by
  have nd := sc__waiting_next.nd
  exact Fd.of (B := B__waiting_next) d sc__waiting_next rfl fun f cdv A outer s H E hr => (denss_cons (dens_set 4 nd rfl (by first | exact .inl rfl | exact .inr rfl) (den_ix (den_ix (den_ix (dv 0) den_int) (dv 2)) den_int))
    (denss_cons (dens_set 5 nd rfl (by first | exact .inl rfl | exact .inr rfl) (den_ix (den_call h_ways_to (hr.mono (by decide)) rfl (dena_cons (dv 3) (dena_cons (dv 4) dena_nil))) (den_neg den_int)))
    (denss_cons (dens_set 6 nd rfl (by first | exact .inl rfl | exact .inr rfl) (den_call h_ways_within (hr.mono (by decide)) rfl (dena_cons (dv 5) (dena_cons (dv 4) (dena_cons den_int (dena_cons (den_bin opD_add (den_callB callD_len rfl Z.len_ (by decide +kernel) (dena_cons (dv 5) dena_nil)) (dv 4)) dena_nil))))))
    (denss_cons (dens_set 7 nd rfl (by first | exact .inl rfl | exact .inr rfl) (den_bin opD_sub (den_ix (den_ix (dv 3) (den_neg den_int)) den_int) (den_ix (den_call h_taken_by (hr.mono (by decide)) rfl (dena_cons (dv 1) (dena_cons (dv 2) dena_nil))) (den_neg den_int))))
    (denss_cons (dens_set 8 nd rfl (by first | exact .inl rfl | exact .inr rfl) (den_range2 rfl Z.range_ (dena_cons (den_neg (dv 7)) (dena_cons (den_bin opD_sub (den_bin opD_add (den_callB callD_len rfl Z.len_ (by decide +kernel) (dena_cons (den_ix (dv 0) den_int) dena_nil)) den_int) (dv 7)) dena_nil))))
    (denss_cons (dens_setLc (vs := [10]) 9 [("place", 10)] rfl nd rfl rfl (sw_true rfl rfl rfl (by decide +kernel)) (deni_rngV (dv 8)) (blkOk_by (by rfl)) (fun _ _ _ _ _ => (deng_name 10 nd rfl (by first | exact .inl rfl | exact .inr rfl))) (fun _ _ _ _ _ => dents_nil) (fun _ _ _ _ _ => (den_if (dent_chain opD_le (opD_lt hr.units0) den_int (dv 10) (den_callB callD_len rfl Z.len_ (by decide +kernel) (dena_cons (dv 6) dena_nil))) (den_ix (dv 6) (dv 10)) den_int)))
    (denss_cons (dens_ret (den_tup (dena_cons (dv 9) (dena_cons (den_frz (denn_lc (vs := [10]) [("place", 10)] rfl nd (deni_rngV (dv 8)) (blkOk_by (by rfl)) (fun _ _ _ _ _ => (deng_name 10 nd rfl (by first | exact .inl rfl | exact .inr rfl))) (fun _ _ _ _ _ => dents_nil) (fun _ _ _ _ _ => (den_callB (callD_sum rfl) rfl Z.sum_ (by decide +kernel) (dena_cons (den_slice (dv 6) (deno_some (den_callB (callD_max2 rfl) rfl Z.max_ (by decide +kernel) (dena_cons den_int (dena_cons (dv 10) dena_nil)))) deno_none) dena_nil))))) dena_nil))))
    denss_nil)))))))
theorem sc__with_turn : FnScope ["row", "emptied", "desk", "found", "place", "one"] ["row", "emptied", "desk"] (defScope s__with_turn) := ⟨rfl, rfl, rfl, by decide +kernel, rfl, by decide +kernel, by decide +kernel⟩
theorem fn__with_turn (d : Df K mg "_with_turn" s__with_turn ["row", "emptied", "desk"]) (Z : Blt2 mg) (Y : ImpsP mg) : Fd P w K mg base "_with_turn" 1 3 F__with_turn := by
  have nd := sc__with_turn.nd
  exact Fd.of (B := B__with_turn) d sc__with_turn rfl fun f cdv A outer s H E hr => (denss_cons (dens_setN 3 0 nd rfl (by first | exact .inl rfl | exact .inr rfl) (denn_lst (dena_cons (den_tup (dena_cons (den_tup (dena_star (dv 0) (dena_cons den_non dena_nil))) (dena_cons (den_tup (dena_star (dv 1) (dena_star (dv 2) dena_nil))) dena_nil))) dena_nil)))
    (denss_cons (dens_for PassesOwn.never rfl (deni_enum rfl Z.enumerate_ (dena_cons (dv 2) dena_nil)) (deng_tup (n := 2) rfl (dengs_cons (deng_name 4 nd rfl (by first | exact .inl rfl | exact .inr rfl)) (dengs_cons (deng_name 5 nd rfl (by first | exact .inl rfl | exact .inr rfl)) dengs_nil))) (denss_cons (dens_if (dent_cmp opD_notIn (dv 5) (dv 1)) (denss_cons (dens_app 3 rfl (by first | exact .inl rfl | exact .inr (.inl rfl) | exact .inr (.inr rfl)) (den_tup (dena_cons (den_tup (dena_star (dv 0) (dena_cons (dv 5) dena_nil))) (dena_cons (den_tup (dena_star (dv 1) (dena_star (den_slice (dv 2) deno_none (deno_some (dv 4))) dena_nil))) dena_nil))))
    denss_nil) denss_nil)
    denss_nil))
    (denss_frz 3 (denss_cons (dens_ret (dv 3))
    denss_nil))))
theorem sc__rows_next : FnScope ["hall", "columns", "stays", "found", "column", "desk", "row", "emptied", "longer"] ["hall", "columns"] (defScope s__rows_next) := ⟨rfl, rfl, rfl, by decide +kernel, rfl, by decide +kernel, by decide +kernel⟩
theorem fn__rows_next (d : Df K mg "_rows_next" s__rows_next ["hall", "columns"]) (Z : Blt2 mg) (Y : ImpsP mg) (h_all_stays : Fd P w K mg base "all_stays" 1 1 F_all_stays) (h_free_from : Fd P w K mg base "free_from" 1 2 F_free_from) (h__with_turn : Fd P w K mg base "_with_turn" 1 3 F__with_turn) : Fd P w K mg base "_rows_next" 2 2 F__rows_next := by
  have nd := sc__rows_next.nd
  exact Fd.of (B := B__rows_next) d sc__rows_next rfl fun f cdv A outer s H E hr => (denss_cons (dens_set 2 nd rfl (by first | exact .inl rfl | exact .inr rfl) (den_call h_all_stays (hr.mono (by decide)) rfl (dena_cons (dv 0) dena_nil)))
    (denss_cons (dens_set 3 nd rfl (by first | exact .inl rfl | exact .inr rfl) (den_lst (dena_cons (den_tup (dena_cons (den_tup dena_nil) (dena_cons (den_tup dena_nil) dena_nil))) dena_nil)))
    (denss_cons (dens_for PassesOwn.never rfl (deni_zip2 rfl Z.zip_ (dena_cons (dv 1) (dena_cons (den_ix (dv 0) den_int) dena_nil))) (deng_tup (n := 2) rfl (dengs_cons (deng_name 4 nd rfl (by first | exact .inl rfl | exact .inr rfl)) (dengs_cons (deng_name 5 nd rfl (by first | exact .inl rfl | exact .inr rfl)) dengs_nil))) (denss_cons (dens_if (dent_cmp opD_gt (den_call h_free_from (hr.mono (by decide)) rfl (dena_cons (dv 2) (dena_cons (dv 4) dena_nil))) (den_callB callD_len rfl Z.len_ (by decide +kernel) (dena_cons (dv 4) dena_nil))) (denss_cons (dens_setLc (vs := [6, 7]) 3 [("row", 6), ("emptied", 7)] rfl nd rfl rfl (sw_true rfl rfl rfl (by decide +kernel)) (deni_seq (dv 3)) (blkOk_by (by rfl)) (fun _ _ _ _ _ => (deng_tup (n := 2) rfl (dengs_cons (deng_name 6 nd rfl (by first | exact .inl rfl | exact .inr rfl)) (dengs_cons (deng_name 7 nd rfl (by first | exact .inl rfl | exact .inr rfl)) dengs_nil)))) (fun _ _ _ _ _ => dents_nil) (fun _ _ _ _ _ => (den_tup (dena_cons (den_tup (dena_star (dv 6) (dena_cons den_non dena_nil))) (dena_cons (dv 7) dena_nil)))))
    denss_nil) (denss_cons (dens_setLcc (vs := [6, 7, 8]) (vs1 := [8]) 3 [("row", 6), ("emptied", 7), ("longer", 8)] rfl nd rfl rfl (sw_true rfl rfl rfl (by decide +kernel)) (deni_seq (dv 3)) (blkOk_by (by rfl)) (fun _ _ _ _ _ => (deng_tup (n := 2) rfl (dengs_cons (deng_name 6 nd rfl (by first | exact .inl rfl | exact .inr rfl)) (dengs_cons (deng_name 7 nd rfl (by first | exact .inl rfl | exact .inr rfl)) dengs_nil)))) (fun _ _ _ _ _ => dents_nil) (fun _ _ _ _ _ => (deni_seq (den_call h__with_turn (hr.mono (by decide)) rfl (dena_cons (dv 6) (dena_cons (dv 7) (dena_cons (dv 5) dena_nil)))))) (fun _ _ _ _ _ => (deng_name 8 nd rfl (by first | exact .inl rfl | exact .inr rfl))) (fun _ _ _ _ _ => dents_nil) (fun _ _ _ _ _ => (dv 8)))
    denss_nil))
    denss_nil))
    (denss_cons (dens_ret (dv 3))
    denss_nil))))
theorem sc_nexts : FnScope ["hall", "book", "looks", "columns", "every", "waiting", "found", "row", "emptied", "many", "rank", "just", "more", "taken", "steps"] ["hall", "book", "looks"] (defScope s_nexts) := ⟨rfl, rfl, rfl, by decide +kernel, rfl, by decide +kernel, by decide +kernel⟩
theorem fn_nexts (d : Df K mg "nexts" s_nexts ["hall", "book", "looks"]) (Z : Blt2 mg) (Y : ImpsP mg) (h_need_written : Fd P w K mg base "need_written" 6 3 F_need_written) (h_all_steps : Fd P w K mg base "all_steps" 4 3 F_all_steps) (h__waiting_next : Fd P w K mg base "_waiting_next" 3 4 F__waiting_next) (h__rows_next : Fd P w K mg base "_rows_next" 2 2 F__rows_next) : FdN P w K mg base "nexts" 7 3 1 F_nexts := by
  have nd := sc_nexts.nd
  exact FdN.of (B := B_nexts) d sc_nexts rfl fun f cdv A outer s H E hr => (denssN_cons (dens_set 3 nd rfl (by first | exact .inl rfl | exact .inr rfl) (den_call h_need_written (hr.mono (by decide)) rfl (dena_cons (dv 0) (dena_cons (dv 1) (dena_cons (dv 2) dena_nil))))) (denssN_cons (dens_set 4 nd rfl (by first | exact .inl rfl | exact .inr rfl) (den_call h_all_steps (hr.mono (by decide)) rfl (dena_cons (dv 0) (dena_cons (dv 3) (dena_cons (dv 2) dena_nil))))) (denssN_if (dent_isN (dv 4)) (denssN_ret (denn_lst dena_nil)) (denssN_cons (dens_setLc (vs := [10, 14]) 5 [("rank", 10), ("steps", 14)] rfl nd rfl rfl (sw_true rfl rfl rfl (by decide +kernel)) (deni_enum rfl Z.enumerate_ (dena_cons (dv 4) dena_nil)) (blkOk_by (by rfl)) (fun _ _ _ _ _ => (deng_tup (n := 2) rfl (dengs_cons (deng_name 10 nd rfl (by first | exact .inl rfl | exact .inr rfl)) (dengs_cons (deng_name 14 nd rfl (by first | exact .inl rfl | exact .inr rfl)) dengs_nil)))) (fun _ _ _ _ _ => dents_nil) (fun _ _ _ _ _ => (den_call h__waiting_next (hr.mono (by decide)) rfl (dena_cons (dv 0) (dena_cons (dv 1) (dena_cons (dv 10) (dena_cons (dv 14) dena_nil))))))) (denssN_cons (dens_setN 6 0 nd rfl (by first | exact .inl rfl | exact .inr rfl) (denn_lst dena_nil)) (denssN_cons (dens_for PassesOwn.never rfl (deni_seq (den_call h__rows_next (hr.mono (by decide)) rfl (dena_cons (dv 0) (dena_cons (dv 3) dena_nil)))) (deng_tup (n := 2) rfl (dengs_cons (deng_name 7 nd rfl (by first | exact .inl rfl | exact .inr rfl)) (dengs_cons (deng_name 8 nd rfl (by first | exact .inl rfl | exact .inr rfl)) dengs_nil))) (denss_cons (dens_set 9 nd rfl (by first | exact .inl rfl | exact .inr rfl) den_int)
    (denss_cons (dens_for PassesOwn.never rfl (deni_enum rfl Z.enumerate_ (dena_cons (dv 5) dena_nil)) (deng_tup (n := 2) rfl (dengs_cons (deng_name 10 nd rfl (by first | exact .inl rfl | exact .inr rfl)) (dengs_cons (deng_tup (n := 2) rfl (dengs_cons (deng_name 11 nd rfl (by first | exact .inl rfl | exact .inr rfl)) (dengs_cons (deng_name 12 nd rfl (by first | exact .inl rfl | exact .inr rfl)) dengs_nil))) dengs_nil))) (denss_cons (dens_set 13 nd rfl (by first | exact .inl rfl | exact .inr rfl) (den_count (dv 7) (dv 10) hr.units))
    (denss_cons (dens_set 9 nd rfl (by first | exact .inl rfl | exact .inr rfl) (den_bin opD_mulB (dv 9) (den_if (dent_cmp opD_in (dv 10) (dv 8)) (den_ix (dv 11) (dv 13)) (den_ix (dv 12) (dv 13)))))
    denss_nil)))
    (denss_cons (dens_if (dent_cmp opD_gt (dv 9) den_int) (denss_cons (dens_app 6 rfl (by first | exact .inl rfl | exact .inr (.inl rfl) | exact .inr (.inr rfl)) (den_tup (dena_cons (dv 7) (dena_cons (dv 9) dena_nil))))
    denss_nil) denss_nil)
    denss_nil)))) (denssN_ret (denn_give 6 0 rfl (by first | exact .inl rfl | exact .inr (.inl rfl) | exact .inr (.inr rfl))))))))))
theorem sc__worst_answers : FnScope ["steps", "most", "ahead", "worst", "to", "on", "ways", "more"] ["steps", "most"] (defScope s__worst_answers) := ⟨rfl, rfl, rfl, by decide +kernel, rfl, by decide +kernel, by decide +kernel⟩
theorem fn__worst_answers (d : Df K mg "_worst_answers" s__worst_answers ["steps", "most"]) (Z : Blt2 mg) (Y : ImpsP mg) (h_ways_to : Fd P w K mg base "ways_to" 2 2 F_ways_to) (h_ways_on : Fd P w K mg base "ways_on" 2 2 F_ways_on) : Fd P w K mg base "_worst_answers" 3 2 F__worst_answers := by
  have nd := sc__worst_answers.nd
  exact Fd.of (B := B__worst_answers) d sc__worst_answers rfl fun f cdv A outer s H E hr => (denss_cons (dens_set 2 nd rfl (by first | exact .inl rfl | exact .inr rfl) (den_call h_ways_to (hr.mono (by decide)) rfl (dena_cons (dv 0) (dena_cons (dv 1) dena_nil))))
    (denss_cons (dens_setN 3 0 nd rfl (by first | exact .inl rfl | exact .inr rfl) (denn_lst dena_nil))
    (denss_cons (dens_for PassesOwn.never rfl (deni_zip2 rfl Z.zip_ (dena_cons (dv 2) (dena_cons (den_call h_ways_on (hr.mono (by decide)) rfl (dena_cons (dv 0) (dena_cons (dv 1) dena_nil))) dena_nil))) (deng_tup (n := 2) rfl (dengs_cons (deng_name 4 nd rfl (by first | exact .inl rfl | exact .inr rfl)) (dengs_cons (deng_name 5 nd rfl (by first | exact .inl rfl | exact .inr rfl)) dengs_nil))) (denss_cons (dens_app 3 rfl (by first | exact .inl rfl | exact .inr (.inl rfl) | exact .inr (.inr rfl)) (den_callB (callD_maxL rfl) rfl Z.max_ (by decide +kernel) (dena_cons (den_frz (denn_lc (vs := [6, 7]) [("ways", 6), ("more", 7)] rfl nd (deni_zip2 rfl Z.zip_ (dena_cons (dv 4) (dena_cons (dv 5) dena_nil))) (blkOk_by (by rfl)) (fun _ _ _ _ _ => (deng_tup (n := 2) rfl (dengs_cons (deng_name 6 nd rfl (by first | exact .inl rfl | exact .inr rfl)) (dengs_cons (deng_name 7 nd rfl (by first | exact .inl rfl | exact .inr rfl)) dengs_nil)))) (fun _ _ _ _ _ => dents_nil) (fun _ _ _ _ _ => (den_bin opD_mulB (dv 6) (dv 7))))) dena_nil)))
    denss_nil))
    (denss_frz 3 (denss_cons (dens_ret (den_tup (dena_cons (den_callB (callD_sum rfl) rfl Z.sum_ (by decide +kernel) (dena_cons (den_ix (dv 2) (den_neg den_int)) dena_nil)) (dena_cons (dv 3) dena_nil))))
    denss_nil)))))
theorem sc_best_look : FnScope ["hall", "book", "looks", "columns", "every", "answers", "comings", "many", "_", "looked", "rank", "worst", "fewest", "tick", "steps", "most", "left"] ["hall", "book", "looks"] (defScope s_best_look) := ⟨rfl, rfl, rfl, by decide +kernel, rfl, by decide +kernel, by decide +kernel⟩
theorem fn_best_look (d : Df K mg "best_look" s_best_look ["hall", "book", "looks"]) (Z : Blt2 mg) (Y : ImpsP mg) (h_need_written : Fd P w K mg base "need_written" 6 3 F_need_written) (h_all_steps : Fd P w K mg base "all_steps" 4 3 F_all_steps) (h__worst_answers : Fd P w K mg base "_worst_answers" 3 2 F__worst_answers) : Fd P w K mg base "best_look" 7 3 F_best_look := by
  have nd := sc_best_look.nd
  exact Fd.of (B := B_best_look) d sc_best_look rfl fun f cdv A outer s H E hr => (denss_cons (dens_set 3 nd rfl (by first | exact .inl rfl | exact .inr rfl) (den_call h_need_written (hr.mono (by decide)) rfl (dena_cons (dv 0) (dena_cons (dv 1) (dena_cons (dv 2) dena_nil)))))
    (denss_cons (dens_set 4 nd rfl (by first | exact .inl rfl | exact .inr rfl) (den_call h_all_steps (hr.mono (by decide)) rfl (dena_cons (dv 0) (dena_cons (dv 3) (dena_cons (dv 2) dena_nil)))))
    (denss_cons (dens_if (dent_isN (dv 4)) (denss_cons (dens_ret den_non)
    denss_nil) denss_nil)
    (denss_cons (dens_setLc (vs := [14, 15, 8]) 5 [("steps", 14), ("most", 15), ("_", 8)] rfl nd rfl rfl (sw_true rfl rfl rfl (by decide +kernel)) (deni_zip2 rfl Z.zip_ (dena_cons (dv 4) (dena_cons (den_ix (dv 0) den_int) dena_nil))) (blkOk_by (by rfl)) (fun _ _ _ _ _ => (deng_tup (n := 2) rfl (dengs_cons (deng_name 14 nd rfl (by first | exact .inl rfl | exact .inr rfl)) (dengs_cons (deng_tup (n := 2) rfl (dengs_cons (deng_name 15 nd rfl (by first | exact .inl rfl | exact .inr rfl)) (dengs_cons (deng_name 8 nd rfl (by first | exact .inl rfl | exact .inr rfl)) dengs_nil))) dengs_nil)))) (fun _ _ _ _ _ => dents_nil) (fun _ _ _ _ _ => (den_call h__worst_answers (hr.mono (by decide)) rfl (dena_cons (dv 14) (dena_cons (dv 15) dena_nil)))))
    (denss_cons (dens_set 6 nd rfl (by first | exact .inl rfl | exact .inr rfl) den_int)
    (denss_cons (dens_for PassesOwn.never rfl (deni_seq (dv 5)) (deng_tup (n := 2) rfl (dengs_cons (deng_name 7 nd rfl (by first | exact .inl rfl | exact .inr rfl)) (dengs_cons (deng_name 8 nd rfl (by first | exact .inl rfl | exact .inr rfl)) dengs_nil))) (denss_cons (dens_set 6 nd rfl (by first | exact .inl rfl | exact .inr rfl) (den_bin opD_mulB (dv 6) (dv 7)))
    denss_nil))
    (denss_cons (dens_if (dent_cmp (opD_eq hr.units) (dv 6) den_int) (denss_cons (dens_ret den_non)
    denss_nil) denss_nil)
    (denss_cons (dens_setN 9 0 nd rfl (by first | exact .inl rfl | exact .inr rfl) (denn_lst dena_nil))
    (denss_cons (dens_for PassesOwn.never rfl (deni_enum rfl Z.enumerate_ (dena_cons (dv 5) dena_nil)) (deng_tup (n := 2) rfl (dengs_cons (deng_name 10 nd rfl (by first | exact .inl rfl | exact .inr rfl)) (dengs_cons (deng_tup (n := 2) rfl (dengs_cons (deng_name 7 nd rfl (by first | exact .inl rfl | exact .inr rfl)) (dengs_cons (deng_name 11 nd rfl (by first | exact .inl rfl | exact .inr rfl)) dengs_nil))) dengs_nil))) (denss_cons (dens_ext 9 nd rfl (by first | exact .inl rfl | exact .inr rfl) (den_frz (denn_lc (vs := [13, 16]) [("tick", 13), ("left", 16)] rfl nd (deni_enum rfl Z.enumerate_ (dena_cons (dv 11) dena_nil)) (blkOk_by (by rfl)) (fun _ _ _ _ _ => (deng_tup (n := 2) rfl (dengs_cons (deng_name 13 nd rfl (by first | exact .inl rfl | exact .inr rfl)) (dengs_cons (deng_name 16 nd rfl (by first | exact .inl rfl | exact .inr rfl)) dengs_nil)))) (fun _ _ _ _ _ => dents_nil) (fun _ _ _ _ _ => (den_tup (dena_cons (den_bin opD_mulB (den_bin opD_divB (dv 6) (dv 7)) (dv 16)) (dena_cons (dv 13) (dena_cons (dv 10) dena_nil))))))))
    denss_nil))
    (denss_frz 9 (denss_cons (dens_asg (den_callB (callD_minTs rfl hr.units) rfl Z.min_ (by decide +kernel) (dena_cons (dv 9) dena_nil)) (deng_tup (n := 3) rfl (dengs_cons (deng_name 12 nd rfl (by first | exact .inl rfl | exact .inr rfl)) (dengs_cons (deng_name 13 nd rfl (by first | exact .inl rfl | exact .inr rfl)) (dengs_cons (deng_name 10 nd rfl (by first | exact .inl rfl | exact .inr rfl)) dengs_nil)))))
    (denss_cons (dens_ret (den_tup (dena_cons (dv 13) (dena_cons (dv 10) (dena_cons (dv 12) dena_nil)))))
    denss_nil))))))))))))
theorem sc__orders_with : FnScope ["hall", "pairs", "found", "order", "one", "other"] ["hall", "pairs"] (defScope s__orders_with) := ⟨rfl, rfl, rfl, by decide +kernel, rfl, by decide +kernel, by decide +kernel⟩
theorem fn__orders_with (d : Df K mg "_orders_with" s__orders_with ["hall", "pairs"]) (Z : Blt2 mg) (Y : ImpsP mg) : Fd P w K mg base "_orders_with" 1 2 F__orders_with := by
  have nd := sc__orders_with.nd
  exact Fd.of (B := B__orders_with) d sc__orders_with rfl fun f cdv A outer s H E hr => (denss_cons (dens_setN 2 0 nd rfl (by first | exact .inl rfl | exact .inr rfl) (denn_lst dena_nil))
    (denss_cons (dens_for PassesOwn.never rfl (deni_perm rfl (den_range1 rfl Z.range_ (dena_cons (den_callB callD_len rfl Z.len_ (by decide +kernel) (dena_cons (den_ix (dv 0) den_int) dena_nil)) dena_nil)) rfl Y.perm) (deng_name 3 nd rfl (by first | exact .inl rfl | exact .inr rfl)) (denss_cons (dens_if (dent_val (den_callB (callD_all rfl) rfl Z.all_ (by decide +kernel) (dena_cons (den_frz (denn_lc (vs := [4, 5]) [("one", 4), ("other", 5)] rfl nd (deni_seq (dv 1)) (blkOk_by (by rfl)) (fun _ _ _ _ _ => (deng_tup (n := 2) rfl (dengs_cons (deng_name 4 nd rfl (by first | exact .inl rfl | exact .inr rfl)) (dengs_cons (deng_name 5 nd rfl (by first | exact .inl rfl | exact .inr rfl)) dengs_nil)))) (fun _ _ _ _ _ => dents_nil) (fun _ _ _ _ _ => (den_cmp (opD_lt hr.units0) (den_indexT (dv 3) (dv 4)) (den_indexT (dv 3) (dv 5)))))) dena_nil))) (denss_cons (dens_app 2 rfl (by first | exact .inl rfl | exact .inr (.inl rfl) | exact .inr (.inr rfl)) (dv 3))
    denss_nil) denss_nil)
    denss_nil))
    (denss_frz 2 (denss_cons (dens_ret (dv 2))
    denss_nil))))
theorem sc__up : FnScope ["hall", "turns", "rank", "behind"] ["hall", "turns", "rank", "behind"] (defScope s__up) := ⟨rfl, rfl, rfl, by decide +kernel, rfl, by decide +kernel, by decide +kernel⟩
theorem fn__up (d : Df K mg "_up" s__up ["hall", "turns", "rank", "behind"]) (Z : Blt2 mg) (Y : ImpsP mg) (h_steps_up : Fd P w K mg base "steps_up" 1 4 F_steps_up) (h_told_of : Fd P w K mg base "told_of" 1 5 F_told_of) : Fd P w K mg base "_up" 2 4 F__up := by
  have nd := sc__up.nd
  exact Fd.of (B := B__up) d sc__up rfl fun f cdv A outer s H E hr => (denss_cons (dens_ret (den_call h_steps_up (hr.mono (by decide)) rfl (dena_cons (den_call h_told_of (hr.mono (by decide)) rfl (dena_cons (dv 0) (dena_cons (dv 1) (dena_cons (dv 2) (dena_cons (dv 3) (dena_cons den_int dena_nil)))))) (dena_cons (den_ix (den_ix (den_ix (dv 0) den_int) (dv 2)) den_int) (dena_cons den_int (dena_cons den_int dena_nil))))))
    denss_nil)
theorem sc__pairs : FnScope ["hall", "turns", "ranks", "one", "other"] ["hall", "turns"] (defScope s__pairs) := ⟨rfl, rfl, rfl, by decide +kernel, rfl, by decide +kernel, by decide +kernel⟩
theorem fn__pairs (d : Df K mg "_pairs" s__pairs ["hall", "turns"]) (Z : Blt2 mg) (Y : ImpsP mg) (h_is_barred : Fd P w K mg base "is_barred" 1 1 F_is_barred) (h__up : Fd P w K mg base "_up" 2 4 F__up) : Fd P w K mg base "_pairs" 3 2 F__pairs := by
  have nd := sc__pairs.nd
  exact Fd.of (B := B__pairs) d sc__pairs rfl fun f cdv A outer s H E hr => (denss_cons (dens_set 2 nd rfl (by first | exact .inl rfl | exact .inr rfl) (den_range1 rfl Z.range_ (dena_cons (den_callB callD_len rfl Z.len_ (by decide +kernel) (dena_cons (den_ix (dv 0) den_int) dena_nil)) dena_nil)))
    (denss_cons (dens_ret (den_frz (denn_lcc (vs := [3, 4]) (vs1 := [4]) [("one", 3), ("other", 4)] rfl nd (deni_rngV (dv 2)) (blkOk_by (by rfl)) (fun _ _ _ _ _ => (deng_name 3 nd rfl (by first | exact .inl rfl | exact .inr rfl))) (fun _ _ _ _ _ => dents_nil) (fun _ _ _ _ _ => (deni_rngV (dv 2))) (fun _ _ _ _ _ => (deng_name 4 nd rfl (by first | exact .inl rfl | exact .inr rfl))) (fun _ _ _ _ _ => (dents_one (dent_val (den_call h_is_barred (hr.mono (by decide)) rfl (dena_cons (den_call h__up (hr.mono (by decide)) rfl (dena_cons (dv 0) (dena_cons (dv 1) (dena_cons (dv 4) (dena_cons (den_tup (dena_cons (dv 3) dena_nil)) dena_nil))))) dena_nil))))) (fun _ _ _ _ _ => (den_tup (dena_cons (dv 3) (dena_cons (dv 4) dena_nil)))))))
    denss_nil))
theorem sc__ways_of : FnScope ["hall", "turns", "rank", "behind", "most"] ["hall", "turns", "rank", "behind"] (defScope s__ways_of) := ⟨rfl, rfl, rfl, by decide +kernel, rfl, by decide +kernel, by decide +kernel⟩
theorem fn__ways_of (d : Df K mg "_ways_of" s__ways_of ["hall", "turns", "rank", "behind"]) (Z : Blt2 mg) (Y : ImpsP mg) (h_all_ways : Fd P w K mg base "all_ways" 3 2 F_all_ways) (h_steps_down : FdN P w K mg base "steps_down" 1 2 1 F_steps_down) (h__up : Fd P w K mg base "_up" 2 4 F__up) : Fd P w K mg base "_ways_of" 4 4 F__ways_of := by
  have nd := sc__ways_of.nd
  exact Fd.of (B := B__ways_of) d sc__ways_of rfl fun f cdv A outer s H E hr => (denss_cons (dens_set 4 nd rfl (by first | exact .inl rfl | exact .inr rfl) (den_ix (den_ix (den_ix (dv 0) den_int) (dv 2)) den_int))
    (denss_cons (dens_ret (den_call h_all_ways (hr.mono (by decide)) rfl (dena_cons (den_frz (denn_call h_steps_down (hr.mono (by decide)) rfl (dena_cons (den_call h__up (hr.mono (by decide)) rfl (dena_cons (dv 0) (dena_cons (dv 1) (dena_cons (dv 2) (dena_cons (dv 3) dena_nil))))) (dena_cons (dv 4) dena_nil)))) (dena_cons (dv 4) dena_nil))))
    denss_nil))
theorem sc_orders : FnScope ["hall", "book", "turns", "known", "found", "order", "many", "place", "rank", "behind"] ["hall", "book"] (defScope s_orders) := ⟨rfl, rfl, rfl, by decide +kernel, rfl, by decide +kernel, by decide +kernel⟩
theorem fn_orders (d : Df K mg "orders" s_orders ["hall", "book"]) (Z : Blt2 mg) (Y : ImpsP mg) (h_need_hall : Fd P w K mg base "need_hall" 5 1 F_need_hall) (h_all_turns : Fd P w K mg base "all_turns" 2 2 F_all_turns) (h_need_book : Fd P w K mg base "need_book" 4 2 F_need_book) (h__orders_with : Fd P w K mg base "_orders_with" 1 2 F__orders_with) (h__pairs : Fd P w K mg base "_pairs" 3 2 F__pairs) (h__ways_of : Fd P w K mg base "_ways_of" 4 4 F__ways_of) : FdN P w K mg base "orders" 6 2 1 F_orders := by
  have nd := sc_orders.nd
  exact FdN.of (B := B_orders) d sc_orders rfl fun f cdv A outer s H E hr => (denssN_cons (dens_expr (den_call h_need_hall (hr.mono (by decide)) rfl (dena_cons (dv 0) dena_nil))) (denssN_cons (dens_set 2 nd rfl (by first | exact .inl rfl | exact .inr rfl) (den_call h_all_turns (hr.mono (by decide)) rfl (dena_cons (dv 0) (dena_cons (den_call h_need_book (hr.mono (by decide)) rfl (dena_cons (dv 0) (dena_cons (dv 1) dena_nil))) dena_nil)))) (denssN_cons (dens_setN 3 1 nd rfl (by first | exact .inl rfl | exact .inr rfl) denn_dnewN) (denssN_cons (dens_setN 4 0 nd rfl (by first | exact .inl rfl | exact .inr rfl) (denn_lst dena_nil)) (denssN_cons (dens_for PassesOwn.never rfl (deni_seq (den_call h__orders_with (hr.mono (by decide)) rfl (dena_cons (dv 0) (dena_cons (den_call h__pairs (hr.mono (by decide)) rfl (dena_cons (dv 0) (dena_cons (dv 2) dena_nil))) dena_nil)))) (deng_name 5 nd rfl (by first | exact .inl rfl | exact .inr rfl)) (denss_cons (dens_set 6 nd rfl (by first | exact .inl rfl | exact .inr rfl) den_int)
    (denss_cons (dens_for PassesOwn.never rfl (deni_enum rfl Z.enumerate_ (dena_cons (dv 5) dena_nil)) (deng_tup (n := 2) rfl (dengs_cons (deng_name 7 nd rfl (by first | exact .inl rfl | exact .inr rfl)) (dengs_cons (deng_name 8 nd rfl (by first | exact .inl rfl | exact .inr rfl)) dengs_nil))) (denss_cons (dens_set 9 nd rfl (by first | exact .inl rfl | exact .inr rfl) (den_callTy callD_tuple rfl Z.tuple_ (by decide +kernel) (dena_cons (den_callB callD_sortT rfl Z.sorted_ (by decide +kernel) (dena_cons (den_slice (dv 5) (deno_some (den_bin opD_add (dv 7) den_int)) deno_none) dena_nil)) dena_nil)))
    (denss_cons (dens_if (dent_lend (dent_cmp (opD_notInNk hr.units) (den_tup (dena_cons (dv 8) (dena_cons (dv 9) dena_nil))) (dv 3))) (denss_cons (dens_nput 3 hr.units rfl (by first | exact .inl rfl | exact .inr (.inl rfl) | exact .inr (.inr rfl)) (den_call h__ways_of (hr.mono (by decide)) rfl (dena_cons (dv 0) (dena_cons (dv 2) (dena_cons (dv 8) (dena_cons (dv 9) dena_nil))))) (den_tup (dena_cons (dv 8) (dena_cons (dv 9) dena_nil))))
    denss_nil) denss_nil)
    (denss_cons (dens_set 6 nd rfl (by first | exact .inl rfl | exact .inr rfl) (den_lend (den_bin opD_mulB (dv 6) (den_nix hr.units (dv 3) (den_tup (dena_cons (dv 8) (dena_cons (dv 9) dena_nil)))))))
    denss_nil))))
    (denss_cons (dens_app 4 rfl (by first | exact .inl rfl | exact .inr (.inl rfl) | exact .inr (.inr rfl)) (den_tup (dena_cons (dv 5) (dena_cons (dv 6) dena_nil))))
    denss_nil)))) (denssN_ret (denn_give 4 0 rfl (by first | exact .inl rfl | exact .inr (.inl rfl) | exact .inr (.inr rfl)))))))))
theorem sc_must_be_ahead : FnScope ["hall", "book", "turns", "pairs"] ["hall", "book"] (defScope s_must_be_ahead) := ⟨rfl, rfl, rfl, by decide +kernel, rfl, by decide +kernel, by decide +kernel⟩
theorem fn_must_be_ahead (d : Df K mg "must_be_ahead" s_must_be_ahead ["hall", "book"]) (Z : Blt2 mg) (Y : ImpsP mg) (h_need_hall : Fd P w K mg base "need_hall" 5 1 F_need_hall) (h_all_turns : Fd P w K mg base "all_turns" 2 2 F_all_turns) (h_need_book : Fd P w K mg base "need_book" 4 2 F_need_book) (h__pairs : Fd P w K mg base "_pairs" 3 2 F__pairs) (h__orders_with : Fd P w K mg base "_orders_with" 1 2 F__orders_with) : Fd P w K mg base "must_be_ahead" 6 2 F_must_be_ahead := by
  have nd := sc_must_be_ahead.nd
  exact Fd.of (B := B_must_be_ahead) d sc_must_be_ahead rfl fun f cdv A outer s H E hr => (denss_cons (dens_expr (den_call h_need_hall (hr.mono (by decide)) rfl (dena_cons (dv 0) dena_nil)))
    (denss_cons (dens_set 2 nd rfl (by first | exact .inl rfl | exact .inr rfl) (den_call h_all_turns (hr.mono (by decide)) rfl (dena_cons (dv 0) (dena_cons (den_call h_need_book (hr.mono (by decide)) rfl (dena_cons (dv 0) (dena_cons (dv 1) dena_nil))) dena_nil))))
    (denss_cons (dens_set 3 nd rfl (by first | exact .inl rfl | exact .inr rfl) (den_call h__pairs (hr.mono (by decide)) rfl (dena_cons (dv 0) (dena_cons (dv 2) dena_nil))))
    (denss_cons (dens_ret (den_if (dent_val (den_call h__orders_with (hr.mono (by decide)) rfl (dena_cons (dv 0) (dena_cons (dv 3) dena_nil)))) (dv 3) den_non))
    denss_nil))))
theorem sc_how_many : FnScope ["hall", "book", "looks", "columns", "every"] ["hall", "book", "looks"] (defScope s_how_many) := ⟨rfl, rfl, rfl, by decide +kernel, rfl, by decide +kernel, by decide +kernel⟩
theorem fn_how_many (d : Df K mg "how_many" s_how_many ["hall", "book", "looks"]) (Z : Blt2 mg) (Y : ImpsP mg) (h_need_written : Fd P w K mg base "need_written" 6 3 F_need_written) (h_all_steps : Fd P w K mg base "all_steps" 4 3 F_all_steps) (h_all_comings : Fd P w K mg base "all_comings" 4 2 F_all_comings) : Fd P w K mg base "how_many" 7 3 F_how_many := by
  have nd := sc_how_many.nd
  exact Fd.of (B := B_how_many) d sc_how_many rfl fun f cdv A outer s H E hr => (denss_cons (dens_set 3 nd rfl (by first | exact .inl rfl | exact .inr rfl) (den_call h_need_written (hr.mono (by decide)) rfl (dena_cons (dv 0) (dena_cons (dv 1) (dena_cons (dv 2) dena_nil)))))
    (denss_cons (dens_set 4 nd rfl (by first | exact .inl rfl | exact .inr rfl) (den_call h_all_steps (hr.mono (by decide)) rfl (dena_cons (dv 0) (dena_cons (dv 3) (dena_cons (dv 2) dena_nil)))))
    (denss_cons (dens_ret (den_if (dent_isN (dv 4)) den_int (den_call h_all_comings (hr.mono (by decide)) rfl (dena_cons (dv 0) (dena_cons (dv 4) dena_nil)))))
    denss_nil)))
theorem sc_how_many_of : FnScope ["hall", "book", "looks", "rank", "columns", "steps"] ["hall", "book", "looks", "rank"] (defScope s_how_many_of) := ⟨rfl, rfl, rfl, by decide +kernel, rfl, by decide +kernel, by decide +kernel⟩
theorem fn_how_many_of (d : Df K mg "how_many_of" s_how_many_of ["hall", "book", "looks", "rank"]) (Z : Blt2 mg) (Y : ImpsP mg) (h_need_written : Fd P w K mg base "need_written" 6 3 F_need_written) (h_need_rank : Fd P w K mg base "need_rank" 3 2 F_need_rank) (h_steps_of : FdO P w K mg base "steps_of" 4 4 1 F_steps_of) (h_all_ways : Fd P w K mg base "all_ways" 3 2 F_all_ways) : Fd P w K mg base "how_many_of" 7 4 F_how_many_of := by
  have nd := sc_how_many_of.nd
  exact Fd.of (B := B_how_many_of) d sc_how_many_of rfl fun f cdv A outer s H E hr => (denss_cons (dens_set 4 nd rfl (by first | exact .inl rfl | exact .inr rfl) (den_call h_need_written (hr.mono (by decide)) rfl (dena_cons (dv 0) (dena_cons (dv 1) (dena_cons (dv 2) dena_nil)))))
    (denss_cons (dens_expr (den_call h_need_rank (hr.mono (by decide)) rfl (dena_cons (dv 0) (dena_cons (dv 3) dena_nil))))
    (denss_cons (dens_set 5 nd rfl (by first | exact .inl rfl | exact .inr rfl) (denno_frz (denno_call h_steps_of (hr.mono (by decide)) rfl (dena_cons (dv 0) (dena_cons (dv 4) (dena_cons (dv 2) (dena_cons (dv 3) dena_nil)))))))
    (denss_cons (dens_ret (den_if (dent_isN (dv 5)) den_int (den_call h_all_ways (hr.mono (by decide)) rfl (dena_cons (dv 5) (dena_cons (den_ix (den_ix (den_ix (dv 0) den_int) (dv 3)) den_int) dena_nil)))))
    denss_nil))))
theorem sc__law_well : FnScope ["cell", "turn"] ["cell", "turn"] (defScope s__law_well) := ⟨rfl, rfl, rfl, by decide +kernel, rfl, by decide +kernel, by decide +kernel⟩
theorem fn__law_well (d : Df K mg "_law_well" s__law_well ["cell", "turn"]) (Z : Blt2 mg) (Y : ImpsP mg) : FdN P w K mg base "_law_well" 1 2 1 F__law_well := by
  have nd := sc__law_well.nd
  exact FdN.of (B := B__law_well) d sc__law_well rfl fun f cdv A outer s H E hr => (denssN_if (dent_cmp opD_ge (dv 0) (den_bin opD_pow den_int den_int)) (denssN_ret (denn_lst (dena_cons (den_bin opD_sub (dv 0) (den_bin opD_pow den_int den_int)) (dena_cons (den_bin opD_mod (dv 0) den_int) (dena_cons (dv 1) dena_nil))))) (denssN_ret (denn_lst (dena_cons den_int (dena_cons (den_bin opD_mod (dv 0) den_int) (dena_cons (dv 1) dena_nil))))))
theorem sc__law_take : FnScope ["bag", "many", "found", "p", "n"] ["bag", "many"] (defScope s__law_take) := ⟨rfl, rfl, rfl, by decide +kernel, rfl, by decide +kernel, by decide +kernel⟩
theorem fn__law_take (d : Df K mg "_law_take" s__law_take ["bag", "many"]) (Z : Blt2 mg) (Y : ImpsP mg) : FdIO P w K mg base "_law_take" 1 [some 0, none] F__law_take := by
  have nd := sc__law_take.nd
  exact FdIO.of (B := B__law_take) d sc__law_take rfl fun f cdv A outer s H E hr => (denss_cons (dens_if (dent_lend (dent_cmp opD_gt (den_ix (dv 0) den_int) den_int)) (denss_cons (dens_set 2 nd rfl (by first | exact .inl rfl | exact .inr rfl) (den_lend (den_bin opD_mod (den_ix (dv 0) den_int) (dv 1))))
    (denss_cons (dens_put 0 rfl (by first | exact .inl rfl | exact .inr (.inl rfl) | exact .inr (.inr rfl)) (den_lend (den_bin opD_divB (den_ix (dv 0) den_int) (dv 1))) den_int)
    (denss_cons (dens_ret (dv 2))
    denss_nil))) denss_nil)
    (denss_cons (dens_put 0 rfl (by first | exact .inl rfl | exact .inr (.inl rfl) | exact .inr (.inr rfl)) (den_lend (den_bin opD_add (den_ix (dv 0) den_int) den_int)) den_int)
    (denss_cons (dens_set 3 nd rfl (by first | exact .inl rfl | exact .inr rfl) den_int)
    (denss_cons (dens_set 4 nd rfl (by first | exact .inl rfl | exact .inr rfl) (den_lend (den_bin opD_mod (den_bin opD_add (den_ix (dv 0) den_int) (den_bin opD_mulB den_int (den_ix (dv 0) den_int))) (dv 3))))
    (denss_cons (dens_set 4 nd rfl (by first | exact .inl rfl | exact .inr rfl) (den_lend (den_bin opD_mod (den_bin opD_add (den_bin opD_add (den_bin opD_mulB (dv 4) (dv 4)) (den_bin opD_mulB den_int (den_bin opD_pow (den_ix (dv 0) den_int) den_int))) den_int) (dv 3))))
    (denss_cons (dens_ret (den_bin opD_mod (den_bin opD_divB (den_bin opD_mod (den_bin opD_pow (dv 4) den_int) (dv 3)) den_int) (dv 1)))
    denss_nil))))))
theorem sc__law_bags : FnScope ["script", "most", "k", "cell"] ["script", "most"] (defScope s__law_bags) := ⟨rfl, rfl, rfl, by decide +kernel, rfl, by decide +kernel, by decide +kernel⟩
theorem fn__law_bags (d : Df K mg "_law_bags" s__law_bags ["script", "most"]) (Z : Blt2 mg) (Y : ImpsP mg) (h__law_well : FdN P w K mg base "_law_well" 1 2 1 F__law_well) : FdN P w K mg base "_law_bags" 2 2 2 F__law_bags := by
  have nd := sc__law_bags.nd
  exact FdN.of (B := B__law_bags) d sc__law_bags rfl fun f cdv A outer s H E hr => (denssN_ret (denn_lc2 (vs := [2, 3]) [("k", 2), ("cell", 3)] rfl nd (deni_enum rfl Z.enumerate_ (dena_cons (den_bin opD_add (den_slice (dv 0) deno_none (deno_some (dv 1))) (den_lst (dena_cons den_int dena_nil))) dena_nil)) (blkOk_by (by rfl)) (fun _ _ _ _ _ => (deng_tup (n := 2) rfl (dengs_cons (deng_name 2 nd rfl (by first | exact .inl rfl | exact .inr rfl)) (dengs_cons (deng_name 3 nd rfl (by first | exact .inl rfl | exact .inr rfl)) dengs_nil)))) (fun _ _ _ _ _ => dents_nil) (fun _ _ _ _ _ => (denn_call h__law_well (hr.mono (by decide)) rfl (dena_cons (dv 3) (dena_cons (den_bin opD_mulB den_int (dv 2)) dena_nil))))))
theorem sc__law_one_desk : FnScope ["hall", "book"] [] (defScope s__law_one_desk) := ⟨rfl, rfl, rfl, by decide +kernel, rfl, by decide +kernel, by decide +kernel⟩
theorem fn__law_one_desk (d : Df K mg "_law_one_desk" s__law_one_desk []) (Z : Blt2 mg) (Y : ImpsP mg) (h_stairs : FdO P w K mg base "stairs" 7 4 1 F_stairs) (h_how_many_of : Fd P w K mg base "how_many_of" 7 4 F_how_many_of) (h_how_many : Fd P w K mg base "how_many" 7 3 F_how_many) (h_taken : Fd P w K mg base "taken" 6 4 F_taken) (h_came : Fd P w K mg base "came" 7 5 F_came) (h_because : Fd P w K mg base "because" 7 5 F_because) (h_waits : Fd P w K mg base "waits" 7 4 F_waits) (h_waiting : Fd P w K mg base "waiting" 7 5 F_waiting) : Fd P w K mg base "_law_one_desk" 8 0 F__law_one_desk := by
  have nd := sc__law_one_desk.nd
  exact Fd.of (B := B__law_one_desk) d sc__law_one_desk rfl fun f cdv A outer s H E hr => (denss_cons (dens_asg (den_tup (dena_cons (den_tup (dena_cons (den_tup (dena_cons (den_tup (dena_cons den_int (dena_cons den_int dena_nil))) (dena_cons (den_tup (dena_cons den_int (dena_cons den_int dena_nil))) dena_nil))) (dena_cons (den_tup (dena_cons (den_tup (dena_cons den_int (dena_cons den_int dena_nil))) dena_nil)) dena_nil))) (dena_cons (den_tup (dena_cons (den_tup (dena_cons den_int dena_nil)) (dena_cons (den_tup (dena_cons den_non dena_nil)) (dena_cons (den_tup (dena_cons den_int dena_nil)) (dena_cons (den_tup (dena_cons den_non dena_nil)) (dena_cons (den_tup (dena_cons den_int dena_nil)) dena_nil)))))) dena_nil))) (deng_tup (n := 2) rfl (dengs_cons (deng_name 0 nd rfl (by first | exact .inl rfl | exact .inr rfl)) (dengs_cons (deng_name 1 nd rfl (by first | exact .inl rfl | exact .inr rfl)) dengs_nil))))
    (denss_cons (dens_if (dent_cmp (opD_ne hr.units) (denno_frz (denno_call h_stairs (hr.mono (by decide)) rfl (dena_cons (dv 0) (dena_cons (dv 1) (dena_cons (den_tup dena_nil) (dena_cons den_int dena_nil)))))) (den_lst (dena_cons (den_tup (dena_cons den_int (dena_cons den_int dena_nil))) (dena_cons (den_tup (dena_cons den_int (dena_cons den_int dena_nil))) (dena_cons (den_tup (dena_cons den_int (dena_cons den_int dena_nil))) (dena_cons (den_tup (dena_cons den_int (dena_cons den_int dena_nil))) (dena_cons (den_tup (dena_cons den_int (dena_cons den_int dena_nil))) dena_nil))))))) (denss_cons (dens_ret den_bl)
    denss_nil) denss_nil)
    (denss_cons (dens_if (dent_cmp (opD_ne hr.units) (denno_frz (denno_call h_stairs (hr.mono (by decide)) rfl (dena_cons (dv 0) (dena_cons (dv 1) (dena_cons (den_tup dena_nil) (dena_cons den_int dena_nil)))))) (den_lst (dena_cons (den_tup (dena_cons den_int (dena_cons den_int dena_nil))) (dena_cons (den_tup (dena_cons den_int (dena_cons den_int dena_nil))) (dena_cons (den_tup (dena_cons den_int (dena_cons den_int dena_nil))) (dena_cons (den_tup (dena_cons den_int (dena_cons den_int dena_nil))) (dena_cons (den_tup (dena_cons den_int (dena_cons den_int dena_nil))) dena_nil))))))) (denss_cons (dens_ret den_bl)
    denss_nil) denss_nil)
    (denss_cons (dens_if (dent_w (denw_or (dent_cmp (opD_ne hr.units) (den_call h_how_many (hr.mono (by decide)) rfl (dena_cons (dv 0) (dena_cons (dv 1) (dena_cons (den_tup dena_nil) dena_nil)))) (den_bin opD_mulB den_int (den_call h_how_many_of (hr.mono (by decide)) rfl (dena_cons (dv 0) (dena_cons (dv 1) (dena_cons (den_tup dena_nil) (dena_cons den_int dena_nil))))))) (denw_or1 (dent_cmp (opD_ne hr.units) (den_call h_how_many_of (hr.mono (by decide)) rfl (dena_cons (dv 0) (dena_cons (dv 1) (dena_cons (den_tup dena_nil) (dena_cons den_int dena_nil))))) den_int)))) (denss_cons (dens_ret den_bl)
    denss_nil) denss_nil)
    (denss_cons (dens_if (dent_w (denw_or (dent_cmp (opD_ne hr.units) (den_call h_came (hr.mono (by decide)) rfl (dena_cons (dv 0) (dena_cons (dv 1) (dena_cons (den_tup dena_nil) (dena_cons den_int (dena_cons den_int dena_nil)))))) (den_tup (dena_cons den_int (dena_cons den_int dena_nil)))) (denw_or (dent_cmp (opD_ne hr.units) (den_call h_came (hr.mono (by decide)) rfl (dena_cons (dv 0) (dena_cons (dv 1) (dena_cons (den_tup dena_nil) (dena_cons den_int (dena_cons den_int dena_nil)))))) (den_tup (dena_cons den_int (dena_cons den_int dena_nil)))) (denw_or1 (dent_cmp (opD_ne hr.units) (den_call h_taken (hr.mono (by decide)) rfl (dena_cons (dv 0) (dena_cons (dv 1) (dena_cons den_int (dena_cons den_int dena_nil))))) den_int))))) (denss_cons (dens_ret den_bl)
    denss_nil) denss_nil)
    (denss_cons (dens_if (dent_w (denw_or (dent_cmp (opD_ne hr.units) (den_call h_waits (hr.mono (by decide)) rfl (dena_cons (dv 0) (dena_cons (dv 1) (dena_cons (den_tup dena_nil) (dena_cons den_int dena_nil))))) (den_tup (dena_cons den_int (dena_cons den_int dena_nil)))) (denw_or1 (dent_cmp (opD_ne hr.units) (den_call h_because (hr.mono (by decide)) rfl (dena_cons (dv 0) (dena_cons (dv 1) (dena_cons (den_tup dena_nil) (dena_cons den_int (dena_cons den_int dena_nil)))))) (den_tup (dena_cons den_int (dena_cons den_int dena_nil))))))) (denss_cons (dens_ret den_bl)
    denss_nil) denss_nil)
    (denss_cons (dens_ret (den_and (den_cmp (opD_eq hr.units) (den_call h_because (hr.mono (by decide)) rfl (dena_cons (dv 0) (dena_cons (dv 1) (dena_cons (den_tup dena_nil) (dena_cons den_int (dena_cons den_int dena_nil)))))) (den_tup (dena_cons den_int (dena_cons den_int dena_nil)))) (den_one (den_cmp (opD_eq hr.units) (den_call h_waiting (hr.mono (by decide)) rfl (dena_cons (dv 0) (dena_cons (dv 1) (dena_cons (den_tup dena_nil) (dena_cons den_int (dena_cons den_int dena_nil)))))) (den_tup (dena_cons den_int (dena_cons den_int dena_nil)))))))
    denss_nil)))))))
theorem sc__law_barred : FnScope ["hall", "book"] [] (defScope s__law_barred) := ⟨rfl, rfl, rfl, by decide +kernel, rfl, by decide +kernel, by decide +kernel⟩
theorem fn__law_barred (d : Df K mg "_law_barred" s__law_barred []) (Z : Blt2 mg) (Y : ImpsP mg) (h_bar : Fd P w K mg base "bar" 7 3 F_bar) (h_first_bar : Fd P w K mg base "first_bar" 6 2 F_first_bar) (h_can_be : Fd P w K mg base "can_be" 7 3 F_can_be) (h_is_bar : Fd P w K mg base "is_bar" 7 4 F_is_bar) (h_mends : FdN P w K mg base "mends" 6 2 1 F_mends) (h_orders : FdN P w K mg base "orders" 6 2 1 F_orders) (h_best_look : Fd P w K mg base "best_look" 7 3 F_best_look) (h_nexts : FdN P w K mg base "nexts" 7 3 1 F_nexts) : Fd P w K mg base "_law_barred" 8 0 F__law_barred := by
  have nd := sc__law_barred.nd
  exact Fd.of (B := B__law_barred) d sc__law_barred rfl fun f cdv A outer s H E hr => (denss_cons (dens_set 0 nd rfl (by first | exact .inl rfl | exact .inr rfl) (den_tup (dena_cons (den_tup (dena_cons (den_tup (dena_cons den_int (dena_cons den_int dena_nil))) (dena_cons (den_tup (dena_cons den_int (dena_cons den_int dena_nil))) dena_nil))) (dena_cons (den_tup (dena_cons (den_tup (dena_cons den_int (dena_cons den_int dena_nil))) (dena_cons (den_tup (dena_cons den_int (dena_cons den_int dena_nil))) dena_nil))) dena_nil))))
    (denss_cons (dens_set 1 nd rfl (by first | exact .inl rfl | exact .inr rfl) (den_tup (dena_cons (den_tup (dena_cons den_non (dena_cons den_non dena_nil))) (dena_cons (den_tup (dena_cons den_int (dena_cons den_int dena_nil))) dena_nil))))
    (denss_cons (dens_if (dent_w (denw_or (dent_val (den_call h_can_be (hr.mono (by decide)) rfl (dena_cons (dv 0) (dena_cons (dv 1) (dena_cons (den_tup dena_nil) dena_nil))))) (denw_or (dent_cmp (opD_ne hr.units) (den_call h_first_bar (hr.mono (by decide)) rfl (dena_cons (dv 0) (dena_cons (dv 1) dena_nil))) den_int) (denw_or1 (dent_isN (den_call h_bar (hr.mono (by decide)) rfl (dena_cons (dv 0) (dena_cons (dv 1) (dena_cons (den_tup dena_nil) dena_nil))))))))) (denss_cons (dens_ret den_bl)
    denss_nil) denss_nil)
    (denss_cons (dens_if (dent_w (denw_or (dent_cmp opD_isnotB (den_call h_is_bar (hr.mono (by decide)) rfl (dena_cons (dv 0) (dena_cons (dv 1) (dena_cons (den_tup dena_nil) (dena_cons (den_tup (dena_cons den_int (dena_cons den_int (dena_cons den_int dena_nil)))) dena_nil))))) den_bl) (denw_or1 (dent_cmp opD_isnotB (den_call h_is_bar (hr.mono (by decide)) rfl (dena_cons (dv 0) (dena_cons (dv 1) (dena_cons (den_tup dena_nil) (dena_cons (den_tup (dena_cons den_int (dena_cons den_int (dena_cons den_int dena_nil)))) dena_nil))))) den_bl)))) (denss_cons (dens_ret den_bl)
    denss_nil) denss_nil)
    (denss_cons (dens_if (dent_cmp (opD_ne hr.units) (den_frz (denn_call h_mends (hr.mono (by decide)) rfl (dena_cons (dv 0) (dena_cons (dv 1) dena_nil)))) (den_lst (dena_cons (den_tup (dena_cons den_int (dena_cons den_int (dena_cons den_non dena_nil)))) (dena_cons (den_tup (dena_cons den_int (dena_cons den_int (dena_cons den_int dena_nil)))) dena_nil)))) (denss_cons (dens_ret den_bl)
    denss_nil) denss_nil)
    (denss_cons (dens_ret (den_and (den_cmp (opD_eq hr.units) (den_frz (denn_call h_nexts (hr.mono (by decide)) rfl (dena_cons (dv 0) (dena_cons (dv 1) (dena_cons (den_tup dena_nil) dena_nil))))) (den_lst dena_nil)) (den_and (dene_isN (den_call h_best_look (hr.mono (by decide)) rfl (dena_cons (dv 0) (dena_cons (dv 1) (dena_cons (den_tup dena_nil) dena_nil))))) (den_one (den_cmp (opD_eq hr.units) (den_frz (denn_call h_orders (hr.mono (by decide)) rfl (dena_cons (dv 0) (dena_cons (dv 1) dena_nil)))) (den_lst dena_nil))))))
    denss_nil))))))
theorem sc__law_orders_told : FnScope ["hall", "book", "wide"] [] (defScope s__law_orders_told) := ⟨rfl, rfl, rfl, by decide +kernel, rfl, by decide +kernel, by decide +kernel⟩
theorem fn__law_orders_told (d : Df K mg "_law_orders_told" s__law_orders_told []) (Z : Blt2 mg) (Y : ImpsP mg) (h_must_be_ahead : Fd P w K mg base "must_be_ahead" 6 2 F_must_be_ahead) (h_orders : FdN P w K mg base "orders" 6 2 1 F_orders) (h_stays : FdN P w K mg base "stays" 6 3 1 F_stays) : Fd P w K mg base "_law_orders_told" 7 0 F__law_orders_told := by
  have nd := sc__law_orders_told.nd
  exact Fd.of (B := B__law_orders_told) d sc__law_orders_told rfl fun f cdv A outer s H E hr => (denss_cons (dens_set 0 nd rfl (by first | exact .inl rfl | exact .inr rfl) (den_tup (dena_cons (den_tup (dena_cons (den_tup (dena_cons den_int (dena_cons den_int dena_nil))) (dena_cons (den_tup (dena_cons den_int (dena_cons den_int dena_nil))) dena_nil))) (dena_cons (den_tup (dena_cons (den_tup (dena_cons den_int (dena_cons den_int dena_nil))) dena_nil)) dena_nil))))
    (denss_cons (dens_set 1 nd rfl (by first | exact .inl rfl | exact .inr rfl) (den_tup (dena_cons (den_tup (dena_cons den_int dena_nil)) (dena_cons (den_tup (dena_cons den_int dena_nil)) (dena_cons (den_tup (dena_cons den_int dena_nil)) (dena_cons (den_tup (dena_cons den_int dena_nil)) (dena_cons (den_tup (dena_cons den_int dena_nil)) dena_nil)))))))
    (denss_cons (dens_if (dent_w (denw_or (dent_cmp (opD_ne hr.units) (den_frz (denn_call h_orders (hr.mono (by decide)) rfl (dena_cons (dv 0) (dena_cons (dv 1) dena_nil)))) (den_lst (dena_cons (den_tup (dena_cons (den_tup (dena_cons den_int (dena_cons den_int dena_nil))) (dena_cons den_int dena_nil))) (dena_cons (den_tup (dena_cons (den_tup (dena_cons den_int (dena_cons den_int dena_nil))) (dena_cons den_int dena_nil))) dena_nil)))) (denw_or1 (dent_cmp (opD_ne hr.units) (den_call h_must_be_ahead (hr.mono (by decide)) rfl (dena_cons (dv 0) (dena_cons (dv 1) dena_nil))) (den_lst dena_nil))))) (denss_cons (dens_ret den_bl)
    denss_nil) denss_nil)
    (denss_cons (dens_set 2 nd rfl (by first | exact .inl rfl | exact .inr rfl) (den_tup (dena_cons (den_tup (dena_cons (den_tup (dena_cons den_int (dena_cons den_int dena_nil))) (dena_cons (den_tup (dena_cons den_int (dena_cons den_int dena_nil))) dena_nil))) (dena_cons (den_tup (dena_cons (den_tup (dena_cons den_int (dena_cons den_int dena_nil))) (dena_cons (den_tup (dena_cons den_int (dena_cons den_int dena_nil))) dena_nil))) dena_nil))))
    (denss_cons (dens_if (dent_w (denw_or (dent_cmp (opD_ne hr.units) (den_frz (denn_call h_orders (hr.mono (by decide)) rfl (dena_cons (dv 2) (dena_cons (den_tup (dena_cons (den_tup (dena_cons den_int (dena_cons den_int dena_nil))) (dena_cons (den_tup (dena_cons den_int (dena_cons den_non dena_nil))) dena_nil))) dena_nil)))) (den_lst (dena_cons (den_tup (dena_cons (den_tup (dena_cons den_int (dena_cons den_int dena_nil))) (dena_cons den_int dena_nil))) dena_nil))) (denw_or1 (dent_cmp (opD_ne hr.units) (den_call h_must_be_ahead (hr.mono (by decide)) rfl (dena_cons (dv 2) (dena_cons (den_tup (dena_cons (den_tup (dena_cons den_int (dena_cons den_int dena_nil))) (dena_cons (den_tup (dena_cons den_int (dena_cons den_non dena_nil))) dena_nil))) dena_nil))) (den_lst (dena_cons (den_tup (dena_cons den_int (dena_cons den_int dena_nil))) dena_nil)))))) (denss_cons (dens_ret den_bl)
    denss_nil) denss_nil)
    (denss_cons (dens_ret (den_and (den_cmp (opD_eq hr.units) (den_frz (denn_call h_stays (hr.mono (by decide)) rfl (dena_cons (dv 0) (dena_cons (dv 1) (dena_cons den_int dena_nil))))) (den_lst (dena_cons den_int dena_nil))) (den_one (den_cmp (opD_eq hr.units) (den_frz (denn_call h_stays (hr.mono (by decide)) rfl (dena_cons (dv 0) (dena_cons (den_tup (dena_cons (den_tup (dena_cons den_int dena_nil)) (dena_cons (den_tup (dena_cons den_non dena_nil)) dena_nil))) (dena_cons den_int dena_nil))))) (den_lstRange2 rfl Z.list_ rfl Z.range_ rfl den_int den_int)))))
    denss_nil))))))
theorem sc__law_two_taken : FnScope ["hall", "book"] [] (defScope s__law_two_taken) := ⟨rfl, rfl, rfl, by decide +kernel, rfl, by decide +kernel, by decide +kernel⟩
theorem fn__law_two_taken (d : Df K mg "_law_two_taken" s__law_two_taken []) (Z : Blt2 mg) (Y : ImpsP mg) (h_because : Fd P w K mg base "because" 7 5 F_because) (h_waits : Fd P w K mg base "waits" 7 4 F_waits) (h_waiting : Fd P w K mg base "waiting" 7 5 F_waiting) : Fd P w K mg base "_law_two_taken" 8 0 F__law_two_taken := by
  have nd := sc__law_two_taken.nd
  exact Fd.of (B := B__law_two_taken) d sc__law_two_taken rfl fun f cdv A outer s H E hr => (denss_cons (dens_asg (den_tup (dena_cons (den_tup (dena_cons (den_tup (dena_cons (den_tup (dena_cons den_int (dena_cons den_int dena_nil))) (dena_cons (den_tup (dena_cons den_int (dena_cons den_int dena_nil))) dena_nil))) (dena_cons (den_tup (dena_cons (den_tup (dena_cons den_int (dena_cons den_int dena_nil))) (dena_cons (den_tup (dena_cons den_int (dena_cons den_int dena_nil))) dena_nil))) dena_nil))) (dena_cons (den_tup (dena_cons (den_tup (dena_cons den_int (dena_cons den_int dena_nil))) dena_nil)) dena_nil))) (deng_tup (n := 2) rfl (dengs_cons (deng_name 0 nd rfl (by first | exact .inl rfl | exact .inr rfl)) (dengs_cons (deng_name 1 nd rfl (by first | exact .inl rfl | exact .inr rfl)) dengs_nil))))
    (denss_cons (dens_if (dent_w (denw_or (dent_cmp (opD_ne hr.units) (den_call h_because (hr.mono (by decide)) rfl (dena_cons (dv 0) (dena_cons (dv 1) (dena_cons (den_tup dena_nil) (dena_cons den_int (dena_cons den_int dena_nil)))))) (den_tup (dena_cons den_int (dena_cons den_int dena_nil)))) (denw_or1 (dent_cmp (opD_ne hr.units) (den_call h_because (hr.mono (by decide)) rfl (dena_cons (dv 0) (dena_cons (dv 1) (dena_cons (den_tup dena_nil) (dena_cons den_int (dena_cons den_int dena_nil)))))) (den_tup (dena_cons den_int (dena_cons den_int dena_nil))))))) (denss_cons (dens_ret den_bl)
    denss_nil) denss_nil)
    (denss_cons (dens_ret (den_and (den_cmp (opD_eq hr.units) (den_call h_waiting (hr.mono (by decide)) rfl (dena_cons (dv 0) (dena_cons (dv 1) (dena_cons (den_tup dena_nil) (dena_cons den_int (dena_cons den_int dena_nil)))))) (den_tup (dena_cons den_int (dena_cons den_int dena_nil)))) (den_one (den_cmp (opD_eq hr.units) (den_call h_waits (hr.mono (by decide)) rfl (dena_cons (dv 0) (dena_cons (dv 1) (dena_cons (den_tup dena_nil) (dena_cons den_int dena_nil))))) (den_tup (dena_cons den_int (dena_cons den_int dena_nil)))))))
    denss_nil)))
theorem sc__law_first_told : FnScope ["many", "hall", "book"] ["many"] (defScope s__law_first_told) := ⟨rfl, rfl, rfl, by decide +kernel, rfl, by decide +kernel, by decide +kernel⟩
theorem fn__law_first_told (d : Df K mg "_law_first_told" s__law_first_told ["many"]) (Z : Blt2 mg) (Y : ImpsP mg) (h_first_taken : Fd P w K mg base "first_taken" 7 5 F_first_taken) (h_waits : Fd P w K mg base "waits" 7 4 F_waits) (h_nexts : FdN P w K mg base "nexts" 7 3 1 F_nexts) (h_how_many : Fd P w K mg base "how_many" 7 3 F_how_many) : Fd P w K mg base "_law_first_told" 8 1 F__law_first_told := by
  have nd := sc__law_first_told.nd
  exact Fd.of (B := B__law_first_told) d sc__law_first_told rfl fun f cdv A outer s H E hr => (denss_cons (dens_set 1 nd rfl (by first | exact .inl rfl | exact .inr rfl) (den_tup (dena_cons (den_tup (dena_cons (den_tup (dena_cons den_int (dena_cons den_int dena_nil))) (dena_cons (den_tup (dena_cons (dv 0) (dena_cons den_int dena_nil))) dena_nil))) (dena_cons (den_tup (dena_cons (den_tup (dena_cons den_int (dena_cons den_int dena_nil))) dena_nil)) dena_nil))))
    (denss_cons (dens_set 2 nd rfl (by first | exact .inl rfl | exact .inr rfl) (den_tup (dena_cons (den_tup (dena_cons den_int dena_nil)) (dena_cons (den_tup (dena_cons den_int dena_nil)) (dena_cons (den_tup (dena_cons den_int dena_nil)) (dena_cons (den_tup (dena_cons den_non dena_nil)) dena_nil))))))
    (denss_cons (dens_if (dent_w (denw_or (dent_cmp (opD_ne hr.units) (den_call h_first_taken (hr.mono (by decide)) rfl (dena_cons (dv 1) (dena_cons (dv 2) (dena_cons (den_tup dena_nil) (dena_cons den_int (dena_cons den_int dena_nil)))))) (den_tup (dena_cons den_int (dena_cons den_int dena_nil)))) (denw_or1 (dent_cmp (opD_ne hr.units) (den_call h_first_taken (hr.mono (by decide)) rfl (dena_cons (dv 1) (dena_cons (dv 2) (dena_cons (den_tup dena_nil) (dena_cons den_int (dena_cons den_int dena_nil)))))) (den_tup (dena_cons den_int (dena_cons den_int dena_nil))))))) (denss_cons (dens_ret den_bl)
    denss_nil) denss_nil)
    (denss_cons (dens_if (dent_w (denw_or (dent_cmp (opD_ne hr.units) (den_call h_first_taken (hr.mono (by decide)) rfl (dena_cons (dv 1) (dena_cons (dv 2) (dena_cons (den_tup dena_nil) (dena_cons den_int (dena_cons den_int dena_nil)))))) (den_tup (dena_cons den_non (dena_cons den_non dena_nil)))) (denw_or1 (dent_cmp (opD_ne hr.units) (den_call h_waits (hr.mono (by decide)) rfl (dena_cons (dv 1) (dena_cons (dv 2) (dena_cons (den_tup dena_nil) (dena_cons den_int dena_nil))))) (den_tup (dena_cons den_int (dena_cons den_int dena_nil))))))) (denss_cons (dens_ret den_bl)
    denss_nil) denss_nil)
    (denss_cons (dens_ret (den_cmp (opD_eq hr.units) (den_ix (den_frz (denn_call h_nexts (hr.mono (by decide)) rfl (dena_cons (dv 1) (dena_cons (dv 2) (dena_cons (den_tup dena_nil) dena_nil))))) den_int) (den_tup (dena_cons (den_tup (dena_cons den_non dena_nil)) (dena_cons (den_call h_how_many (hr.mono (by decide)) rfl (dena_cons (dv 1) (dena_cons (dv 2) (dena_cons (den_tup dena_nil) dena_nil)))) dena_nil)))))
    denss_nil)))))
theorem sc_law : FnScope ["script", "bag", "stay", "many", "hall", "due"] ["script"] (defScope s_law) := ⟨rfl, rfl, rfl, by decide +kernel, rfl, by decide +kernel, by decide +kernel⟩
theorem fn_law {f : Addr} {fd : FuncData} (d : Fun K "law" "law" s_law f fd) (Z : Blt2 mg) (Y : ImpsP mg) (h__law_bags : ∀ base : Heap, FdN P w K mg base "_law_bags" 2 2 2 F__law_bags) (h__law_first_told : ∀ base : Heap, Fd P w K mg base "_law_first_told" 8 1 F__law_first_told) (h__law_take : ∀ base : Heap, FdIO P w K mg base "_law_take" 1 [some 0, none] F__law_take) (h_how_many : ∀ base : Heap, Fd P w K mg base "how_many" 7 3 F_how_many) (h_best_look : ∀ base : Heap, Fd P w K mg base "best_look" 7 3 F_best_look) (h_nexts : ∀ base : Heap, FdN P w K mg base "nexts" 7 3 1 F_nexts) (h__law_two_taken : ∀ base : Heap, Fd P w K mg base "_law_two_taken" 8 0 F__law_two_taken) (h__law_orders_told : ∀ base : Heap, Fd P w K mg base "_law_orders_told" 7 0 F__law_orders_told) (h__law_barred : ∀ base : Heap, Fd P w K mg base "_law_barred" 8 0 F__law_barred) (h__law_one_desk : ∀ base : Heap, Fd P w K mg base "_law_one_desk" 8 0 F__law_one_desk) : ∀ base : Heap, FnOk P w K mg base CX0 9 f fd ["script"] (spF 1 F_law) := by
  have nd := sc_law.nd
  exact fun base => fnOk_of (B := B_law) d sc_law fun cdv A outer s H E hr => (denss_cons (dens_forOwn 1 PassesOwn.never rfl nd rfl (by first | exact .inl rfl | exact .inr rfl) (denn_call (h__law_bags base) (hr.mono (by decide)) rfl (dena_cons (dv 0) (dena_cons den_int dena_nil))) (denss_cons (dens_if (dent_not (dent_val (den_call (h__law_first_told base) (hr.mono (by decide)) rfl (dena_cons (den_bin opD_add den_int (den_callIO (h__law_take base) (hr.mono (by decide)) rfl (denr_io 1 rfl (by first | exact .inl rfl | exact .inr (.inl rfl) | exact .inr (.inr rfl)) (denr_cons den_int denr_nil)))) dena_nil)))) (denss_cons (dens_ret den_bl)
    denss_nil) denss_nil)
    (denss_cons (dens_par 2 3 rfl nd rfl rfl (by decide) rfl rfl (dena_cons (den_bin opD_add den_int (den_callIO (h__law_take base) (hr.mono (by decide)) rfl (denr_io 1 rfl (by first | exact .inl rfl | exact .inr (.inl rfl) | exact .inr (.inr rfl)) (denr_cons den_int denr_nil)))) (dena_cons (den_bin opD_add den_int (den_callIO (h__law_take base) (hr.mono (by decide)) rfl (denr_io 1 rfl (by first | exact .inl rfl | exact .inr (.inl rfl) | exact .inr (.inr rfl)) (denr_cons den_int denr_nil)))) dena_nil)))
    (denss_cons (dens_set 4 nd rfl (by first | exact .inl rfl | exact .inr rfl) (den_tup (dena_cons (den_tup (dena_cons (den_tup (dena_cons (dv 3) (dena_cons (dv 2) dena_nil))) dena_nil)) (dena_cons (den_tup (dena_cons (den_tup (dena_cons den_int dena_nil)) dena_nil)) dena_nil))))
    (denss_cons (dens_set 5 nd rfl (by first | exact .inl rfl | exact .inr rfl) (den_if (dent_cmp opD_gt (dv 3) den_int) (den_tup (dena_cons den_int (dena_cons den_int (dena_cons den_int dena_nil)))) den_non))
    (denss_cons (dens_if (dent_w (denw_or (dent_cmp (opD_ne hr.units) (den_call (h_best_look base) (hr.mono (by decide)) rfl (dena_cons (dv 4) (dena_cons (den_tup (dena_cons (den_tup (dena_cons den_int dena_nil)) dena_nil)) (dena_cons (den_tup dena_nil) dena_nil)))) (dv 5)) (denw_or1 (dent_cmp (opD_ne hr.units) (den_call (h_how_many base) (hr.mono (by decide)) rfl (dena_cons (dv 4) (dena_cons (den_tup (dena_cons (den_tup (dena_cons den_int dena_nil)) dena_nil)) (dena_cons (den_tup dena_nil) dena_nil)))) (dv 3))))) (denss_cons (dens_ret den_bl)
    denss_nil) denss_nil)
    (denss_cons (dens_if (dent_cmp (opD_ne hr.units) (den_frz (denn_call (h_nexts base) (hr.mono (by decide)) rfl (dena_cons (dv 4) (dena_cons (den_tup (dena_cons (den_tup (dena_cons den_non dena_nil)) dena_nil)) (dena_cons (den_tup dena_nil) dena_nil))))) (den_lst (dena_cons (den_tup (dena_cons (den_tup (dena_cons den_non dena_nil)) (dena_cons den_int dena_nil))) (dena_cons (den_tup (dena_cons (den_tup (dena_cons den_int dena_nil)) (dena_cons (dv 3) dena_nil))) dena_nil)))) (denss_cons (dens_ret den_bl)
    denss_nil) denss_nil)
    denss_nil)))))))
    (denss_cons (dens_ret (den_and (den_call0 (h__law_one_desk base) (hr.mono (by decide)) rfl) (den_and (den_call0 (h__law_barred base) (hr.mono (by decide)) rfl) (den_and (den_call0 (h__law_orders_told base) (hr.mono (by decide)) rfl) (den_one (den_call0 (h__law_two_taken base) (hr.mono (by decide)) rfl))))))
    denss_nil))
end
end Dn
set_option maxHeartbeats 0
namespace Dn
open PySem PySem.Spec PyProof.Rows L2
section
variable {P : Program} {w : World} {K : PySem.W.Frag} {mg : Str → Option Value} {base h : Heap}
theorem df_is_whole (X : K.In h) (G : h.Ns mainGlobals mg) (c : He.SaysD faD fnD K) : Df K mg "is_whole" s_is_whole ["thing"] := by
  obtain ⟨fd, F⟩ := c.def_ 0 (d := d_is_whole) rfl
  obtain ⟨oc, od, dV, kV, doc, pm, an, cdv, ct, osl, e1, e2, e3, e4, e5⟩ := F.ex
  rcases e4 with ⟨_, e4⟩ | ⟨e4, _⟩
  · subst e4
    exact ⟨_, fd, He.glo_ok X G (c.fact 0 (f := .glo "is_whole") rfl), ⟨⟨oc, od, kV, doc, pm, an, cdv, ct, osl, e1, e2, e3⟩, F.kp⟩, F.bindsN fun _ _ _ _ _ _ us hl => match us, hl with | [_], _ => rfl⟩
  · exact absurd rfl e4
theorem df_are_whole (X : K.In h) (G : h.Ns mainGlobals mg) (c : He.SaysD faD fnD K) : Df K mg "are_whole" s_are_whole ["things"] := by
  obtain ⟨fd, F⟩ := c.def_ 1 (d := d_are_whole) rfl
  obtain ⟨oc, od, dV, kV, doc, pm, an, cdv, ct, osl, e1, e2, e3, e4, e5⟩ := F.ex
  rcases e4 with ⟨_, e4⟩ | ⟨e4, _⟩
  · subst e4
    exact ⟨_, fd, He.glo_ok X G (c.fact 1 (f := .glo "are_whole") rfl), ⟨⟨oc, od, kV, doc, pm, an, cdv, ct, osl, e1, e2, e3⟩, F.kp⟩, F.bindsN fun _ _ _ _ _ _ us hl => match us, hl with | [_], _ => rfl⟩
  · exact absurd rfl e4
theorem df_is_from_to (X : K.In h) (G : h.Ns mainGlobals mg) (c : He.SaysD faD fnD K) : Df K mg "is_from_to" s_is_from_to ["thing", "low", "high"] := by
  obtain ⟨fd, F⟩ := c.def_ 2 (d := d_is_from_to) rfl
  obtain ⟨oc, od, dV, kV, doc, pm, an, cdv, ct, osl, e1, e2, e3, e4, e5⟩ := F.ex
  rcases e4 with ⟨_, e4⟩ | ⟨e4, _⟩
  · subst e4
    exact ⟨_, fd, He.glo_ok X G (c.fact 2 (f := .glo "is_from_to") rfl), ⟨⟨oc, od, kV, doc, pm, an, cdv, ct, osl, e1, e2, e3⟩, F.kp⟩, F.bindsN fun _ _ _ _ _ _ us hl => match us, hl with | [_, _, _], _ => rfl⟩
  · exact absurd rfl e4
theorem df_is_tuple (X : K.In h) (G : h.Ns mainGlobals mg) (c : He.SaysD faD fnD K) : Df K mg "is_tuple" s_is_tuple ["thing", "least", "most"] := by
  obtain ⟨fd, F⟩ := c.def_ 3 (d := d_is_tuple) rfl
  obtain ⟨oc, od, dV, kV, doc, pm, an, cdv, ct, osl, e1, e2, e3, e4, e5⟩ := F.ex
  rcases e4 with ⟨_, e4⟩ | ⟨e4, _⟩
  · subst e4
    exact ⟨_, fd, He.glo_ok X G (c.fact 3 (f := .glo "is_tuple") rfl), ⟨⟨oc, od, kV, doc, pm, an, cdv, ct, osl, e1, e2, e3⟩, F.kp⟩, F.bindsN fun _ _ _ _ _ _ us hl => match us, hl with | [_, _, _], _ => rfl⟩
  · exact absurd rfl e4
theorem df_are_rows (X : K.In h) (G : h.Ns mainGlobals mg) (c : He.SaysD faD fnD K) : Df K mg "are_rows" s_are_rows ["thing", "most", "wide"] := by
  obtain ⟨fd, F⟩ := c.def_ 4 (d := d_are_rows) rfl
  obtain ⟨oc, od, dV, kV, doc, pm, an, cdv, ct, osl, e1, e2, e3, e4, e5⟩ := F.ex
  rcases e4 with ⟨_, e4⟩ | ⟨e4, _⟩
  · subst e4
    exact ⟨_, fd, He.glo_ok X G (c.fact 4 (f := .glo "are_rows") rfl), ⟨⟨oc, od, kV, doc, pm, an, cdv, ct, osl, e1, e2, e3⟩, F.kp⟩, F.bindsN fun _ _ _ _ _ _ us hl => match us, hl with | [_, _, _], _ => rfl⟩
  · exact absurd rfl e4
theorem df_is_rising (X : K.In h) (G : h.Ns mainGlobals mg) (c : He.SaysD faD fnD K) : Df K mg "is_rising" s_is_rising ["things"] := by
  obtain ⟨fd, F⟩ := c.def_ 5 (d := d_is_rising) rfl
  obtain ⟨oc, od, dV, kV, doc, pm, an, cdv, ct, osl, e1, e2, e3, e4, e5⟩ := F.ex
  rcases e4 with ⟨_, e4⟩ | ⟨e4, _⟩
  · subst e4
    exact ⟨_, fd, He.glo_ok X G (c.fact 5 (f := .glo "is_rising") rfl), ⟨⟨oc, od, kV, doc, pm, an, cdv, ct, osl, e1, e2, e3⟩, F.kp⟩, F.bindsN fun _ _ _ _ _ _ us hl => match us, hl with | [_], _ => rfl⟩
  · exact absurd rfl e4
theorem df_is_column (X : K.In h) (G : h.Ns mainGlobals mg) (c : He.SaysD faD fnD K) : Df K mg "is_column" s_is_column ["stays", "desk", "column"] := by
  obtain ⟨fd, F⟩ := c.def_ 6 (d := d_is_column) rfl
  obtain ⟨oc, od, dV, kV, doc, pm, an, cdv, ct, osl, e1, e2, e3, e4, e5⟩ := F.ex
  rcases e4 with ⟨_, e4⟩ | ⟨e4, _⟩
  · subst e4
    exact ⟨_, fd, He.glo_ok X G (c.fact 6 (f := .glo "is_column") rfl), ⟨⟨oc, od, kV, doc, pm, an, cdv, ct, osl, e1, e2, e3⟩, F.kp⟩, F.bindsN fun _ _ _ _ _ _ us hl => match us, hl with | [_, _, _], _ => rfl⟩
  · exact absurd rfl e4
theorem df_turns_of (X : K.In h) (G : h.Ns mainGlobals mg) (c : He.SaysD faD fnD K) : Df K mg "turns_of" s_turns_of ["stays", "column"] := by
  obtain ⟨fd, F⟩ := c.def_ 7 (d := d_turns_of) rfl
  obtain ⟨oc, od, dV, kV, doc, pm, an, cdv, ct, osl, e1, e2, e3, e4, e5⟩ := F.ex
  rcases e4 with ⟨_, e4⟩ | ⟨e4, _⟩
  · subst e4
    exact ⟨_, fd, He.glo_ok X G (c.fact 7 (f := .glo "turns_of") rfl), ⟨⟨oc, od, kV, doc, pm, an, cdv, ct, osl, e1, e2, e3⟩, F.kp⟩, F.bindsN fun _ _ _ _ _ _ us hl => match us, hl with | [_, _], _ => rfl⟩
  · exact absurd rfl e4
theorem df_all_stays (X : K.In h) (G : h.Ns mainGlobals mg) (c : He.SaysD faD fnD K) : Df K mg "all_stays" s_all_stays ["hall"] := by
  obtain ⟨fd, F⟩ := c.def_ 8 (d := d_all_stays) rfl
  obtain ⟨oc, od, dV, kV, doc, pm, an, cdv, ct, osl, e1, e2, e3, e4, e5⟩ := F.ex
  rcases e4 with ⟨_, e4⟩ | ⟨e4, _⟩
  · subst e4
    exact ⟨_, fd, He.glo_ok X G (c.fact 8 (f := .glo "all_stays") rfl), ⟨⟨oc, od, kV, doc, pm, an, cdv, ct, osl, e1, e2, e3⟩, F.kp⟩, F.bindsN fun _ _ _ _ _ _ us hl => match us, hl with | [_], _ => rfl⟩
  · exact absurd rfl e4
theorem df_all_turns (X : K.In h) (G : h.Ns mainGlobals mg) (c : He.SaysD faD fnD K) : Df K mg "all_turns" s_all_turns ["hall", "columns"] := by
  obtain ⟨fd, F⟩ := c.def_ 9 (d := d_all_turns) rfl
  obtain ⟨oc, od, dV, kV, doc, pm, an, cdv, ct, osl, e1, e2, e3, e4, e5⟩ := F.ex
  rcases e4 with ⟨_, e4⟩ | ⟨e4, _⟩
  · subst e4
    exact ⟨_, fd, He.glo_ok X G (c.fact 9 (f := .glo "all_turns") rfl), ⟨⟨oc, od, kV, doc, pm, an, cdv, ct, osl, e1, e2, e3⟩, F.kp⟩, F.bindsN fun _ _ _ _ _ _ us hl => match us, hl with | [_, _], _ => rfl⟩
  · exact absurd rfl e4
theorem df_free_from (X : K.In h) (G : h.Ns mainGlobals mg) (c : He.SaysD faD fnD K) : Df K mg "free_from" s_free_from ["stays", "column"] := by
  obtain ⟨fd, F⟩ := c.def_ 10 (d := d_free_from) rfl
  obtain ⟨oc, od, dV, kV, doc, pm, an, cdv, ct, osl, e1, e2, e3, e4, e5⟩ := F.ex
  rcases e4 with ⟨_, e4⟩ | ⟨e4, _⟩
  · subst e4
    exact ⟨_, fd, He.glo_ok X G (c.fact 10 (f := .glo "free_from") rfl), ⟨⟨oc, od, kV, doc, pm, an, cdv, ct, osl, e1, e2, e3⟩, F.kp⟩, F.bindsN fun _ _ _ _ _ _ us hl => match us, hl with | [_, _], _ => rfl⟩
  · exact absurd rfl e4
theorem df__are_desks (X : K.In h) (G : h.Ns mainGlobals mg) (c : He.SaysD faD fnD K) : Df K mg "_are_desks" s__are_desks ["thing", "ranks"] := by
  obtain ⟨fd, F⟩ := c.def_ 11 (d := d__are_desks) rfl
  obtain ⟨oc, od, dV, kV, doc, pm, an, cdv, ct, osl, e1, e2, e3, e4, e5⟩ := F.ex
  rcases e4 with ⟨_, e4⟩ | ⟨e4, _⟩
  · subst e4
    exact ⟨_, fd, He.glo_ok X G (c.fact 11 (f := .glo "_are_desks") rfl), ⟨⟨oc, od, kV, doc, pm, an, cdv, ct, osl, e1, e2, e3⟩, F.kp⟩, F.bindsN fun _ _ _ _ _ _ us hl => match us, hl with | [_, _], _ => rfl⟩
  · exact absurd rfl e4
theorem df__are_ranks (X : K.In h) (G : h.Ns mainGlobals mg) (c : He.SaysD faD fnD K) : Df K mg "_are_ranks" s__are_ranks ["thing"] := by
  obtain ⟨fd, F⟩ := c.def_ 12 (d := d__are_ranks) rfl
  obtain ⟨oc, od, dV, kV, doc, pm, an, cdv, ct, osl, e1, e2, e3, e4, e5⟩ := F.ex
  rcases e4 with ⟨_, e4⟩ | ⟨e4, _⟩
  · subst e4
    exact ⟨_, fd, He.glo_ok X G (c.fact 12 (f := .glo "_are_ranks") rfl), ⟨⟨oc, od, kV, doc, pm, an, cdv, ct, osl, e1, e2, e3⟩, F.kp⟩, F.bindsN fun _ _ _ _ _ _ us hl => match us, hl with | [_], _ => rfl⟩
  · exact absurd rfl e4
theorem df_is_hall (X : K.In h) (G : h.Ns mainGlobals mg) (c : He.SaysD faD fnD K) : Df K mg "is_hall" s_is_hall ["thing"] := by
  obtain ⟨fd, F⟩ := c.def_ 13 (d := d_is_hall) rfl
  obtain ⟨oc, od, dV, kV, doc, pm, an, cdv, ct, osl, e1, e2, e3, e4, e5⟩ := F.ex
  rcases e4 with ⟨_, e4⟩ | ⟨e4, _⟩
  · subst e4
    exact ⟨_, fd, He.glo_ok X G (c.fact 13 (f := .glo "is_hall") rfl), ⟨⟨oc, od, kV, doc, pm, an, cdv, ct, osl, e1, e2, e3⟩, F.kp⟩, F.bindsN fun _ _ _ _ _ _ us hl => match us, hl with | [_], _ => rfl⟩
  · exact absurd rfl e4
theorem df_columns_of (X : K.In h) (G : h.Ns mainGlobals mg) (c : He.SaysD faD fnD K) : Df K mg "columns_of" s_columns_of ["hall", "thing"] := by
  obtain ⟨fd, F⟩ := c.def_ 14 (d := d_columns_of) rfl
  obtain ⟨oc, od, dV, kV, doc, pm, an, cdv, ct, osl, e1, e2, e3, e4, e5⟩ := F.ex
  rcases e4 with ⟨_, e4⟩ | ⟨e4, _⟩
  · subst e4
    exact ⟨_, fd, He.glo_ok X G (c.fact 14 (f := .glo "columns_of") rfl), ⟨⟨oc, od, kV, doc, pm, an, cdv, ct, osl, e1, e2, e3⟩, F.kp⟩, F.bindsN fun _ _ _ _ _ _ us hl => match us, hl with | [_, _], _ => rfl⟩
  · exact absurd rfl e4
theorem df_need_hall (X : K.In h) (G : h.Ns mainGlobals mg) (c : He.SaysD faD fnD K) : Df K mg "need_hall" s_need_hall ["thing"] := by
  obtain ⟨fd, F⟩ := c.def_ 15 (d := d_need_hall) rfl
  obtain ⟨oc, od, dV, kV, doc, pm, an, cdv, ct, osl, e1, e2, e3, e4, e5⟩ := F.ex
  rcases e4 with ⟨_, e4⟩ | ⟨e4, _⟩
  · subst e4
    exact ⟨_, fd, He.glo_ok X G (c.fact 15 (f := .glo "need_hall") rfl), ⟨⟨oc, od, kV, doc, pm, an, cdv, ct, osl, e1, e2, e3⟩, F.kp⟩, F.bindsN fun _ _ _ _ _ _ us hl => match us, hl with | [_], _ => rfl⟩
  · exact absurd rfl e4
theorem df_need_book (X : K.In h) (G : h.Ns mainGlobals mg) (c : He.SaysD faD fnD K) : Df K mg "need_book" s_need_book ["hall", "thing"] := by
  obtain ⟨fd, F⟩ := c.def_ 16 (d := d_need_book) rfl
  obtain ⟨oc, od, dV, kV, doc, pm, an, cdv, ct, osl, e1, e2, e3, e4, e5⟩ := F.ex
  rcases e4 with ⟨_, e4⟩ | ⟨e4, _⟩
  · subst e4
    exact ⟨_, fd, He.glo_ok X G (c.fact 16 (f := .glo "need_book") rfl), ⟨⟨oc, od, kV, doc, pm, an, cdv, ct, osl, e1, e2, e3⟩, F.kp⟩, F.bindsN fun _ _ _ _ _ _ us hl => match us, hl with | [_, _], _ => rfl⟩
  · exact absurd rfl e4
theorem df__is_look (X : K.In h) (G : h.Ns mainGlobals mg) (c : He.SaysD faD fnD K) : Df K mg "_is_look" s__is_look ["hall", "book", "look"] := by
  obtain ⟨fd, F⟩ := c.def_ 17 (d := d__is_look) rfl
  obtain ⟨oc, od, dV, kV, doc, pm, an, cdv, ct, osl, e1, e2, e3, e4, e5⟩ := F.ex
  rcases e4 with ⟨_, e4⟩ | ⟨e4, _⟩
  · subst e4
    exact ⟨_, fd, He.glo_ok X G (c.fact 17 (f := .glo "_is_look") rfl), ⟨⟨oc, od, kV, doc, pm, an, cdv, ct, osl, e1, e2, e3⟩, F.kp⟩, F.bindsN fun _ _ _ _ _ _ us hl => match us, hl with | [_, _, _], _ => rfl⟩
  · exact absurd rfl e4
theorem df__are_looks_of (X : K.In h) (G : h.Ns mainGlobals mg) (c : He.SaysD faD fnD K) : Df K mg "_are_looks_of" s__are_looks_of ["hall", "book", "thing"] := by
  obtain ⟨fd, F⟩ := c.def_ 18 (d := d__are_looks_of) rfl
  obtain ⟨oc, od, dV, kV, doc, pm, an, cdv, ct, osl, e1, e2, e3, e4, e5⟩ := F.ex
  rcases e4 with ⟨_, e4⟩ | ⟨e4, _⟩
  · subst e4
    exact ⟨_, fd, He.glo_ok X G (c.fact 18 (f := .glo "_are_looks_of") rfl), ⟨⟨oc, od, kV, doc, pm, an, cdv, ct, osl, e1, e2, e3⟩, F.kp⟩, F.bindsN fun _ _ _ _ _ _ us hl => match us, hl with | [_, _, _], _ => rfl⟩
  · exact absurd rfl e4
theorem df_need_looks (X : K.In h) (G : h.Ns mainGlobals mg) (c : He.SaysD faD fnD K) : Df K mg "need_looks" s_need_looks ["hall", "book", "thing"] := by
  obtain ⟨fd, F⟩ := c.def_ 19 (d := d_need_looks) rfl
  obtain ⟨oc, od, dV, kV, doc, pm, an, cdv, ct, osl, e1, e2, e3, e4, e5⟩ := F.ex
  rcases e4 with ⟨_, e4⟩ | ⟨e4, _⟩
  · subst e4
    exact ⟨_, fd, He.glo_ok X G (c.fact 19 (f := .glo "need_looks") rfl), ⟨⟨oc, od, kV, doc, pm, an, cdv, ct, osl, e1, e2, e3⟩, F.kp⟩, F.bindsN fun _ _ _ _ _ _ us hl => match us, hl with | [_, _, _], _ => rfl⟩
  · exact absurd rfl e4
theorem df_need_written (X : K.In h) (G : h.Ns mainGlobals mg) (c : He.SaysD faD fnD K) : Df K mg "need_written" s_need_written ["hall", "book", "looks"] := by
  obtain ⟨fd, F⟩ := c.def_ 20 (d := d_need_written) rfl
  obtain ⟨oc, od, dV, kV, doc, pm, an, cdv, ct, osl, e1, e2, e3, e4, e5⟩ := F.ex
  rcases e4 with ⟨_, e4⟩ | ⟨e4, _⟩
  · subst e4
    exact ⟨_, fd, He.glo_ok X G (c.fact 20 (f := .glo "need_written") rfl), ⟨⟨oc, od, kV, doc, pm, an, cdv, ct, osl, e1, e2, e3⟩, F.kp⟩, F.bindsN fun _ _ _ _ _ _ us hl => match us, hl with | [_, _, _], _ => rfl⟩
  · exact absurd rfl e4
theorem df_need_rank (X : K.In h) (G : h.Ns mainGlobals mg) (c : He.SaysD faD fnD K) : Df K mg "need_rank" s_need_rank ["hall", "thing"] := by
  obtain ⟨fd, F⟩ := c.def_ 21 (d := d_need_rank) rfl
  obtain ⟨oc, od, dV, kV, doc, pm, an, cdv, ct, osl, e1, e2, e3, e4, e5⟩ := F.ex
  rcases e4 with ⟨_, e4⟩ | ⟨e4, _⟩
  · subst e4
    exact ⟨_, fd, He.glo_ok X G (c.fact 21 (f := .glo "need_rank") rfl), ⟨⟨oc, od, kV, doc, pm, an, cdv, ct, osl, e1, e2, e3⟩, F.kp⟩, F.bindsN fun _ _ _ _ _ _ us hl => match us, hl with | [_, _], _ => rfl⟩
  · exact absurd rfl e4
theorem df_need_tick (X : K.In h) (G : h.Ns mainGlobals mg) (c : He.SaysD faD fnD K) : Df K mg "need_tick" s_need_tick ["book", "thing"] := by
  obtain ⟨fd, F⟩ := c.def_ 22 (d := d_need_tick) rfl
  obtain ⟨oc, od, dV, kV, doc, pm, an, cdv, ct, osl, e1, e2, e3, e4, e5⟩ := F.ex
  rcases e4 with ⟨_, e4⟩ | ⟨e4, _⟩
  · subst e4
    exact ⟨_, fd, He.glo_ok X G (c.fact 22 (f := .glo "need_tick") rfl), ⟨⟨oc, od, kV, doc, pm, an, cdv, ct, osl, e1, e2, e3⟩, F.kp⟩, F.bindsN fun _ _ _ _ _ _ us hl => match us, hl with | [_, _], _ => rfl⟩
  · exact absurd rfl e4
theorem df_taken_by (X : K.In h) (G : h.Ns mainGlobals mg) (c : He.SaysD faD fnD K) : Df K mg "taken_by" s_taken_by ["book", "rank"] := by
  obtain ⟨fd, F⟩ := c.def_ 23 (d := d_taken_by) rfl
  obtain ⟨oc, od, dV, kV, doc, pm, an, cdv, ct, osl, e1, e2, e3, e4, e5⟩ := F.ex
  rcases e4 with ⟨_, e4⟩ | ⟨e4, _⟩
  · subst e4
    exact ⟨_, fd, He.glo_ok X G (c.fact 23 (f := .glo "taken_by") rfl), ⟨⟨oc, od, kV, doc, pm, an, cdv, ct, osl, e1, e2, e3⟩, F.kp⟩, F.bindsN fun _ _ _ _ _ _ us hl => match us, hl with | [_, _], _ => rfl⟩
  · exact absurd rfl e4
theorem df_told_of (X : K.In h) (G : h.Ns mainGlobals mg) (c : He.SaysD faD fnD K) : Df K mg "told_of" s_told_of ["hall", "turns", "rank", "behind", "gone"] := by
  obtain ⟨fd, F⟩ := c.def_ 24 (d := d_told_of) rfl
  obtain ⟨oc, od, dV, kV, doc, pm, an, cdv, ct, osl, e1, e2, e3, e4, e5⟩ := F.ex
  rcases e4 with ⟨_, e4⟩ | ⟨e4, _⟩
  · subst e4
    exact ⟨_, fd, He.glo_ok X G (c.fact 24 (f := .glo "told_of") rfl), ⟨⟨oc, od, kV, doc, pm, an, cdv, ct, osl, e1, e2, e3⟩, F.kp⟩, F.bindsN fun _ _ _ _ _ _ us hl => match us, hl with | [_, _, _, _, _], _ => rfl⟩
  · exact absurd rfl e4
theorem df_told_with (X : K.In h) (G : h.Ns mainGlobals mg) (c : He.SaysD faD fnD K) : Df K mg "told_with" s_told_with ["told", "looks", "rank"] := by
  obtain ⟨fd, F⟩ := c.def_ 25 (d := d_told_with) rfl
  obtain ⟨oc, od, dV, kV, doc, pm, an, cdv, ct, osl, e1, e2, e3, e4, e5⟩ := F.ex
  rcases e4 with ⟨_, e4⟩ | ⟨e4, _⟩
  · subst e4
    exact ⟨_, fd, He.glo_ok X G (c.fact 25 (f := .glo "told_with") rfl), ⟨⟨oc, od, kV, doc, pm, an, cdv, ct, osl, e1, e2, e3⟩, F.kp⟩, F.bindsN fun _ _ _ _ _ _ us hl => match us, hl with | [_, _, _], _ => rfl⟩
  · exact absurd rfl e4
theorem df_ranks_behind (X : K.In h) (G : h.Ns mainGlobals mg) (c : He.SaysD faD fnD K) : Df K mg "ranks_behind" s_ranks_behind ["hall", "rank"] := by
  obtain ⟨fd, F⟩ := c.def_ 26 (d := d_ranks_behind) rfl
  obtain ⟨oc, od, dV, kV, doc, pm, an, cdv, ct, osl, e1, e2, e3, e4, e5⟩ := F.ex
  rcases e4 with ⟨_, e4⟩ | ⟨e4, _⟩
  · subst e4
    exact ⟨_, fd, He.glo_ok X G (c.fact 26 (f := .glo "ranks_behind") rfl), ⟨⟨oc, od, kV, doc, pm, an, cdv, ct, osl, e1, e2, e3⟩, F.kp⟩, F.bindsN fun _ _ _ _ _ _ us hl => match us, hl with | [_, _], _ => rfl⟩
  · exact absurd rfl e4
theorem df_steps_up (X : K.In h) (G : h.Ns mainGlobals mg) (c : He.SaysD faD fnD K) : Df K mg "steps_up" s_steps_up ["told", "most", "low", "high"] := by
  obtain ⟨fd, F⟩ := c.def_ 27 (d := d_steps_up) rfl
  obtain ⟨oc, od, dV, kV, doc, pm, an, cdv, ct, osl, e1, e2, e3, e4, e5⟩ := F.ex
  rcases e4 with ⟨_, e4⟩ | ⟨e4, _⟩
  · subst e4
    exact ⟨_, fd, He.glo_ok X G (c.fact 27 (f := .glo "steps_up") rfl), ⟨⟨oc, od, kV, doc, pm, an, cdv, ct, osl, e1, e2, e3⟩, F.kp⟩, F.bindsN fun _ _ _ _ _ _ us hl => match us, hl with | [_, _, _, _], _ => rfl⟩
  · exact absurd rfl e4
theorem df_is_barred (X : K.In h) (G : h.Ns mainGlobals mg) (c : He.SaysD faD fnD K) : Df K mg "is_barred" s_is_barred ["steps"] := by
  obtain ⟨fd, F⟩ := c.def_ 28 (d := d_is_barred) rfl
  obtain ⟨oc, od, dV, kV, doc, pm, an, cdv, ct, osl, e1, e2, e3, e4, e5⟩ := F.ex
  rcases e4 with ⟨_, e4⟩ | ⟨e4, _⟩
  · subst e4
    exact ⟨_, fd, He.glo_ok X G (c.fact 28 (f := .glo "is_barred") rfl), ⟨⟨oc, od, kV, doc, pm, an, cdv, ct, osl, e1, e2, e3⟩, F.kp⟩, F.bindsN fun _ _ _ _ _ _ us hl => match us, hl with | [_], _ => rfl⟩
  · exact absurd rfl e4
theorem df_steps_down (X : K.In h) (G : h.Ns mainGlobals mg) (c : He.SaysD faD fnD K) : Df K mg "steps_down" s_steps_down ["steps", "most"] := by
  obtain ⟨fd, F⟩ := c.def_ 29 (d := d_steps_down) rfl
  obtain ⟨oc, od, dV, kV, doc, pm, an, cdv, ct, osl, e1, e2, e3, e4, e5⟩ := F.ex
  rcases e4 with ⟨_, e4⟩ | ⟨e4, _⟩
  · subst e4
    exact ⟨_, fd, He.glo_ok X G (c.fact 29 (f := .glo "steps_down") rfl), ⟨⟨oc, od, kV, doc, pm, an, cdv, ct, osl, e1, e2, e3⟩, F.kp⟩, F.bindsN fun _ _ _ _ _ _ us hl => match us, hl with | [_, _], _ => rfl⟩
  · exact absurd rfl e4
theorem df_rank_up (X : K.In h) (G : h.Ns mainGlobals mg) (c : He.SaysD faD fnD K) : Df K mg "rank_up" s_rank_up ["hall", "turns", "looks", "rank"] := by
  obtain ⟨fd, F⟩ := c.def_ 30 (d := d_rank_up) rfl
  obtain ⟨oc, od, dV, kV, doc, pm, an, cdv, ct, osl, e1, e2, e3, e4, e5⟩ := F.ex
  rcases e4 with ⟨_, e4⟩ | ⟨e4, _⟩
  · subst e4
    exact ⟨_, fd, He.glo_ok X G (c.fact 30 (f := .glo "rank_up") rfl), ⟨⟨oc, od, kV, doc, pm, an, cdv, ct, osl, e1, e2, e3⟩, F.kp⟩, F.bindsN fun _ _ _ _ _ _ us hl => match us, hl with | [_, _, _, _], _ => rfl⟩
  · exact absurd rfl e4
theorem df_all_up (X : K.In h) (G : h.Ns mainGlobals mg) (c : He.SaysD faD fnD K) : Df K mg "all_up" s_all_up ["hall", "columns", "looks"] := by
  obtain ⟨fd, F⟩ := c.def_ 31 (d := d_all_up) rfl
  obtain ⟨oc, od, dV, kV, doc, pm, an, cdv, ct, osl, e1, e2, e3, e4, e5⟩ := F.ex
  rcases e4 with ⟨_, e4⟩ | ⟨e4, _⟩
  · subst e4
    exact ⟨_, fd, He.glo_ok X G (c.fact 31 (f := .glo "all_up") rfl), ⟨⟨oc, od, kV, doc, pm, an, cdv, ct, osl, e1, e2, e3⟩, F.kp⟩, F.bindsN fun _ _ _ _ _ _ us hl => match us, hl with | [_, _, _], _ => rfl⟩
  · exact absurd rfl e4
theorem df_all_steps (X : K.In h) (G : h.Ns mainGlobals mg) (c : He.SaysD faD fnD K) : Df K mg "all_steps" s_all_steps ["hall", "columns", "looks"] := by
  obtain ⟨fd, F⟩ := c.def_ 32 (d := d_all_steps) rfl
  obtain ⟨oc, od, dV, kV, doc, pm, an, cdv, ct, osl, e1, e2, e3, e4, e5⟩ := F.ex
  rcases e4 with ⟨_, e4⟩ | ⟨e4, _⟩
  · subst e4
    exact ⟨_, fd, He.glo_ok X G (c.fact 32 (f := .glo "all_steps") rfl), ⟨⟨oc, od, kV, doc, pm, an, cdv, ct, osl, e1, e2, e3⟩, F.kp⟩, F.bindsN fun _ _ _ _ _ _ us hl => match us, hl with | [_, _, _], _ => rfl⟩
  · exact absurd rfl e4
theorem df_steps_of (X : K.In h) (G : h.Ns mainGlobals mg) (c : He.SaysD faD fnD K) : Df K mg "steps_of" s_steps_of ["hall", "columns", "looks", "rank"] := by
  obtain ⟨fd, F⟩ := c.def_ 33 (d := d_steps_of) rfl
  obtain ⟨oc, od, dV, kV, doc, pm, an, cdv, ct, osl, e1, e2, e3, e4, e5⟩ := F.ex
  rcases e4 with ⟨_, e4⟩ | ⟨e4, _⟩
  · subst e4
    exact ⟨_, fd, He.glo_ok X G (c.fact 33 (f := .glo "steps_of") rfl), ⟨⟨oc, od, kV, doc, pm, an, cdv, ct, osl, e1, e2, e3⟩, F.kp⟩, F.bindsN fun _ _ _ _ _ _ us hl => match us, hl with | [_, _, _, _], _ => rfl⟩
  · exact absurd rfl e4
theorem df_stairs (X : K.In h) (G : h.Ns mainGlobals mg) (c : He.SaysD faD fnD K) : Df K mg "stairs" s_stairs ["hall", "book", "looks", "rank"] := by
  obtain ⟨fd, F⟩ := c.def_ 34 (d := d_stairs) rfl
  obtain ⟨oc, od, dV, kV, doc, pm, an, cdv, ct, osl, e1, e2, e3, e4, e5⟩ := F.ex
  rcases e4 with ⟨_, e4⟩ | ⟨e4, _⟩
  · subst e4
    exact ⟨_, fd, He.glo_ok X G (c.fact 34 (f := .glo "stairs") rfl), ⟨⟨oc, od, kV, doc, pm, an, cdv, ct, osl, e1, e2, e3⟩, F.kp⟩, F.bindsN fun _ _ _ _ _ _ us hl => match us, hl with | [_, _, _, _], _ => rfl⟩
  · exact absurd rfl e4
theorem df_can_be (X : K.In h) (G : h.Ns mainGlobals mg) (c : He.SaysD faD fnD K) : Df K mg "can_be" s_can_be ["hall", "book", "looks"] := by
  obtain ⟨fd, F⟩ := c.def_ 35 (d := d_can_be) rfl
  obtain ⟨oc, od, dV, kV, doc, pm, an, cdv, ct, osl, e1, e2, e3, e4, e5⟩ := F.ex
  rcases e4 with ⟨_, e4⟩ | ⟨e4, _⟩
  · subst e4
    exact ⟨_, fd, He.glo_ok X G (c.fact 35 (f := .glo "can_be") rfl), ⟨⟨oc, od, kV, doc, pm, an, cdv, ct, osl, e1, e2, e3⟩, F.kp⟩, F.bindsN fun _ _ _ _ _ _ us hl => match us, hl with | [_, _, _], _ => rfl⟩
  · exact absurd rfl e4
theorem df_first_bar (X : K.In h) (G : h.Ns mainGlobals mg) (c : He.SaysD faD fnD K) : Df K mg "first_bar" s_first_bar ["hall", "book"] := by
  obtain ⟨fd, F⟩ := c.def_ 36 (d := d_first_bar) rfl
  obtain ⟨oc, od, dV, kV, doc, pm, an, cdv, ct, osl, e1, e2, e3, e4, e5⟩ := F.ex
  rcases e4 with ⟨_, e4⟩ | ⟨e4, _⟩
  · subst e4
    exact ⟨_, fd, He.glo_ok X G (c.fact 36 (f := .glo "first_bar") rfl), ⟨⟨oc, od, kV, doc, pm, an, cdv, ct, osl, e1, e2, e3⟩, F.kp⟩, F.bindsN fun _ _ _ _ _ _ us hl => match us, hl with | [_, _], _ => rfl⟩
  · exact absurd rfl e4
theorem df__first_bar_of (X : K.In h) (G : h.Ns mainGlobals mg) (c : He.SaysD faD fnD K) : Df K mg "_first_bar_of" s__first_bar_of ["hall", "turns", "looks", "rank"] := by
  obtain ⟨fd, F⟩ := c.def_ 37 (d := d__first_bar_of) rfl
  obtain ⟨oc, od, dV, kV, doc, pm, an, cdv, ct, osl, e1, e2, e3, e4, e5⟩ := F.ex
  rcases e4 with ⟨_, e4⟩ | ⟨e4, _⟩
  · subst e4
    exact ⟨_, fd, He.glo_ok X G (c.fact 37 (f := .glo "_first_bar_of") rfl), ⟨⟨oc, od, kV, doc, pm, an, cdv, ct, osl, e1, e2, e3⟩, F.kp⟩, F.bindsN fun _ _ _ _ _ _ us hl => match us, hl with | [_, _, _, _], _ => rfl⟩
  · exact absurd rfl e4
theorem df_bar (X : K.In h) (G : h.Ns mainGlobals mg) (c : He.SaysD faD fnD K) : Df K mg "bar" s_bar ["hall", "book", "looks"] := by
  obtain ⟨fd, F⟩ := c.def_ 38 (d := d_bar) rfl
  obtain ⟨oc, od, dV, kV, doc, pm, an, cdv, ct, osl, e1, e2, e3, e4, e5⟩ := F.ex
  rcases e4 with ⟨_, e4⟩ | ⟨e4, _⟩
  · subst e4
    exact ⟨_, fd, He.glo_ok X G (c.fact 38 (f := .glo "bar") rfl), ⟨⟨oc, od, kV, doc, pm, an, cdv, ct, osl, e1, e2, e3⟩, F.kp⟩, F.bindsN fun _ _ _ _ _ _ us hl => match us, hl with | [_, _, _], _ => rfl⟩
  · exact absurd rfl e4
theorem df__taken_ahead (X : K.In h) (G : h.Ns mainGlobals mg) (c : He.SaysD faD fnD K) : Df K mg "_taken_ahead" s__taken_ahead ["columns", "rank", "tick"] := by
  obtain ⟨fd, F⟩ := c.def_ 39 (d := d__taken_ahead) rfl
  obtain ⟨oc, od, dV, kV, doc, pm, an, cdv, ct, osl, e1, e2, e3, e4, e5⟩ := F.ex
  rcases e4 with ⟨_, e4⟩ | ⟨e4, _⟩
  · subst e4
    exact ⟨_, fd, He.glo_ok X G (c.fact 39 (f := .glo "_taken_ahead") rfl), ⟨⟨oc, od, kV, doc, pm, an, cdv, ct, osl, e1, e2, e3⟩, F.kp⟩, F.bindsN fun _ _ _ _ _ _ us hl => match us, hl with | [_, _, _], _ => rfl⟩
  · exact absurd rfl e4
theorem df__least_by (X : K.In h) (G : h.Ns mainGlobals mg) (c : He.SaysD faD fnD K) : Df K mg "_least_by" s__least_by ["columns", "looks", "rank", "tick"] := by
  obtain ⟨fd, F⟩ := c.def_ 40 (d := d__least_by) rfl
  obtain ⟨oc, od, dV, kV, doc, pm, an, cdv, ct, osl, e1, e2, e3, e4, e5⟩ := F.ex
  rcases e4 with ⟨_, e4⟩ | ⟨e4, _⟩
  · subst e4
    exact ⟨_, fd, He.glo_ok X G (c.fact 40 (f := .glo "_least_by") rfl), ⟨⟨oc, od, kV, doc, pm, an, cdv, ct, osl, e1, e2, e3⟩, F.kp⟩, F.bindsN fun _ _ _ _ _ _ us hl => match us, hl with | [_, _, _, _], _ => rfl⟩
  · exact absurd rfl e4
theorem df__passed_by (X : K.In h) (G : h.Ns mainGlobals mg) (c : He.SaysD faD fnD K) : Df K mg "_passed_by" s__passed_by ["hall", "columns", "rank", "tick"] := by
  obtain ⟨fd, F⟩ := c.def_ 41 (d := d__passed_by) rfl
  obtain ⟨oc, od, dV, kV, doc, pm, an, cdv, ct, osl, e1, e2, e3, e4, e5⟩ := F.ex
  rcases e4 with ⟨_, e4⟩ | ⟨e4, _⟩
  · subst e4
    exact ⟨_, fd, He.glo_ok X G (c.fact 41 (f := .glo "_passed_by") rfl), ⟨⟨oc, od, kV, doc, pm, an, cdv, ct, osl, e1, e2, e3⟩, F.kp⟩, F.bindsN fun _ _ _ _ _ _ us hl => match us, hl with | [_, _, _, _], _ => rfl⟩
  · exact absurd rfl e4
theorem df__most_by (X : K.In h) (G : h.Ns mainGlobals mg) (c : He.SaysD faD fnD K) : Df K mg "_most_by" s__most_by ["hall", "columns", "looks", "rank", "tick"] := by
  obtain ⟨fd, F⟩ := c.def_ 42 (d := d__most_by) rfl
  obtain ⟨oc, od, dV, kV, doc, pm, an, cdv, ct, osl, e1, e2, e3, e4, e5⟩ := F.ex
  rcases e4 with ⟨_, e4⟩ | ⟨e4, _⟩
  · subst e4
    exact ⟨_, fd, He.glo_ok X G (c.fact 42 (f := .glo "_most_by") rfl), ⟨⟨oc, od, kV, doc, pm, an, cdv, ct, osl, e1, e2, e3⟩, F.kp⟩, F.bindsN fun _ _ _ _ _ _ us hl => match us, hl with | [_, _, _, _, _], _ => rfl⟩
  · exact absurd rfl e4
theorem df_is_bar (X : K.In h) (G : h.Ns mainGlobals mg) (c : He.SaysD faD fnD K) : Df K mg "is_bar" s_is_bar ["hall", "book", "looks", "thing"] := by
  obtain ⟨fd, F⟩ := c.def_ 43 (d := d_is_bar) rfl
  obtain ⟨oc, od, dV, kV, doc, pm, an, cdv, ct, osl, e1, e2, e3, e4, e5⟩ := F.ex
  rcases e4 with ⟨_, e4⟩ | ⟨e4, _⟩
  · subst e4
    exact ⟨_, fd, He.glo_ok X G (c.fact 43 (f := .glo "is_bar") rfl), ⟨⟨oc, od, kV, doc, pm, an, cdv, ct, osl, e1, e2, e3⟩, F.kp⟩, F.bindsN fun _ _ _ _ _ _ us hl => match us, hl with | [_, _, _, _], _ => rfl⟩
  · exact absurd rfl e4
theorem df_need_comer (X : K.In h) (G : h.Ns mainGlobals mg) (c : He.SaysD faD fnD K) : Df K mg "need_comer" s_need_comer ["thing"] := by
  obtain ⟨fd, F⟩ := c.def_ 44 (d := d_need_comer) rfl
  obtain ⟨oc, od, dV, kV, doc, pm, an, cdv, ct, osl, e1, e2, e3, e4, e5⟩ := F.ex
  rcases e4 with ⟨_, e4⟩ | ⟨e4, _⟩
  · subst e4
    exact ⟨_, fd, He.glo_ok X G (c.fact 44 (f := .glo "need_comer") rfl), ⟨⟨oc, od, kV, doc, pm, an, cdv, ct, osl, e1, e2, e3⟩, F.kp⟩, F.bindsN fun _ _ _ _ _ _ us hl => match us, hl with | [_], _ => rfl⟩
  · exact absurd rfl e4
theorem df_first_tick (X : K.In h) (G : h.Ns mainGlobals mg) (c : He.SaysD faD fnD K) : Df K mg "first_tick" s_first_tick ["by", "comer"] := by
  obtain ⟨fd, F⟩ := c.def_ 45 (d := d_first_tick) rfl
  obtain ⟨oc, od, dV, kV, doc, pm, an, cdv, ct, osl, e1, e2, e3, e4, e5⟩ := F.ex
  rcases e4 with ⟨_, e4⟩ | ⟨e4, _⟩
  · subst e4
    exact ⟨_, fd, He.glo_ok X G (c.fact 45 (f := .glo "first_tick") rfl), ⟨⟨oc, od, kV, doc, pm, an, cdv, ct, osl, e1, e2, e3⟩, F.kp⟩, F.bindsN fun _ _ _ _ _ _ us hl => match us, hl with | [_, _], _ => rfl⟩
  · exact absurd rfl e4
theorem df_came (X : K.In h) (G : h.Ns mainGlobals mg) (c : He.SaysD faD fnD K) : Df K mg "came" s_came ["hall", "book", "looks", "rank", "comer"] := by
  obtain ⟨fd, F⟩ := c.def_ 46 (d := d_came) rfl
  obtain ⟨oc, od, dV, kV, doc, pm, an, cdv, ct, osl, e1, e2, e3, e4, e5⟩ := F.ex
  rcases e4 with ⟨_, e4⟩ | ⟨e4, _⟩
  · subst e4
    exact ⟨_, fd, He.glo_ok X G (c.fact 46 (f := .glo "came") rfl), ⟨⟨oc, od, kV, doc, pm, an, cdv, ct, osl, e1, e2, e3⟩, F.kp⟩, F.bindsN fun _ _ _ _ _ _ us hl => match us, hl with | [_, _, _, _, _], _ => rfl⟩
  · exact absurd rfl e4
theorem df_taken (X : K.In h) (G : h.Ns mainGlobals mg) (c : He.SaysD faD fnD K) : Df K mg "taken" s_taken ["hall", "book", "rank", "comer"] := by
  obtain ⟨fd, F⟩ := c.def_ 47 (d := d_taken) rfl
  obtain ⟨oc, od, dV, kV, doc, pm, an, cdv, ct, osl, e1, e2, e3, e4, e5⟩ := F.ex
  rcases e4 with ⟨_, e4⟩ | ⟨e4, _⟩
  · subst e4
    exact ⟨_, fd, He.glo_ok X G (c.fact 47 (f := .glo "taken") rfl), ⟨⟨oc, od, kV, doc, pm, an, cdv, ct, osl, e1, e2, e3⟩, F.kp⟩, F.bindsN fun _ _ _ _ _ _ us hl => match us, hl with | [_, _, _, _], _ => rfl⟩
  · exact absurd rfl e4
theorem df_waits (X : K.In h) (G : h.Ns mainGlobals mg) (c : He.SaysD faD fnD K) : Df K mg "waits" s_waits ["hall", "book", "looks", "rank"] := by
  obtain ⟨fd, F⟩ := c.def_ 48 (d := d_waits) rfl
  obtain ⟨oc, od, dV, kV, doc, pm, an, cdv, ct, osl, e1, e2, e3, e4, e5⟩ := F.ex
  rcases e4 with ⟨_, e4⟩ | ⟨e4, _⟩
  · subst e4
    exact ⟨_, fd, He.glo_ok X G (c.fact 48 (f := .glo "waits") rfl), ⟨⟨oc, od, kV, doc, pm, an, cdv, ct, osl, e1, e2, e3⟩, F.kp⟩, F.bindsN fun _ _ _ _ _ _ us hl => match us, hl with | [_, _, _, _], _ => rfl⟩
  · exact absurd rfl e4
theorem df__left (X : K.In h) (G : h.Ns mainGlobals mg) (c : He.SaysD faD fnD K) : Df K mg "_left" s__left ["steps", "book", "rank"] := by
  obtain ⟨fd, F⟩ := c.def_ 49 (d := d__left) rfl
  obtain ⟨oc, od, dV, kV, doc, pm, an, cdv, ct, osl, e1, e2, e3, e4, e5⟩ := F.ex
  rcases e4 with ⟨_, e4⟩ | ⟨e4, _⟩
  · subst e4
    exact ⟨_, fd, He.glo_ok X G (c.fact 49 (f := .glo "_left") rfl), ⟨⟨oc, od, kV, doc, pm, an, cdv, ct, osl, e1, e2, e3⟩, F.kp⟩, F.bindsN fun _ _ _ _ _ _ us hl => match us, hl with | [_, _, _], _ => rfl⟩
  · exact absurd rfl e4
theorem df_waiting (X : K.In h) (G : h.Ns mainGlobals mg) (c : He.SaysD faD fnD K) : Df K mg "waiting" s_waiting ["hall", "book", "looks", "rank", "tick"] := by
  obtain ⟨fd, F⟩ := c.def_ 50 (d := d_waiting) rfl
  obtain ⟨oc, od, dV, kV, doc, pm, an, cdv, ct, osl, e1, e2, e3, e4, e5⟩ := F.ex
  rcases e4 with ⟨_, e4⟩ | ⟨e4, _⟩
  · subst e4
    exact ⟨_, fd, He.glo_ok X G (c.fact 50 (f := .glo "waiting") rfl), ⟨⟨oc, od, kV, doc, pm, an, cdv, ct, osl, e1, e2, e3⟩, F.kp⟩, F.bindsN fun _ _ _ _ _ _ us hl => match us, hl with | [_, _, _, _, _], _ => rfl⟩
  · exact absurd rfl e4
theorem df_because (X : K.In h) (G : h.Ns mainGlobals mg) (c : He.SaysD faD fnD K) : Df K mg "because" s_because ["hall", "book", "looks", "rank", "other"] := by
  obtain ⟨fd, F⟩ := c.def_ 51 (d := d_because) rfl
  obtain ⟨oc, od, dV, kV, doc, pm, an, cdv, ct, osl, e1, e2, e3, e4, e5⟩ := F.ex
  rcases e4 with ⟨_, e4⟩ | ⟨e4, _⟩
  · subst e4
    exact ⟨_, fd, He.glo_ok X G (c.fact 51 (f := .glo "because") rfl), ⟨⟨oc, od, kV, doc, pm, an, cdv, ct, osl, e1, e2, e3⟩, F.kp⟩, F.bindsN fun _ _ _ _ _ _ us hl => match us, hl with | [_, _, _, _, _], _ => rfl⟩
  · exact absurd rfl e4
theorem df__need_alike (X : K.In h) (G : h.Ns mainGlobals mg) (c : He.SaysD faD fnD K) : Df K mg "_need_alike" s__need_alike ["hall"] := by
  obtain ⟨fd, F⟩ := c.def_ 52 (d := d__need_alike) rfl
  obtain ⟨oc, od, dV, kV, doc, pm, an, cdv, ct, osl, e1, e2, e3, e4, e5⟩ := F.ex
  rcases e4 with ⟨_, e4⟩ | ⟨e4, _⟩
  · subst e4
    exact ⟨_, fd, He.glo_ok X G (c.fact 52 (f := .glo "_need_alike") rfl), ⟨⟨oc, od, kV, doc, pm, an, cdv, ct, osl, e1, e2, e3⟩, F.kp⟩, F.bindsN fun _ _ _ _ _ _ us hl => match us, hl with | [_], _ => rfl⟩
  · exact absurd rfl e4
theorem df__taken_first (X : K.In h) (G : h.Ns mainGlobals mg) (c : He.SaysD faD fnD K) : Df K mg "_taken_first" s__taken_first ["had_come", "free"] := by
  obtain ⟨fd, F⟩ := c.def_ 53 (d := d__taken_first) rfl
  obtain ⟨oc, od, dV, kV, doc, pm, an, cdv, ct, osl, e1, e2, e3, e4, e5⟩ := F.ex
  rcases e4 with ⟨_, e4⟩ | ⟨e4, _⟩
  · subst e4
    exact ⟨_, fd, He.glo_ok X G (c.fact 53 (f := .glo "_taken_first") rfl), ⟨⟨oc, od, kV, doc, pm, an, cdv, ct, osl, e1, e2, e3⟩, F.kp⟩, F.bindsN fun _ _ _ _ _ _ us hl => match us, hl with | [_, _], _ => rfl⟩
  · exact absurd rfl e4
theorem df_first_taken (X : K.In h) (G : h.Ns mainGlobals mg) (c : He.SaysD faD fnD K) : Df K mg "first_taken" s_first_taken ["hall", "book", "looks", "rank", "comer"] := by
  obtain ⟨fd, F⟩ := c.def_ 54 (d := d_first_taken) rfl
  obtain ⟨oc, od, dV, kV, doc, pm, an, cdv, ct, osl, e1, e2, e3, e4, e5⟩ := F.ex
  rcases e4 with ⟨_, e4⟩ | ⟨e4, _⟩
  · subst e4
    exact ⟨_, fd, He.glo_ok X G (c.fact 54 (f := .glo "first_taken") rfl), ⟨⟨oc, od, kV, doc, pm, an, cdv, ct, osl, e1, e2, e3⟩, F.kp⟩, F.bindsN fun _ _ _ _ _ _ us hl => match us, hl with | [_, _, _, _, _], _ => rfl⟩
  · exact absurd rfl e4
theorem df__with_first (X : K.In h) (G : h.Ns mainGlobals mg) (c : He.SaysD faD fnD K) : Df K mg "_with_first" s__with_first ["hall", "desk", "turns", "one"] := by
  obtain ⟨fd, F⟩ := c.def_ 55 (d := d__with_first) rfl
  obtain ⟨oc, od, dV, kV, doc, pm, an, cdv, ct, osl, e1, e2, e3, e4, e5⟩ := F.ex
  rcases e4 with ⟨_, e4⟩ | ⟨e4, _⟩
  · subst e4
    exact ⟨_, fd, He.glo_ok X G (c.fact 55 (f := .glo "_with_first") rfl), ⟨⟨oc, od, kV, doc, pm, an, cdv, ct, osl, e1, e2, e3⟩, F.kp⟩, F.bindsN fun _ _ _ _ _ _ us hl => match us, hl with | [_, _, _, _], _ => rfl⟩
  · exact absurd rfl e4
theorem df__up_from (X : K.In h) (G : h.Ns mainGlobals mg) (c : He.SaysD faD fnD K) : Df K mg "_up_from" s__up_from ["hall", "turns", "steps", "tick", "rank"] := by
  obtain ⟨fd, F⟩ := c.def_ 56 (d := d__up_from) rfl
  obtain ⟨oc, od, dV, kV, doc, pm, an, cdv, ct, osl, e1, e2, e3, e4, e5⟩ := F.ex
  rcases e4 with ⟨_, e4⟩ | ⟨e4, _⟩
  · subst e4
    exact ⟨_, fd, He.glo_ok X G (c.fact 56 (f := .glo "_up_from") rfl), ⟨⟨oc, od, kV, doc, pm, an, cdv, ct, osl, e1, e2, e3⟩, F.kp⟩, F.bindsN fun _ _ _ _ _ _ us hl => match us, hl with | [_, _, _, _, _], _ => rfl⟩
  · exact absurd rfl e4
theorem df__does (X : K.In h) (G : h.Ns mainGlobals mg) (c : He.SaysD faD fnD K) : Df K mg "_does" s__does ["hall", "turns", "every", "mend"] := by
  obtain ⟨fd, F⟩ := c.def_ 57 (d := d__does) rfl
  obtain ⟨oc, od, dV, kV, doc, pm, an, cdv, ct, osl, e1, e2, e3, e4, e5⟩ := F.ex
  rcases e4 with ⟨_, e4⟩ | ⟨e4, _⟩
  · subst e4
    exact ⟨_, fd, He.glo_ok X G (c.fact 57 (f := .glo "_does") rfl), ⟨⟨oc, od, kV, doc, pm, an, cdv, ct, osl, e1, e2, e3⟩, F.kp⟩, F.bindsN fun _ _ _ _ _ _ us hl => match us, hl with | [_, _, _, _], _ => rfl⟩
  · exact absurd rfl e4
theorem df_mends (X : K.In h) (G : h.Ns mainGlobals mg) (c : He.SaysD faD fnD K) : Df K mg "mends" s_mends ["hall", "book"] := by
  obtain ⟨fd, F⟩ := c.def_ 58 (d := d_mends) rfl
  obtain ⟨oc, od, dV, kV, doc, pm, an, cdv, ct, osl, e1, e2, e3, e4, e5⟩ := F.ex
  rcases e4 with ⟨_, e4⟩ | ⟨e4, _⟩
  · subst e4
    exact ⟨_, fd, He.glo_ok X G (c.fact 58 (f := .glo "mends") rfl), ⟨⟨oc, od, kV, doc, pm, an, cdv, ct, osl, e1, e2, e3⟩, F.kp⟩, F.bindsN fun _ _ _ _ _ _ us hl => match us, hl with | [_, _], _ => rfl⟩
  · exact absurd rfl e4
theorem df__can_stay (X : K.In h) (G : h.Ns mainGlobals mg) (c : He.SaysD faD fnD K) : Df K mg "_can_stay" s__can_stay ["hall", "book", "rank", "stay"] := by
  obtain ⟨fd, F⟩ := c.def_ 59 (d := d__can_stay) rfl
  obtain ⟨oc, od, dV, kV, doc, pm, an, cdv, ct, osl, e1, e2, e3, e4, e5⟩ := F.ex
  rcases e4 with ⟨_, e4⟩ | ⟨e4, _⟩
  · subst e4
    exact ⟨_, fd, He.glo_ok X G (c.fact 59 (f := .glo "_can_stay") rfl), ⟨⟨oc, od, kV, doc, pm, an, cdv, ct, osl, e1, e2, e3⟩, F.kp⟩, F.bindsN fun _ _ _ _ _ _ us hl => match us, hl with | [_, _, _, _], _ => rfl⟩
  · exact absurd rfl e4
theorem df_stays (X : K.In h) (G : h.Ns mainGlobals mg) (c : He.SaysD faD fnD K) : Df K mg "stays" s_stays ["hall", "book", "rank"] := by
  obtain ⟨fd, F⟩ := c.def_ 60 (d := d_stays) rfl
  obtain ⟨oc, od, dV, kV, doc, pm, an, cdv, ct, osl, e1, e2, e3, e4, e5⟩ := F.ex
  rcases e4 with ⟨_, e4⟩ | ⟨e4, _⟩
  · subst e4
    exact ⟨_, fd, He.glo_ok X G (c.fact 60 (f := .glo "stays") rfl), ⟨⟨oc, od, kV, doc, pm, an, cdv, ct, osl, e1, e2, e3⟩, F.kp⟩, F.bindsN fun _ _ _ _ _ _ us hl => match us, hl with | [_, _, _], _ => rfl⟩
  · exact absurd rfl e4
theorem df_ways_within (X : K.In h) (G : h.Ns mainGlobals mg) (c : He.SaysD faD fnD K) : Df K mg "ways_within" s_ways_within ["ways", "most", "start", "many"] := by
  obtain ⟨fd, F⟩ := c.def_ 61 (d := d_ways_within) rfl
  obtain ⟨oc, od, dV, kV, doc, pm, an, cdv, ct, osl, e1, e2, e3, e4, e5⟩ := F.ex
  rcases e4 with ⟨_, e4⟩ | ⟨e4, _⟩
  · subst e4
    exact ⟨_, fd, He.glo_ok X G (c.fact 61 (f := .glo "ways_within") rfl), ⟨⟨oc, od, kV, doc, pm, an, cdv, ct, osl, e1, e2, e3⟩, F.kp⟩, F.bindsN fun _ _ _ _ _ _ us hl => match us, hl with | [_, _, _, _], _ => rfl⟩
  · exact absurd rfl e4
theorem df_ways_to (X : K.In h) (G : h.Ns mainGlobals mg) (c : He.SaysD faD fnD K) : Df K mg "ways_to" s_ways_to ["steps", "most"] := by
  obtain ⟨fd, F⟩ := c.def_ 62 (d := d_ways_to) rfl
  obtain ⟨oc, od, dV, kV, doc, pm, an, cdv, ct, osl, e1, e2, e3, e4, e5⟩ := F.ex
  rcases e4 with ⟨_, e4⟩ | ⟨e4, _⟩
  · subst e4
    exact ⟨_, fd, He.glo_ok X G (c.fact 62 (f := .glo "ways_to") rfl), ⟨⟨oc, od, kV, doc, pm, an, cdv, ct, osl, e1, e2, e3⟩, F.kp⟩, F.bindsN fun _ _ _ _ _ _ us hl => match us, hl with | [_, _], _ => rfl⟩
  · exact absurd rfl e4
theorem df_ways_on (X : K.In h) (G : h.Ns mainGlobals mg) (c : He.SaysD faD fnD K) : Df K mg "ways_on" s_ways_on ["steps", "most"] := by
  obtain ⟨fd, F⟩ := c.def_ 63 (d := d_ways_on) rfl
  obtain ⟨oc, od, dV, kV, doc, pm, an, cdv, ct, osl, e1, e2, e3, e4, e5⟩ := F.ex
  rcases e4 with ⟨_, e4⟩ | ⟨e4, _⟩
  · subst e4
    exact ⟨_, fd, He.glo_ok X G (c.fact 63 (f := .glo "ways_on") rfl), ⟨⟨oc, od, kV, doc, pm, an, cdv, ct, osl, e1, e2, e3⟩, F.kp⟩, F.bindsN fun _ _ _ _ _ _ us hl => match us, hl with | [_, _], _ => rfl⟩
  · exact absurd rfl e4
theorem df_all_ways (X : K.In h) (G : h.Ns mainGlobals mg) (c : He.SaysD faD fnD K) : Df K mg "all_ways" s_all_ways ["steps", "most"] := by
  obtain ⟨fd, F⟩ := c.def_ 64 (d := d_all_ways) rfl
  obtain ⟨oc, od, dV, kV, doc, pm, an, cdv, ct, osl, e1, e2, e3, e4, e5⟩ := F.ex
  rcases e4 with ⟨_, e4⟩ | ⟨e4, _⟩
  · subst e4
    exact ⟨_, fd, He.glo_ok X G (c.fact 64 (f := .glo "all_ways") rfl), ⟨⟨oc, od, kV, doc, pm, an, cdv, ct, osl, e1, e2, e3⟩, F.kp⟩, F.bindsN fun _ _ _ _ _ _ us hl => match us, hl with | [_, _], _ => rfl⟩
  · exact absurd rfl e4
theorem df_all_comings (X : K.In h) (G : h.Ns mainGlobals mg) (c : He.SaysD faD fnD K) : Df K mg "all_comings" s_all_comings ["hall", "every"] := by
  obtain ⟨fd, F⟩ := c.def_ 65 (d := d_all_comings) rfl
  obtain ⟨oc, od, dV, kV, doc, pm, an, cdv, ct, osl, e1, e2, e3, e4, e5⟩ := F.ex
  rcases e4 with ⟨_, e4⟩ | ⟨e4, _⟩
  · subst e4
    exact ⟨_, fd, He.glo_ok X G (c.fact 65 (f := .glo "all_comings") rfl), ⟨⟨oc, od, kV, doc, pm, an, cdv, ct, osl, e1, e2, e3⟩, F.kp⟩, F.bindsN fun _ _ _ _ _ _ us hl => match us, hl with | [_, _], _ => rfl⟩
  · exact absurd rfl e4
theorem df__waiting_next (X : K.In h) (G : h.Ns mainGlobals mg) (c : He.SaysD faD fnD K) : Df K mg "_waiting_next" s__waiting_next ["hall", "book", "rank", "steps"] := by
  obtain ⟨fd, F⟩ := c.def_ 66 (d := d__waiting_next) rfl
  obtain ⟨oc, od, dV, kV, doc, pm, an, cdv, ct, osl, e1, e2, e3, e4, e5⟩ := F.ex
  rcases e4 with ⟨_, e4⟩ | ⟨e4, _⟩
  · subst e4
    exact ⟨_, fd, He.glo_ok X G (c.fact 66 (f := .glo "_waiting_next") rfl), ⟨⟨oc, od, kV, doc, pm, an, cdv, ct, osl, e1, e2, e3⟩, F.kp⟩, F.bindsN fun _ _ _ _ _ _ us hl => match us, hl with | [_, _, _, _], _ => rfl⟩
  · exact absurd rfl e4
theorem df__with_turn (X : K.In h) (G : h.Ns mainGlobals mg) (c : He.SaysD faD fnD K) : Df K mg "_with_turn" s__with_turn ["row", "emptied", "desk"] := by
  obtain ⟨fd, F⟩ := c.def_ 67 (d := d__with_turn) rfl
  obtain ⟨oc, od, dV, kV, doc, pm, an, cdv, ct, osl, e1, e2, e3, e4, e5⟩ := F.ex
  rcases e4 with ⟨_, e4⟩ | ⟨e4, _⟩
  · subst e4
    exact ⟨_, fd, He.glo_ok X G (c.fact 67 (f := .glo "_with_turn") rfl), ⟨⟨oc, od, kV, doc, pm, an, cdv, ct, osl, e1, e2, e3⟩, F.kp⟩, F.bindsN fun _ _ _ _ _ _ us hl => match us, hl with | [_, _, _], _ => rfl⟩
  · exact absurd rfl e4
theorem df__rows_next (X : K.In h) (G : h.Ns mainGlobals mg) (c : He.SaysD faD fnD K) : Df K mg "_rows_next" s__rows_next ["hall", "columns"] := by
  obtain ⟨fd, F⟩ := c.def_ 68 (d := d__rows_next) rfl
  obtain ⟨oc, od, dV, kV, doc, pm, an, cdv, ct, osl, e1, e2, e3, e4, e5⟩ := F.ex
  rcases e4 with ⟨_, e4⟩ | ⟨e4, _⟩
  · subst e4
    exact ⟨_, fd, He.glo_ok X G (c.fact 68 (f := .glo "_rows_next") rfl), ⟨⟨oc, od, kV, doc, pm, an, cdv, ct, osl, e1, e2, e3⟩, F.kp⟩, F.bindsN fun _ _ _ _ _ _ us hl => match us, hl with | [_, _], _ => rfl⟩
  · exact absurd rfl e4
theorem df_nexts (X : K.In h) (G : h.Ns mainGlobals mg) (c : He.SaysD faD fnD K) : Df K mg "nexts" s_nexts ["hall", "book", "looks"] := by
  obtain ⟨fd, F⟩ := c.def_ 69 (d := d_nexts) rfl
  obtain ⟨oc, od, dV, kV, doc, pm, an, cdv, ct, osl, e1, e2, e3, e4, e5⟩ := F.ex
  rcases e4 with ⟨_, e4⟩ | ⟨e4, _⟩
  · subst e4
    exact ⟨_, fd, He.glo_ok X G (c.fact 69 (f := .glo "nexts") rfl), ⟨⟨oc, od, kV, doc, pm, an, cdv, ct, osl, e1, e2, e3⟩, F.kp⟩, F.bindsN fun _ _ _ _ _ _ us hl => match us, hl with | [_, _, _], _ => rfl⟩
  · exact absurd rfl e4
theorem df__worst_answers (X : K.In h) (G : h.Ns mainGlobals mg) (c : He.SaysD faD fnD K) : Df K mg "_worst_answers" s__worst_answers ["steps", "most"] := by
  obtain ⟨fd, F⟩ := c.def_ 70 (d := d__worst_answers) rfl
  obtain ⟨oc, od, dV, kV, doc, pm, an, cdv, ct, osl, e1, e2, e3, e4, e5⟩ := F.ex
  rcases e4 with ⟨_, e4⟩ | ⟨e4, _⟩
  · subst e4
    exact ⟨_, fd, He.glo_ok X G (c.fact 70 (f := .glo "_worst_answers") rfl), ⟨⟨oc, od, kV, doc, pm, an, cdv, ct, osl, e1, e2, e3⟩, F.kp⟩, F.bindsN fun _ _ _ _ _ _ us hl => match us, hl with | [_, _], _ => rfl⟩
  · exact absurd rfl e4
theorem df_best_look (X : K.In h) (G : h.Ns mainGlobals mg) (c : He.SaysD faD fnD K) : Df K mg "best_look" s_best_look ["hall", "book", "looks"] := by
  obtain ⟨fd, F⟩ := c.def_ 71 (d := d_best_look) rfl
  obtain ⟨oc, od, dV, kV, doc, pm, an, cdv, ct, osl, e1, e2, e3, e4, e5⟩ := F.ex
  rcases e4 with ⟨_, e4⟩ | ⟨e4, _⟩
  · subst e4
    exact ⟨_, fd, He.glo_ok X G (c.fact 71 (f := .glo "best_look") rfl), ⟨⟨oc, od, kV, doc, pm, an, cdv, ct, osl, e1, e2, e3⟩, F.kp⟩, F.bindsN fun _ _ _ _ _ _ us hl => match us, hl with | [_, _, _], _ => rfl⟩
  · exact absurd rfl e4
theorem df__orders_with (X : K.In h) (G : h.Ns mainGlobals mg) (c : He.SaysD faD fnD K) : Df K mg "_orders_with" s__orders_with ["hall", "pairs"] := by
  obtain ⟨fd, F⟩ := c.def_ 72 (d := d__orders_with) rfl
  obtain ⟨oc, od, dV, kV, doc, pm, an, cdv, ct, osl, e1, e2, e3, e4, e5⟩ := F.ex
  rcases e4 with ⟨_, e4⟩ | ⟨e4, _⟩
  · subst e4
    exact ⟨_, fd, He.glo_ok X G (c.fact 72 (f := .glo "_orders_with") rfl), ⟨⟨oc, od, kV, doc, pm, an, cdv, ct, osl, e1, e2, e3⟩, F.kp⟩, F.bindsN fun _ _ _ _ _ _ us hl => match us, hl with | [_, _], _ => rfl⟩
  · exact absurd rfl e4
theorem df__up (X : K.In h) (G : h.Ns mainGlobals mg) (c : He.SaysD faD fnD K) : Df K mg "_up" s__up ["hall", "turns", "rank", "behind"] := by
  obtain ⟨fd, F⟩ := c.def_ 73 (d := d__up) rfl
  obtain ⟨oc, od, dV, kV, doc, pm, an, cdv, ct, osl, e1, e2, e3, e4, e5⟩ := F.ex
  rcases e4 with ⟨_, e4⟩ | ⟨e4, _⟩
  · subst e4
    exact ⟨_, fd, He.glo_ok X G (c.fact 73 (f := .glo "_up") rfl), ⟨⟨oc, od, kV, doc, pm, an, cdv, ct, osl, e1, e2, e3⟩, F.kp⟩, F.bindsN fun _ _ _ _ _ _ us hl => match us, hl with | [_, _, _, _], _ => rfl⟩
  · exact absurd rfl e4
theorem df__pairs (X : K.In h) (G : h.Ns mainGlobals mg) (c : He.SaysD faD fnD K) : Df K mg "_pairs" s__pairs ["hall", "turns"] := by
  obtain ⟨fd, F⟩ := c.def_ 74 (d := d__pairs) rfl
  obtain ⟨oc, od, dV, kV, doc, pm, an, cdv, ct, osl, e1, e2, e3, e4, e5⟩ := F.ex
  rcases e4 with ⟨_, e4⟩ | ⟨e4, _⟩
  · subst e4
    exact ⟨_, fd, He.glo_ok X G (c.fact 74 (f := .glo "_pairs") rfl), ⟨⟨oc, od, kV, doc, pm, an, cdv, ct, osl, e1, e2, e3⟩, F.kp⟩, F.bindsN fun _ _ _ _ _ _ us hl => match us, hl with | [_, _], _ => rfl⟩
  · exact absurd rfl e4
theorem df__ways_of (X : K.In h) (G : h.Ns mainGlobals mg) (c : He.SaysD faD fnD K) : Df K mg "_ways_of" s__ways_of ["hall", "turns", "rank", "behind"] := by
  obtain ⟨fd, F⟩ := c.def_ 75 (d := d__ways_of) rfl
  obtain ⟨oc, od, dV, kV, doc, pm, an, cdv, ct, osl, e1, e2, e3, e4, e5⟩ := F.ex
  rcases e4 with ⟨_, e4⟩ | ⟨e4, _⟩
  · subst e4
    exact ⟨_, fd, He.glo_ok X G (c.fact 75 (f := .glo "_ways_of") rfl), ⟨⟨oc, od, kV, doc, pm, an, cdv, ct, osl, e1, e2, e3⟩, F.kp⟩, F.bindsN fun _ _ _ _ _ _ us hl => match us, hl with | [_, _, _, _], _ => rfl⟩
  · exact absurd rfl e4
theorem df_orders (X : K.In h) (G : h.Ns mainGlobals mg) (c : He.SaysD faD fnD K) : Df K mg "orders" s_orders ["hall", "book"] := by
  obtain ⟨fd, F⟩ := c.def_ 76 (d := d_orders) rfl
  obtain ⟨oc, od, dV, kV, doc, pm, an, cdv, ct, osl, e1, e2, e3, e4, e5⟩ := F.ex
  rcases e4 with ⟨_, e4⟩ | ⟨e4, _⟩
  · subst e4
    exact ⟨_, fd, He.glo_ok X G (c.fact 76 (f := .glo "orders") rfl), ⟨⟨oc, od, kV, doc, pm, an, cdv, ct, osl, e1, e2, e3⟩, F.kp⟩, F.bindsN fun _ _ _ _ _ _ us hl => match us, hl with | [_, _], _ => rfl⟩
  · exact absurd rfl e4
theorem df_must_be_ahead (X : K.In h) (G : h.Ns mainGlobals mg) (c : He.SaysD faD fnD K) : Df K mg "must_be_ahead" s_must_be_ahead ["hall", "book"] := by
  obtain ⟨fd, F⟩ := c.def_ 77 (d := d_must_be_ahead) rfl
  obtain ⟨oc, od, dV, kV, doc, pm, an, cdv, ct, osl, e1, e2, e3, e4, e5⟩ := F.ex
  rcases e4 with ⟨_, e4⟩ | ⟨e4, _⟩
  · subst e4
    exact ⟨_, fd, He.glo_ok X G (c.fact 77 (f := .glo "must_be_ahead") rfl), ⟨⟨oc, od, kV, doc, pm, an, cdv, ct, osl, e1, e2, e3⟩, F.kp⟩, F.bindsN fun _ _ _ _ _ _ us hl => match us, hl with | [_, _], _ => rfl⟩
  · exact absurd rfl e4
theorem df_how_many (X : K.In h) (G : h.Ns mainGlobals mg) (c : He.SaysD faD fnD K) : Df K mg "how_many" s_how_many ["hall", "book", "looks"] := by
  obtain ⟨fd, F⟩ := c.def_ 78 (d := d_how_many) rfl
  obtain ⟨oc, od, dV, kV, doc, pm, an, cdv, ct, osl, e1, e2, e3, e4, e5⟩ := F.ex
  rcases e4 with ⟨_, e4⟩ | ⟨e4, _⟩
  · subst e4
    exact ⟨_, fd, He.glo_ok X G (c.fact 78 (f := .glo "how_many") rfl), ⟨⟨oc, od, kV, doc, pm, an, cdv, ct, osl, e1, e2, e3⟩, F.kp⟩, F.bindsN fun _ _ _ _ _ _ us hl => match us, hl with | [_, _, _], _ => rfl⟩
  · exact absurd rfl e4
theorem df_how_many_of (X : K.In h) (G : h.Ns mainGlobals mg) (c : He.SaysD faD fnD K) : Df K mg "how_many_of" s_how_many_of ["hall", "book", "looks", "rank"] := by
  obtain ⟨fd, F⟩ := c.def_ 79 (d := d_how_many_of) rfl
  obtain ⟨oc, od, dV, kV, doc, pm, an, cdv, ct, osl, e1, e2, e3, e4, e5⟩ := F.ex
  rcases e4 with ⟨_, e4⟩ | ⟨e4, _⟩
  · subst e4
    exact ⟨_, fd, He.glo_ok X G (c.fact 79 (f := .glo "how_many_of") rfl), ⟨⟨oc, od, kV, doc, pm, an, cdv, ct, osl, e1, e2, e3⟩, F.kp⟩, F.bindsN fun _ _ _ _ _ _ us hl => match us, hl with | [_, _, _, _], _ => rfl⟩
  · exact absurd rfl e4
theorem df__law_well (X : K.In h) (G : h.Ns mainGlobals mg) (c : He.SaysD faD fnD K) : Df K mg "_law_well" s__law_well ["cell", "turn"] := by
  obtain ⟨fd, F⟩ := c.def_ 80 (d := d__law_well) rfl
  obtain ⟨oc, od, dV, kV, doc, pm, an, cdv, ct, osl, e1, e2, e3, e4, e5⟩ := F.ex
  rcases e4 with ⟨_, e4⟩ | ⟨e4, _⟩
  · subst e4
    exact ⟨_, fd, He.glo_ok X G (c.fact 80 (f := .glo "_law_well") rfl), ⟨⟨oc, od, kV, doc, pm, an, cdv, ct, osl, e1, e2, e3⟩, F.kp⟩, F.bindsN fun _ _ _ _ _ _ us hl => match us, hl with | [_, _], _ => rfl⟩
  · exact absurd rfl e4
theorem df__law_take (X : K.In h) (G : h.Ns mainGlobals mg) (c : He.SaysD faD fnD K) : Df K mg "_law_take" s__law_take ["bag", "many"] := by
  obtain ⟨fd, F⟩ := c.def_ 81 (d := d__law_take) rfl
  obtain ⟨oc, od, dV, kV, doc, pm, an, cdv, ct, osl, e1, e2, e3, e4, e5⟩ := F.ex
  rcases e4 with ⟨_, e4⟩ | ⟨e4, _⟩
  · subst e4
    exact ⟨_, fd, He.glo_ok X G (c.fact 81 (f := .glo "_law_take") rfl), ⟨⟨oc, od, kV, doc, pm, an, cdv, ct, osl, e1, e2, e3⟩, F.kp⟩, F.bindsN fun _ _ _ _ _ _ us hl => match us, hl with | [_, _], _ => rfl⟩
  · exact absurd rfl e4
theorem df__law_bags (X : K.In h) (G : h.Ns mainGlobals mg) (c : He.SaysD faD fnD K) : Df K mg "_law_bags" s__law_bags ["script", "most"] := by
  obtain ⟨fd, F⟩ := c.def_ 82 (d := d__law_bags) rfl
  obtain ⟨oc, od, dV, kV, doc, pm, an, cdv, ct, osl, e1, e2, e3, e4, e5⟩ := F.ex
  rcases e4 with ⟨_, e4⟩ | ⟨e4, _⟩
  · subst e4
    exact ⟨_, fd, He.glo_ok X G (c.fact 82 (f := .glo "_law_bags") rfl), ⟨⟨oc, od, kV, doc, pm, an, cdv, ct, osl, e1, e2, e3⟩, F.kp⟩, F.bindsN fun _ _ _ _ _ _ us hl => match us, hl with | [_, _], _ => rfl⟩
  · exact absurd rfl e4
theorem df__law_one_desk (X : K.In h) (G : h.Ns mainGlobals mg) (c : He.SaysD faD fnD K) : Df K mg "_law_one_desk" s__law_one_desk [] := by
  obtain ⟨fd, F⟩ := c.def_ 83 (d := d__law_one_desk) rfl
  obtain ⟨oc, od, dV, kV, doc, pm, an, cdv, ct, osl, e1, e2, e3, e4, e5⟩ := F.ex
  rcases e4 with ⟨_, e4⟩ | ⟨e4, _⟩
  · subst e4
    exact ⟨_, fd, He.glo_ok X G (c.fact 83 (f := .glo "_law_one_desk") rfl), ⟨⟨oc, od, kV, doc, pm, an, cdv, ct, osl, e1, e2, e3⟩, F.kp⟩, F.bindsN fun _ _ _ _ _ _ us hl => match us, hl with | [], _ => rfl⟩
  · exact absurd rfl e4
theorem df__law_barred (X : K.In h) (G : h.Ns mainGlobals mg) (c : He.SaysD faD fnD K) : Df K mg "_law_barred" s__law_barred [] := by
  obtain ⟨fd, F⟩ := c.def_ 84 (d := d__law_barred) rfl
  obtain ⟨oc, od, dV, kV, doc, pm, an, cdv, ct, osl, e1, e2, e3, e4, e5⟩ := F.ex
  rcases e4 with ⟨_, e4⟩ | ⟨e4, _⟩
  · subst e4
    exact ⟨_, fd, He.glo_ok X G (c.fact 84 (f := .glo "_law_barred") rfl), ⟨⟨oc, od, kV, doc, pm, an, cdv, ct, osl, e1, e2, e3⟩, F.kp⟩, F.bindsN fun _ _ _ _ _ _ us hl => match us, hl with | [], _ => rfl⟩
  · exact absurd rfl e4
theorem df__law_orders_told (X : K.In h) (G : h.Ns mainGlobals mg) (c : He.SaysD faD fnD K) : Df K mg "_law_orders_told" s__law_orders_told [] := by
  obtain ⟨fd, F⟩ := c.def_ 85 (d := d__law_orders_told) rfl
  obtain ⟨oc, od, dV, kV, doc, pm, an, cdv, ct, osl, e1, e2, e3, e4, e5⟩ := F.ex
  rcases e4 with ⟨_, e4⟩ | ⟨e4, _⟩
  · subst e4
    exact ⟨_, fd, He.glo_ok X G (c.fact 85 (f := .glo "_law_orders_told") rfl), ⟨⟨oc, od, kV, doc, pm, an, cdv, ct, osl, e1, e2, e3⟩, F.kp⟩, F.bindsN fun _ _ _ _ _ _ us hl => match us, hl with | [], _ => rfl⟩
  · exact absurd rfl e4
theorem df__law_two_taken (X : K.In h) (G : h.Ns mainGlobals mg) (c : He.SaysD faD fnD K) : Df K mg "_law_two_taken" s__law_two_taken [] := by
  obtain ⟨fd, F⟩ := c.def_ 86 (d := d__law_two_taken) rfl
  obtain ⟨oc, od, dV, kV, doc, pm, an, cdv, ct, osl, e1, e2, e3, e4, e5⟩ := F.ex
  rcases e4 with ⟨_, e4⟩ | ⟨e4, _⟩
  · subst e4
    exact ⟨_, fd, He.glo_ok X G (c.fact 86 (f := .glo "_law_two_taken") rfl), ⟨⟨oc, od, kV, doc, pm, an, cdv, ct, osl, e1, e2, e3⟩, F.kp⟩, F.bindsN fun _ _ _ _ _ _ us hl => match us, hl with | [], _ => rfl⟩
  · exact absurd rfl e4
theorem df__law_first_told (X : K.In h) (G : h.Ns mainGlobals mg) (c : He.SaysD faD fnD K) : Df K mg "_law_first_told" s__law_first_told ["many"] := by
  obtain ⟨fd, F⟩ := c.def_ 87 (d := d__law_first_told) rfl
  obtain ⟨oc, od, dV, kV, doc, pm, an, cdv, ct, osl, e1, e2, e3, e4, e5⟩ := F.ex
  rcases e4 with ⟨_, e4⟩ | ⟨e4, _⟩
  · subst e4
    exact ⟨_, fd, He.glo_ok X G (c.fact 87 (f := .glo "_law_first_told") rfl), ⟨⟨oc, od, kV, doc, pm, an, cdv, ct, osl, e1, e2, e3⟩, F.kp⟩, F.bindsN fun _ _ _ _ _ _ us hl => match us, hl with | [_], _ => rfl⟩
  · exact absurd rfl e4
theorem blt_ok (X : K.In h) (G : h.Ns mainGlobals mg) (c : He.SaysD faD fnD K) : Blt2 mg :=
  { len_ := He.free_ok X G (c.fact 98 (f := .free "len") rfl), sum_ := He.free_ok X G (c.fact 99 (f := .free "sum") rfl), all_ := He.free_ok X G (c.fact 100 (f := .free "all") rfl), any_ := He.free_ok X G (c.fact 101 (f := .free "any") rfl), tuple_ := He.free_ok X G (c.fact 102 (f := .free "tuple") rfl), list_ := He.free_ok X G (c.fact 103 (f := .free "list") rfl), sorted_ := He.free_ok X G (c.fact 104 (f := .free "sorted") rfl), max_ := He.free_ok X G (c.fact 105 (f := .free "max") rfl), min_ := He.free_ok X G (c.fact 106 (f := .free "min") rfl), range_ := He.free_ok X G (c.fact 107 (f := .free "range") rfl), zip_ := He.free_ok X G (c.fact 108 (f := .free "zip") rfl), enumerate_ := He.free_ok X G (c.fact 109 (f := .free "enumerate") rfl), reversed_ := He.free_ok X G (c.fact 110 (f := .free "reversed") rfl), set_ := He.free_ok X G (c.fact 111 (f := .free "set") rfl), isinstance_ := He.free_ok X G (c.fact 112 (f := .free "isinstance") rfl), int_ := He.free_ok X G (c.fact 113 (f := .free "int") rfl), bool_ := He.free_ok X G (c.fact 114 (f := .free "bool") rfl), str_ := He.free_ok X G (c.fact 115 (f := .free "str") rfl), type_ := He.free_ok X G (c.fact 116 (f := .free "type") rfl) }
theorem all_ok (X : K.In h) (G : h.Ns mainGlobals mg) (c : He.SaysD faD fnD K) (ca : accB K = true) : ∃ (f : Addr) (fd : FuncData), mg "law" = some (.ref f) ∧ (∀ (s : Shared) (v : Value), BindsTo s fd ⟨[v], []⟩ [("script", v)]) ∧ ∀ base : Heap, FnOk P w K mg base CX0 20 f fd ["script"] (spF 1 F_law) := by
  have Z : Blt2 mg := blt_ok X G c
  have Y : ImpsP mg := ⟨⟨PySem.W.mg_of X G (He.eqO_ok (Bool.and_eq_true_iff.mp (Bool.and_eq_true_iff.mp ca).1).2)⟩, PySem.W.mg_of X G (He.eqO_ok (Bool.and_eq_true_iff.mp ca).2)⟩
  have g_BUSY : ∃ t, mg "BUSY" = some (.int (-1) t) := He.int_ok X G (c.fact 89 (f := .int "BUSY" (-1)) rfl)
  have g_NOBODY : ∃ t, mg "NOBODY" = some (.int (4) t) := He.int_ok X G (c.fact 90 (f := .int "NOBODY" (4)) rfl)
  have g_DESKS_AT_MOST : ∃ t, mg "DESKS_AT_MOST" = some (.int (3) t) := He.int_ok X G (c.fact 91 (f := .int "DESKS_AT_MOST" (3)) rfl)
  have g_RANKS_AT_MOST : ∃ t, mg "RANKS_AT_MOST" = some (.int (4) t) := He.int_ok X G (c.fact 92 (f := .int "RANKS_AT_MOST" (4)) rfl)
  have g_STAY_AT_MOST : ∃ t, mg "STAY_AT_MOST" = some (.int (10) t) := He.int_ok X G (c.fact 93 (f := .int "STAY_AT_MOST" (10)) rfl)
  have g_COME_AT_MOST : ∃ t, mg "COME_AT_MOST" = some (.int (5) t) := He.int_ok X G (c.fact 94 (f := .int "COME_AT_MOST" (5)) rfl)
  have g_TICKS_AT_MOST : ∃ t, mg "TICKS_AT_MOST" = some (.int (40) t) := He.int_ok X G (c.fact 95 (f := .int "TICKS_AT_MOST" (40)) rfl)
  have g_LOOK_AT_MOST : ∃ t, mg "LOOK_AT_MOST" = some (.int (99) t) := He.int_ok X G (c.fact 96 (f := .int "LOOK_AT_MOST" (99)) rfl)
  have g_LOOKS_AT_MOST : ∃ t, mg "LOOKS_AT_MOST" = some (.int (6) t) := He.int_ok X G (c.fact 97 (f := .int "LOOKS_AT_MOST" (6)) rfl)
  have h_is_whole := fun base : Heap => fn_is_whole (P := P) (w := w) (base := base) (df_is_whole X G c) Z Y
  have h_are_whole := fun base : Heap => fn_are_whole (P := P) (w := w) (base := base) (df_are_whole X G c) Z Y (h_is_whole base)
  have h_is_from_to := fun base : Heap => fn_is_from_to (P := P) (w := w) (base := base) (df_is_from_to X G c) Z Y (h_is_whole base)
  have h_is_tuple := fun base : Heap => fn_is_tuple (P := P) (w := w) (base := base) (df_is_tuple X G c) Z Y
  have h_are_rows := fun base : Heap => fn_are_rows (P := P) (w := w) (base := base) (df_are_rows X G c) Z Y (h_is_tuple base)
  have h_is_rising := fun base : Heap => fn_is_rising (P := P) (w := w) (base := base) (df_is_rising X G c) Z Y
  have h_is_column := fun base : Heap => fn_is_column (P := P) (w := w) (base := base) (df_is_column X G c) Z Y (h_is_whole base)
  have h_turns_of := fun base : Heap => fn_turns_of (P := P) (w := w) (base := base) (df_turns_of X G c) Z Y g_BUSY g_NOBODY
  have h_all_stays := fun base : Heap => fn_all_stays (P := P) (w := w) (base := base) (df_all_stays X G c) Z Y
  have h_all_turns := fun base : Heap => fn_all_turns (P := P) (w := w) (base := base) (df_all_turns X G c) Z Y (h_all_stays base) (h_turns_of base)
  have h_free_from := fun base : Heap => fn_free_from (P := P) (w := w) (base := base) (df_free_from X G c) Z Y
  have h__are_desks := fun base : Heap => fn__are_desks (P := P) (w := w) (base := base) (df__are_desks X G c) Z Y (h_is_tuple base) (h_is_whole base) g_DESKS_AT_MOST
  have h__are_ranks := fun base : Heap => fn__are_ranks (P := P) (w := w) (base := base) (df__are_ranks X G c) Z Y (h_is_tuple base) (h_are_whole base) g_RANKS_AT_MOST g_STAY_AT_MOST g_COME_AT_MOST
  have h_is_hall := fun base : Heap => fn_is_hall (P := P) (w := w) (base := base) (df_is_hall X G c) Z Y (h_is_tuple base) (h__are_desks base) (h__are_ranks base)
  have h_columns_of := fun base : Heap => fn_columns_of (P := P) (w := w) (base := base) (df_columns_of X G c) Z Y (h_are_rows base) (h_all_stays base) (h_is_column base) g_TICKS_AT_MOST
  have h_need_hall := fun base : Heap => fn_need_hall (P := P) (w := w) (base := base) (df_need_hall X G c) Z Y (h_is_hall base)
  have h_need_book := fun base : Heap => fn_need_book (P := P) (w := w) (base := base) (df_need_book X G c) Z Y (h_columns_of base)
  have h__is_look := fun base : Heap => fn__is_look (P := P) (w := w) (base := base) (df__is_look X G c) Z Y g_LOOK_AT_MOST
  have h__are_looks_of := fun base : Heap => fn__are_looks_of (P := P) (w := w) (base := base) (df__are_looks_of X G c) Z Y (h_is_tuple base) (h__is_look base) (h_are_whole base) (h_is_rising base) g_LOOKS_AT_MOST
  have h_need_looks := fun base : Heap => fn_need_looks (P := P) (w := w) (base := base) (df_need_looks X G c) Z Y (h__are_looks_of base)
  have h_need_written := fun base : Heap => fn_need_written (P := P) (w := w) (base := base) (df_need_written X G c) Z Y (h_need_hall base) (h_need_book base) (h_need_looks base)
  have h_need_rank := fun base : Heap => fn_need_rank (P := P) (w := w) (base := base) (df_need_rank X G c) Z Y (h_is_from_to base)
  have h_need_tick := fun base : Heap => fn_need_tick (P := P) (w := w) (base := base) (df_need_tick X G c) Z Y (h_is_from_to base)
  have h_taken_by := fun base : Heap => fn_taken_by (P := P) (w := w) (base := base) (df_taken_by X G c) Z Y
  have h_told_of := fun base : Heap => fn_told_of (P := P) (w := w) (base := base) (df_told_of X G c) Z Y g_NOBODY
  have h_told_with := fun base : Heap => fn_told_with (P := P) (w := w) (base := base) (df_told_with X G c) Z Y
  have h_ranks_behind := fun base : Heap => fn_ranks_behind (P := P) (w := w) (base := base) (df_ranks_behind X G c) Z Y
  have h_steps_up := fun base : Heap => fn_steps_up (P := P) (w := w) (base := base) (df_steps_up X G c) Z Y
  have h_is_barred := fun base : Heap => fn_is_barred (P := P) (w := w) (base := base) (df_is_barred X G c) Z Y
  have h_steps_down := fun base : Heap => fn_steps_down (P := P) (w := w) (base := base) (df_steps_down X G c) Z Y
  have h_rank_up := fun base : Heap => fn_rank_up (P := P) (w := w) (base := base) (df_rank_up X G c) Z Y (h_told_of base) (h_ranks_behind base) (h_steps_up base) (h_told_with base)
  have h_all_up := fun base : Heap => fn_all_up (P := P) (w := w) (base := base) (df_all_up X G c) Z Y (h_all_turns base) (h_rank_up base) (h_is_barred base)
  have h_all_steps := fun base : Heap => fn_all_steps (P := P) (w := w) (base := base) (df_all_steps X G c) Z Y (h_all_up base) (h_steps_down base)
  have h_steps_of := fun base : Heap => fn_steps_of (P := P) (w := w) (base := base) (df_steps_of X G c) Z Y (h_all_up base) (h_steps_down base)
  have h_stairs := fun base : Heap => fn_stairs (P := P) (w := w) (base := base) (df_stairs X G c) Z Y (h_need_written base) (h_need_rank base) (h_steps_of base)
  have h_can_be := fun base : Heap => fn_can_be (P := P) (w := w) (base := base) (df_can_be X G c) Z Y (h_need_written base) (h_all_up base)
  have h_first_bar := fun base : Heap => fn_first_bar (P := P) (w := w) (base := base) (df_first_bar X G c) Z Y (h_need_hall base) (h_all_turns base) (h_need_book base) (h_rank_up base) (h_is_barred base)
  have h__first_bar_of := fun base : Heap => fn__first_bar_of (P := P) (w := w) (base := base) (df__first_bar_of X G c) Z Y (h_told_with base) (h_told_of base) (h_ranks_behind base)
  have h_bar := fun base : Heap => fn_bar (P := P) (w := w) (base := base) (df_bar X G c) Z Y (h_all_turns base) (h_need_written base) (h_is_barred base) (h_rank_up base) (h__first_bar_of base)
  have h__taken_ahead := fun base : Heap => fn__taken_ahead (P := P) (w := w) (base := base) (df__taken_ahead X G c) Z Y
  have h__least_by := fun base : Heap => fn__least_by (P := P) (w := w) (base := base) (df__least_by X G c) Z Y (h__taken_ahead base)
  have h__passed_by := fun base : Heap => fn__passed_by (P := P) (w := w) (base := base) (df__passed_by X G c) Z Y (h__taken_ahead base) (h_free_from base) (h_all_stays base)
  have h__most_by := fun base : Heap => fn__most_by (P := P) (w := w) (base := base) (df__most_by X G c) Z Y (h__taken_ahead base) (h__passed_by base)
  have h_is_bar := fun base : Heap => fn_is_bar (P := P) (w := w) (base := base) (df_is_bar X G c) Z Y (h_need_written base) (h_are_whole base) (h_is_tuple base) (h__least_by base) (h__taken_ahead base) (h__most_by base)
  have h_need_comer := fun base : Heap => fn_need_comer (P := P) (w := w) (base := base) (df_need_comer X G c) Z Y (h_is_whole base)
  have h_first_tick := fun base : Heap => fn_first_tick (P := P) (w := w) (base := base) (df_first_tick X G c) Z Y
  have h_came := fun base : Heap => fn_came (P := P) (w := w) (base := base) (df_came X G c) Z Y (h_need_written base) (h_need_rank base) (h_need_comer base) (h_steps_of base) (h_first_tick base)
  have h_taken := fun base : Heap => fn_taken (P := P) (w := w) (base := base) (df_taken X G c) Z Y (h_need_hall base) (h_need_book base) (h_need_rank base) (h_need_comer base) (h_first_tick base) (h_taken_by base)
  have h_waits := fun base : Heap => fn_waits (P := P) (w := w) (base := base) (df_waits X G c) Z Y (h_need_written base) (h_need_rank base) (h_steps_of base) (h_taken_by base)
  have h__left := fun base : Heap => fn__left (P := P) (w := w) (base := base) (df__left X G c) Z Y (h_taken_by base)
  have h_waiting := fun base : Heap => fn_waiting (P := P) (w := w) (base := base) (df_waiting X G c) Z Y (h_need_written base) (h_need_rank base) (h_need_tick base) (h_steps_of base) (h__left base)
  have h_because := fun base : Heap => fn_because (P := P) (w := w) (base := base) (df_because X G c) Z Y (h_need_written base) (h_need_rank base) (h_steps_of base) (h__left base)
  have h__need_alike := fun base : Heap => fn__need_alike (P := P) (w := w) (base := base) (df__need_alike X G c) Z Y (h_all_stays base)
  have h__taken_first := fun base : Heap => fn__taken_first (P := P) (w := w) (base := base) (df__taken_first X G c) Z Y
  have h_first_taken := fun base : Heap => fn_first_taken (P := P) (w := w) (base := base) (df_first_taken X G c) Z Y (h_need_written base) (h_need_rank base) (h_need_comer base) (h__need_alike base) (h_steps_of base) (h_all_turns base) (h_first_tick base) (h__taken_first base) g_BUSY
  have h__with_first := fun base : Heap => fn__with_first (P := P) (w := w) (base := base) (df__with_first X G c) Z Y (h_is_column base) (h_all_stays base) (h_turns_of base)
  have h__up_from := fun base : Heap => fn__up_from (P := P) (w := w) (base := base) (df__up_from X G c) Z Y (h_steps_up base) (h_told_of base) (h_ranks_behind base)
  have h__does := fun base : Heap => fn__does (P := P) (w := w) (base := base) (df__does X G c) Z Y (h__with_first base) (h_is_barred base) (h__up_from base) g_BUSY
  have h_mends := fun base : Heap => fn_mends (P := P) (w := w) (base := base) (df_mends X G c) Z Y (h_need_hall base) (h_all_turns base) (h_need_book base) (h_rank_up base) (h__does base)
  have h__can_stay := fun base : Heap => fn__can_stay (P := P) (w := w) (base := base) (df__can_stay X G c) Z Y (h_columns_of base) (h_all_up base)
  have h_stays := fun base : Heap => fn_stays (P := P) (w := w) (base := base) (df_stays X G c) Z Y (h_need_hall base) (h_need_book base) (h_need_rank base) (h__can_stay base) g_STAY_AT_MOST
  have h_ways_within := fun base : Heap => fn_ways_within (P := P) (w := w) (base := base) (df_ways_within X G c) Z Y
  have h_ways_to := fun base : Heap => fn_ways_to (P := P) (w := w) (base := base) (df_ways_to X G c) Z Y (h_ways_within base)
  have h_ways_on := fun base : Heap => fn_ways_on (P := P) (w := w) (base := base) (df_ways_on X G c) Z Y (h_ways_within base)
  have h_all_ways := fun base : Heap => fn_all_ways (P := P) (w := w) (base := base) (df_all_ways X G c) Z Y (h_ways_to base)
  have h_all_comings := fun base : Heap => fn_all_comings (P := P) (w := w) (base := base) (df_all_comings X G c) Z Y (h_all_ways base)
  have h__waiting_next := fun base : Heap => fn__waiting_next (P := P) (w := w) (base := base) (df__waiting_next X G c) Z Y (h_ways_to base) (h_ways_within base) (h_taken_by base)
  have h__with_turn := fun base : Heap => fn__with_turn (P := P) (w := w) (base := base) (df__with_turn X G c) Z Y
  have h__rows_next := fun base : Heap => fn__rows_next (P := P) (w := w) (base := base) (df__rows_next X G c) Z Y (h_all_stays base) (h_free_from base) (h__with_turn base)
  have h_nexts := fun base : Heap => fn_nexts (P := P) (w := w) (base := base) (df_nexts X G c) Z Y (h_need_written base) (h_all_steps base) (h__waiting_next base) (h__rows_next base)
  have h__worst_answers := fun base : Heap => fn__worst_answers (P := P) (w := w) (base := base) (df__worst_answers X G c) Z Y (h_ways_to base) (h_ways_on base)
  have h_best_look := fun base : Heap => fn_best_look (P := P) (w := w) (base := base) (df_best_look X G c) Z Y (h_need_written base) (h_all_steps base) (h__worst_answers base)
  have h__orders_with := fun base : Heap => fn__orders_with (P := P) (w := w) (base := base) (df__orders_with X G c) Z Y
  have h__up := fun base : Heap => fn__up (P := P) (w := w) (base := base) (df__up X G c) Z Y (h_steps_up base) (h_told_of base)
  have h__pairs := fun base : Heap => fn__pairs (P := P) (w := w) (base := base) (df__pairs X G c) Z Y (h_is_barred base) (h__up base)
  have h__ways_of := fun base : Heap => fn__ways_of (P := P) (w := w) (base := base) (df__ways_of X G c) Z Y (h_all_ways base) (h_steps_down base) (h__up base)
  have h_orders := fun base : Heap => fn_orders (P := P) (w := w) (base := base) (df_orders X G c) Z Y (h_need_hall base) (h_all_turns base) (h_need_book base) (h__orders_with base) (h__pairs base) (h__ways_of base)
  have h_must_be_ahead := fun base : Heap => fn_must_be_ahead (P := P) (w := w) (base := base) (df_must_be_ahead X G c) Z Y (h_need_hall base) (h_all_turns base) (h_need_book base) (h__pairs base) (h__orders_with base)
  have h_how_many := fun base : Heap => fn_how_many (P := P) (w := w) (base := base) (df_how_many X G c) Z Y (h_need_written base) (h_all_steps base) (h_all_comings base)
  have h_how_many_of := fun base : Heap => fn_how_many_of (P := P) (w := w) (base := base) (df_how_many_of X G c) Z Y (h_need_written base) (h_need_rank base) (h_steps_of base) (h_all_ways base)
  have h__law_well := fun base : Heap => fn__law_well (P := P) (w := w) (base := base) (df__law_well X G c) Z Y
  have h__law_take := fun base : Heap => fn__law_take (P := P) (w := w) (base := base) (df__law_take X G c) Z Y
  have h__law_bags := fun base : Heap => fn__law_bags (P := P) (w := w) (base := base) (df__law_bags X G c) Z Y (h__law_well base)
  have h__law_one_desk := fun base : Heap => fn__law_one_desk (P := P) (w := w) (base := base) (df__law_one_desk X G c) Z Y (h_stairs base) (h_how_many_of base) (h_how_many base) (h_taken base) (h_came base) (h_because base) (h_waits base) (h_waiting base)
  have h__law_barred := fun base : Heap => fn__law_barred (P := P) (w := w) (base := base) (df__law_barred X G c) Z Y (h_bar base) (h_first_bar base) (h_can_be base) (h_is_bar base) (h_mends base) (h_orders base) (h_best_look base) (h_nexts base)
  have h__law_orders_told := fun base : Heap => fn__law_orders_told (P := P) (w := w) (base := base) (df__law_orders_told X G c) Z Y (h_must_be_ahead base) (h_orders base) (h_stays base)
  have h__law_two_taken := fun base : Heap => fn__law_two_taken (P := P) (w := w) (base := base) (df__law_two_taken X G c) Z Y (h_because base) (h_waits base) (h_waiting base)
  have h__law_first_told := fun base : Heap => fn__law_first_told (P := P) (w := w) (base := base) (df__law_first_told X G c) Z Y (h_first_taken base) (h_waits base) (h_nexts base) (h_how_many base)
  obtain ⟨fd, F⟩ := c.def_ 88 (d := d_law) rfl
  have hb := FunD.bindsA (ps := ["script"]) F fun _ _ _ _ _ _ us hl => match us, hl with | [_], _ => rfl
  obtain ⟨oc, od, dV, kV, doc, pm, an, cdv, ct, osl, e1, e2, e3, e4, e5⟩ := F.ex
  rcases e4 with ⟨_, e4⟩ | ⟨e4, _⟩
  · subst e4
    exact ⟨_, fd, He.glo_ok X G (c.fact 88 (f := .glo "law") rfl), fun s v => hb s [v] rfl, fun base => (fn_law (P := P) (w := w) ⟨⟨oc, od, kV, doc, pm, an, cdv, ct, osl, e1, e2, e3⟩, F.kp⟩ Z Y h__law_bags h__law_first_told h__law_take h_how_many h_best_look h_nexts h__law_two_taken h__law_orders_told h__law_barred h__law_one_desk base).mono (by decide)⟩
  · exact absurd rfl e4
end
end Dn
set_option maxHeartbeats 1000000
namespace Dn
open PySem PySem.Spec PyProof.Rows L2
theorem atI_0 {α : Type} (x : α) (xs : List α) : atI (x :: xs) 0 = some x := by
  have := atI_nat (xs := x :: xs) (j := 0) (v := x) rfl
  simpa using this
theorem atI_1 {α : Type} (x y : α) (xs : List α) : atI (x :: y :: xs) 1 = some y := by
  have := atI_nat (xs := x :: y :: xs) (j := 1) (v := y) rfl
  simpa using this
theorem atI_2 {α : Type} (x y z : α) (xs : List α) : atI (x :: y :: z :: xs) 2 = some z := by
  have := atI_nat (xs := x :: y :: z :: xs) (j := 2) (v := z) rfl
  simpa using this
theorem mBin_ev {g : D → D → Option D} {m n : Mo D} {env e1 e2 : DEnv} {x y z : D} (h1 : m env = some (x, e1)) (h2 : n e1 = some (y, e2)) (h3 : g x y = some z) : mBin g m n env = some (z, e2) := by
  simp [mBin, mBind, mLift, h1, h2, h3]
theorem mMap_ev {α β : Type} {g : α → Option β} {m : Mo α} {env e1 : DEnv} {x : α} {z : β} (h1 : m env = some (x, e1)) (h3 : g x = some z) : mMap g m env = some (z, e1) := by
  simp [mMap, mBind, mLift, h1, h3]
theorem mIf_ev {α : Type} {c : Mo Bool} {m n : Mo α} {env e1 : DEnv} {k : Bool} (h1 : c env = some (k, e1)) : mIf c m n env = if k = true then m e1 else n e1 := by
  unfold mIf mBind
  rw [h1]
  cases k <;> rfl
theorem sSeq_nx {F F' : So} {env e1 : DEnv} (h : F env = some (.nx e1)) : sSeq F F' env = F' e1 := by simp [sSeq, h]
theorem sSet_ev {i : Nat} {m : Mo D} {env e1 : DEnv} {d : D} (h : m env = some (d, e1)) : sSet i m env = some (.nx (e1.set i (some (SV.fz d)))) := by simp [sSet, h]
theorem sRet_ev {m : Mo D} {env e1 : DEnv} {d : D} (h : m env = some (d, e1)) : sRet m env = some (.rt d e1) := by simp [sRet, h]
theorem mLend_ev {m : Mo D} {env e1 : DEnv} {d : D} (h : m (lendE env) = some (d, e1)) (f : flatD d = true) : mLend m env = some (d, env) := by simp [mLend, h, f]
theorem mLendT_ev {m : Mo Bool} {env e1 : DEnv} {d : Bool} (h : m (lendE env) = some (d, e1)) : mLendT m env = some (d, env) := by simp [mLendT, h]
theorem mCons_ev {α : Type} {m : Mo α} {n : Mo (List α)} {env e1 e2 : DEnv} {x : α} {xs : List α} (h1 : m env = some (x, e1)) (h2 : n e1 = some (xs, e2)) : mCons m n env = some (x :: xs, e2) := by
  simp [mCons, mBind, mRet, h1, h2]
theorem sApp_ev {i : Nat} {m : Mo D} {env e1 : DEnv} {io : Bool} {ds : List D} {d : D} (h0 : ∃ p, ownAt env i = some p) (h : m env = some (d, e1)) (h1 : ownAt e1 i = some (io, ds)) (hl : ds.length < 100000) : sApp i m env = some (.nx (e1.set i (some (.ow io 0 (.list (ds ++ [d])))))) := by
  obtain ⟨p, h0⟩ := h0
  simp [sApp, h0, h, h1, hl]
theorem mLc_ev {items : Mo (List D)} {tgt : D → DEnv → Option DEnv} {test : Mo Bool} {elt : Mo D} {vs : List Nat} {env e1 e2 : DEnv} {ds ys : List D} (h1 : items env = some (ds, e1)) (h2 : ds.length ≤ 100000) (h3 : okW e1 vs = true) (h4 : lcGo tgt test elt vs ds (wipeD e1 vs) = some (ys, e2)) :
    mLc items tgt test elt vs env = some (ys, restD e1 e2 vs) := by
  unfold mLc
  rw [h1]
  simp only [decide_eq_true h2, h3, Bool.and_self, if_pos, h4]
theorem sFor_ev {items : Mo (List D)} {tgt : D → DEnv → Option DEnv} {body : So} {env e1 : DEnv} {ds : List D} (h1 : items env = some (ds, e1)) : sFor items tgt body env = forGo tgt body ds e1 := by
  unfold sFor
  rw [h1]
end Dn
set_option maxHeartbeats 1000000
namespace Dn
open PySem PySem.Spec PyProof.Rows L2
/-- a bag of draws, of which so many were taken at most -/
def Bag (n : Nat) (d : D) : Prop := ∃ a b c : Int, d = .list [.int a, .int b, .int c] ∧ 0 ≤ b ∧ b < 2305843009213693951 ∧ 0 ≤ c ∧ c ≤ n
theorem Bag.mono {m n : Nat} {d : D} (h : Bag m d) (k : m ≤ n) : Bag n d := by
  obtain ⟨a, b, c, e, h1, h2, h3, h4⟩ := h
  exact ⟨a, b, c, e, h1, h2, h3, by omega⟩
theorem ix3_0 : ixN 3 0 = some 0 := by decide
theorem ix3_2 : ixN 3 2 = some 2 := by decide
theorem small_nat {m : Int} (h0 : 0 < m) (h1 : m < 1000000) : m.natAbs < 2 ^ 4000 := by
  have e : (2 : Nat) ^ 4000 = 2 ^ 20 * 2 ^ 3980 := by rw [← Nat.pow_add]
  have e2 : m.natAbs < 2 ^ 20 := by omega
  exact Nat.lt_of_lt_of_le e2 (Nat.pow_le_pow_right (by decide) (by decide))
theorem take_ok {n : Nat} {d : D} (h : Bag n d) (hn : n < 1000000) {m : Int} (h0 : 0 < m) (h2 : m.natAbs < 2 ^ 4000) : ∃ (v : Int) (d' : D), F__law_take [d, .int m] = some (.int v, [d']) ∧ 0 ≤ v ∧ v < m ∧ Bag (n + 1) d' := by
  obtain ⟨a, b, c, rfl, hb0, hb1, hc0, hc1⟩ := h
  by_cases ha : 0 < a
  · refine ⟨a % m, .list [.int (a / m), .int b, .int c], ?_, Int.emod_nonneg _ (by omega), Int.emod_lt_of_pos _ h0, ⟨_, _, _, rfl, hb0, hb1, hc0, by omega⟩⟩
    simp [F__law_take, B__law_take, sNil, envIO, argEnv, sSeq, sIf, mLendT, mLend, mMap, mBin, mBind, mLift, mRet, mVar, lendE, lendSV, gIx, atI_0, atI_1, atI_2, gGt, gCmp, gB, ha, sSet, sPut, sRet, gMod, gDivB, gInt, flatD, outIO, outsOf, h0, h2, ownAt, ix3_0, ix3_2]
  · have p0 : (0 : Int) < 2305843009213693951 := by decide
    have q1 : c.natAbs < 2 ^ 64 := by have : (2 : Nat) ^ 64 = 18446744073709551616 := by decide
                                      omega
    have q2 : (c + 1).natAbs < 2 ^ 64 := by have : (2 : Nat) ^ 64 = 18446744073709551616 := by decide
                                            omega
    obtain ⟨N1, hN1⟩ : ∃ N1 : Int, N1 = (b + 1000003 * (c + 1)) % 2305843009213693951 := ⟨_, rfl⟩
    have n10 : 0 ≤ N1 := by rw [hN1]; exact Int.emod_nonneg _ (by decide)
    have n11 : N1 < 2305843009213693951 := by rw [hN1]; exact Int.emod_lt_of_pos _ (by decide)
    obtain ⟨N2, hN2⟩ : ∃ N2 : Int, N2 = (N1 * N1 + 7919 * (c + 1) ^ 2 + 5) % 2305843009213693951 := ⟨_, rfl⟩
    have n20 : 0 ≤ N2 := by rw [hN2]; exact Int.emod_nonneg _ (by decide)
    have n21 : N2 < 2305843009213693951 := by rw [hN2]; exact Int.emod_lt_of_pos _ (by decide)
    have big : ∀ x : Int, 0 ≤ x → x < 2305843009213693951 * 2305843009213693951 → x.natAbs < 2 ^ 4000 := fun x hx hy => by
      have e : (2 : Nat) ^ 4000 = 2 ^ 122 * 2 ^ 3878 := by rw [← Nat.pow_add]
      have e2 : x.natAbs < 2 ^ 122 := by
        have : (2 : Nat) ^ 122 = 5316911983139663491615228241121378304 := by decide
        omega
      exact Nat.lt_of_lt_of_le e2 (Nat.pow_le_pow_right (by decide) (by decide))
    have r1 : ((1000003 : Int)).natAbs < 2 ^ 4000 := big _ (by decide) (by decide)
    have r2 : (c + 1).natAbs < 2 ^ 4000 := big _ (by omega) (by omega)
    have r3 : N1.natAbs < 2 ^ 4000 := big _ n10 (by omega)
    have r4 : ((7919 : Int)).natAbs < 2 ^ 4000 := big _ (by decide) (by decide)
    have c2 : (c + 1) ^ 2 < 10000000000000 := by
      have h : c + 1 ≤ 1000000 := by omega
      have : (c + 1) ^ 2 = (c + 1) * (c + 1) := by rw [Int.pow_succ, Int.pow_succ, Int.pow_zero, Int.one_mul]
      rw [this]
      exact Int.lt_of_le_of_lt (Int.mul_le_mul h h (by omega) (by decide)) (by decide)
    have c2' : 0 ≤ (c + 1) ^ 2 := Int.pow_nonneg (by omega)
    have r5 : ((c + 1) ^ 2).natAbs < 2 ^ 4000 := big _ c2' (by omega)
    have r6 : N2.natAbs < 2 ^ 64 := by
      have : (2 : Nat) ^ 64 = 18446744073709551616 := by decide
      omega
    refine ⟨N2 ^ 3 % 2305843009213693951 / 13 % m, .list [.int a, .int b, .int (c + 1)], ?_, Int.emod_nonneg _ (by omega), Int.emod_lt_of_pos _ h0, ⟨_, _, _, rfl, hb0, hb1, by omega, by omega⟩⟩
    have ha' : ¬ 0 < a := ha
    have g1 : gMulB (.int 1000003) (.int (c + 1)) = some (.int (1000003 * (c + 1))) := by simp only [gMulB, gInt, if_pos (And.intro r1 r2), Option.map_some]
    have g2 : gMulB (.int N1) (.int N1) = some (.int (N1 * N1)) := by simp only [gMulB, gInt, if_pos (And.intro r3 r3), Option.map_some]
    have g3 : gMulB (.int 7919) (.int ((c + 1) ^ 2)) = some (.int (7919 * (c + 1) ^ 2)) := by simp only [gMulB, gInt, if_pos (And.intro r4 r5), Option.map_some]
    have g4 : gPow (.int (c + 1)) (.int 2) = some (.int ((c + 1) ^ 2)) := by
      simp only [gPow, gInt]
      rw [if_pos ⟨by decide, by decide, q2⟩]
      rfl
    have g5 : gPow (.int N2) (.int 3) = some (.int (N2 ^ 3)) := by
      simp only [gPow, gInt]
      rw [if_pos ⟨by decide, by decide, r6⟩]
      rfl
    have gd : ∀ x : Int, gDivB (.int x) (.int 13) = some (.int (x / 13)) := fun x => by
      simp only [gDivB, gInt]
      rw [if_pos ⟨by decide, big 13 (by decide) (by decide)⟩]
      rfl
    simp [F__law_take, B__law_take, sNil, envIO, argEnv, sSeq, sIf, mLendT, mLend, mMap, mBin, mBind, mLift, mRet, mVar, lendE, lendSV, gIx, atI_0, atI_1, atI_2, gGt, gCmp, gB, ha', sSet, sPut, sRet, gMod, gd, gAdd, gInt, flatD, outIO, outsOf, h0, h2, ownAt, ix3_0, ix3_2, g1, g2, g3, g4, g5, ← hN1, ← hN2, p0]
end Dn
set_option maxHeartbeats 1000000
namespace Dn
open PySem PySem.Spec PyProof.Rows L2
/-- .. that keeps all -/
theorem lcGo_all {tgt : D → DEnv → Option DEnv} {test : Mo Bool} {elt : Mo D} {vs : List Nat} (I : Nat → DEnv → Prop) (R : D → D → Prop) : ∀ (ds : List D) (n : Nat) (e : DEnv), I n e →
    (∀ m d e, d ∈ ds → m < n + ds.length → I m e → ∃ e1 e2 y e3, tgt d e = some e1 ∧ test e1 = some (true, e2) ∧ elt e2 = some (y, e3) ∧ R d y ∧ I (m + 1) (wipeD e3 vs)) →
    ∃ ys e', lcGo tgt test elt vs ds e = some (ys, e') ∧ I (n + ds.length) e' ∧ Paired R ds ys
  | [], n, e, h, _ => ⟨[], e, rfl, h, .nil⟩
  | d :: ds, n, e, h, hs => by
    obtain ⟨e1, e2, y, e3, h1, h2, h3, h4, h5⟩ := hs n d e (by simp) (by simp) h
    obtain ⟨ys, e', k1, k2, k3⟩ := lcGo_all I R ds (n + 1) _ h5 fun m d e hd hm => hs m d e (by simp [hd]) (by rw [List.length_cons]; omega)
    exact ⟨y :: ys, e', by simp [lcGo, h1, h2, h3, k1], by rw [List.length_cons, show n + (ds.length + 1) = n + 1 + ds.length by omega]; exact k2, .cons h4 k3⟩
abbrev encI (d : List Int) : List D := d.map PyData.int
end Dn
set_option maxHeartbeats 1000000
namespace Dn
open PySem PySem.Spec PyProof.Rows L2
theorem gAdd_int (i j : Int) : gAdd (.int i) (.int j) = some (.int (i + j)) := rfl
end Dn
set_option maxHeartbeats 1000000
namespace Dn
open PySem PySem.Spec PyProof.Rows L2
/-- a row of comings of the hall -/
def RowOk (rs : List (Int × Int)) (row : List Int) : Prop := row.length = rs.length ∧ ∀ (j : Nat) (c : Int) (p : Int × Int), row[j]? = some c → rs[j]? = some p → 0 ≤ c ∧ c ≤ p.1
theorem RowOk.take {rs : List (Int × Int)} {row : List Int} {k : Nat} {c : Int} {p : Int × Int} (h : row.length = k ∧ ∀ (j : Nat) (c : Int) (p : Int × Int), row[j]? = some c → rs[j]? = some p → 0 ≤ c ∧ c ≤ p.1) (hp : rs[k]? = some p) (h0 : 0 ≤ c) (h1 : c ≤ p.1) :
    (row ++ [c]).length = k + 1 ∧ ∀ (j : Nat) (c' : Int) (p : Int × Int), (row ++ [c])[j]? = some c' → rs[j]? = some p → 0 ≤ c' ∧ c' ≤ p.1 := by
  refine ⟨by rw [List.length_append, h.1]; rfl, fun j c' q hj hq => ?_⟩
  by_cases hjk : j < row.length
  · rw [List.getElem?_append_left hjk] at hj
    exact h.2 j c' q hj hq
  · have hj2 : j < row.length + 1 := by have := (List.getElem?_eq_some_iff.mp hj).1; simpa using this
    have : j = k := by omega
    subst this
    rw [List.getElem?_append_right (by omega), h.1, Nat.sub_self] at hj
    cases hj
    rw [hp] at hq
    cases hq
    exact ⟨h0, h1⟩
theorem encI_app (l : List Int) (x : Int) : encI (l ++ [x]) = encI l ++ [.int x] := by simp [encI]
end Dn
set_option maxHeartbeats 1000000
namespace Dn
open PySem PySem.Spec PyProof.Rows L2
def canTake (desk : List Int) (W : List (List Int)) (r : Nat) : Bool := desk.contains (r : Int) && !(W.getD r []).isEmpty
end Dn
set_option maxHeartbeats 1000000
namespace Dn
open PySem PySem.Spec PyProof.Rows L2
end Dn
set_option maxHeartbeats 1000000
namespace Dn
open PySem PySem.Spec PyProof.Rows L2
/-- the ranks ahead of the k-th with who came -/
def arrK (tick : Int) (row : List Int) (W : List (List Int)) (k : Nat) : List (List Int) := W.mapIdx fun r w => if r < k then w ++ List.replicate (row.getD r 0).toNat tick else w
theorem arrK_len (tick : Int) (row : List Int) (W : List (List Int)) (k : Nat) : (arrK tick row W k).length = W.length := by simp [arrK]
theorem arrK_get {tick : Int} {row : List Int} {W : List (List Int)} {k r : Nat} {w : List Int} (h : W[r]? = some w) : (arrK tick row W k)[r]? = some (if r < k then w ++ List.replicate (row.getD r 0).toNat tick else w) := by
  simp [arrK, h]
end Dn
set_option maxHeartbeats 1000000
namespace Dn
open PySem PySem.Spec PyProof.Rows L2
/-- whom the desk takes -/
def whom (n : Nat) (tick : Int) (desk : List Int) (W : List (List Int)) (a : Int) : Option Nat := if a ≤ tick then (List.range n).find? (canTake desk W) else none
/-- the run's state at a desk -/
structure DS where
  W : List (List Int)
  A : List Int
  T : List (List Int)
  tk : List (Option Nat)
def DS.step (rs : List (Int × Int)) (n : Nat) (tick : Int) (at' : Nat) (desk : List Int) (s : DS) : DS :=
  match whom n tick desk s.W (s.A.getD at' 0) with
  | none => { s with tk := s.tk ++ [none] }
  | some r => ⟨s.W.set r (s.W.getD r []).tail, s.A.set at' (tick + (rs.getD r (0, 0)).2), s.T.set r (s.T.getD r [] ++ [tick - (s.W.getD r []).headD 0]), s.tk ++ [some r]⟩
end Dn
set_option maxHeartbeats 1000000
namespace Dn
open PySem PySem.Spec PyProof.Rows L2
end Dn
set_option maxHeartbeats 1000000
namespace Dn
open PySem PySem.Spec PyProof.Rows L2
/-- the turns of the first k desks -/
def DS.steps (rs : List (Int × Int)) (n : Nat) (tick : Int) (desks : List (List Int)) (s : DS) : Nat → DS
  | 0 => s
  | k + 1 => (DS.steps rs n tick desks s k).step rs n tick k (desks.getD k [])
theorem step_len (rs : List (Int × Int)) (n : Nat) (tick : Int) (k : Nat) (desk : List Int) (s : DS) : (s.step rs n tick k desk).W.length = s.W.length ∧ (s.step rs n tick k desk).A.length = s.A.length ∧ (s.step rs n tick k desk).T.length = s.T.length ∧ (s.step rs n tick k desk).tk.length = s.tk.length + 1 := by
  unfold DS.step
  split <;> simp
theorem steps_len (rs : List (Int × Int)) (n : Nat) (tick : Int) (desks : List (List Int)) (s : DS) : ∀ k, (s.steps rs n tick desks k).W.length = s.W.length ∧ (s.steps rs n tick desks k).A.length = s.A.length ∧ (s.steps rs n tick desks k).T.length = s.T.length ∧ (s.steps rs n tick desks k).tk.length = s.tk.length + k
  | 0 => ⟨rfl, rfl, rfl, rfl⟩
  | k + 1 => by
    obtain ⟨h1, h2, h3, h4⟩ := steps_len rs n tick desks s k
    obtain ⟨k1, k2, k3, k4⟩ := step_len rs n tick k (desks.getD k []) (s.steps rs n tick desks k)
    exact ⟨k1.trans h1, k2.trans h2, k3.trans h3, by show (DS.step _ _ _ _ _ _).tk.length = _; rw [k4, h4]; omega⟩
theorem step_T {rs : List (Int × Int)} {n : Nat} {tick : Int} {k : Nat} {desk : List Int} {s : DS} {b : Nat} (h : ∀ t ∈ s.T, t.length ≤ b) : ∀ t ∈ (s.step rs n tick k desk).T, t.length ≤ b + 1 := by
  unfold DS.step
  split
  · exact fun t ht => Nat.le_succ_of_le (h t ht)
  · rename_i r _
    intro t ht
    rcases List.mem_or_eq_of_mem_set ht with h1 | h1
    · exact Nat.le_succ_of_le (h t h1)
    · subst h1
      rw [List.length_append]
      have : (s.T.getD r []).length ≤ b := by
        rw [List.getD_eq_getElem?_getD]
        cases hq : s.T[r]? with
        | none => exact Nat.zero_le _
        | some u => exact h u (List.mem_of_getElem? hq)
      simpa using this
theorem steps_T {rs : List (Int × Int)} {n : Nat} {tick : Int} {desks : List (List Int)} {s : DS} {b : Nat} (h : ∀ t ∈ s.T, t.length ≤ b) : ∀ k, ∀ t ∈ (s.steps rs n tick desks k).T, t.length ≤ b + k
  | 0 => h
  | k + 1 => fun t ht => step_T (steps_T h k) t ht
end Dn
set_option maxHeartbeats 1000000
namespace Dn
open PySem PySem.Spec PyProof.Rows L2
structure RnS where
  W : List (List Int)
  A : List Int
  T : List (List Int)
  B : List (List (Option Nat))
  L : List (List (List Int))
/-- the desks' turns at a tick -/
def RnS.desk (rs : List (Int × Int)) (n : Nat) (desks : List (List Int)) (tick : Int) (row : List Int) (s : RnS) : DS := DS.steps rs n tick desks ⟨arrK tick row s.W row.length, s.A, s.T, []⟩ desks.length
def RnS.tick (rs : List (Int × Int)) (n : Nat) (desks : List (List Int)) (tick : Int) (row : List Int) (s : RnS) : RnS :=
  ⟨(s.desk rs n desks tick row).W, (s.desk rs n desks tick row).A, (s.desk rs n desks tick row).T, s.B ++ [(s.desk rs n desks tick row).tk], s.L ++ [(s.desk rs n desks tick row).W]⟩
end Dn
set_option maxHeartbeats 1000000
namespace Dn
open PySem PySem.Spec PyProof.Rows L2
def RnS.runK (rs : List (Int × Int)) (n : Nat) (desks : List (List Int)) (coms : List (List Int)) (s : RnS) : Nat → RnS
  | 0 => s
  | k + 1 => (RnS.runK rs n desks coms s k).tick rs n desks k (coms.getD k [])
theorem step_W {rs : List (Int × Int)} {n : Nat} {tick : Int} {k : Nat} {desk : List Int} {s : DS} {b : Nat} (h : ∀ t ∈ s.W, t.length ≤ b) : ∀ t ∈ (s.step rs n tick k desk).W, t.length ≤ b := by
  unfold DS.step
  split
  · exact h
  · rename_i r _
    intro t ht
    rcases List.mem_or_eq_of_mem_set ht with h1 | h1
    · exact h t h1
    · subst h1
      rw [List.length_tail]
      have : (s.W.getD r []).length ≤ b := by
        rw [List.getD_eq_getElem?_getD]
        cases hq : s.W[r]? with
        | none => exact Nat.zero_le _
        | some u => exact h u (List.mem_of_getElem? hq)
      omega
theorem steps_W {rs : List (Int × Int)} {n : Nat} {tick : Int} {desks : List (List Int)} {s : DS} {b : Nat} (h : ∀ t ∈ s.W, t.length ≤ b) : ∀ k, ∀ t ∈ (s.steps rs n tick desks k).W, t.length ≤ b
  | 0 => h
  | k + 1 => step_W (steps_W h k)
theorem arrK_W {tick : Int} {row : List Int} {W : List (List Int)} {k b : Nat} (hw : ∀ w ∈ W, w.length ≤ b) (hc : ∀ c ∈ row, 0 ≤ c ∧ c ≤ 1000) : ∀ w ∈ arrK tick row W k, w.length ≤ b + 1000 := by
  intro w h
  obtain ⟨j, hj⟩ := List.mem_iff_getElem?.mp h
  have hjl : j < W.length := by rw [← arrK_len tick row W k]; exact (List.getElem?_eq_some_iff.mp hj).1
  have e := arrK_get (tick := tick) (row := row) (k := k) (List.getElem?_eq_getElem hjl)
  rw [e] at hj
  have hb := hw _ (List.getElem_mem hjl)
  cases hj
  split
  · rw [List.length_append, List.length_replicate]
    have : (row.getD j 0).toNat ≤ 1000 := by
      rw [List.getD_eq_getElem?_getD]
      cases hq : row[j]? with
      | none => exact Nat.zero_le _
      | some c =>
        have := hc c (List.mem_of_getElem? hq)
        show c.toNat ≤ 1000
        omega
    omega
  · omega
/-- what the run keeps -/
structure RnOk (n m k : Nat) (s : RnS) : Prop where
  w : s.W.length = n
  t : s.T.length = n
  a : s.A.length = m
  b : s.B.length = k
  l : s.L.length = k
  wb : ∀ w ∈ s.W, w.length ≤ 1000 * k
  tb : ∀ t ∈ s.T, t.length ≤ m * k
theorem RnOk.tick {rs : List (Int × Int)} {n k : Nat} {desks : List (List Int)} {tick : Int} {row : List Int} {s : RnS} (h : RnOk n desks.length k s) (hc : ∀ c ∈ row, 0 ≤ c ∧ c ≤ 1000) : RnOk n desks.length (k + 1) (s.tick rs n desks tick row) := by
  obtain ⟨l1, l2, l3, l4⟩ := steps_len rs n tick desks ⟨arrK tick row s.W row.length, s.A, s.T, []⟩ desks.length
  refine ⟨l1.trans ((arrK_len ..).trans h.w), l3.trans h.t, l2.trans h.a, by show (s.B ++ [_]).length = _; rw [List.length_append, h.b]; rfl, by show (s.L ++ [_]).length = _; rw [List.length_append, h.l]; rfl, fun w hw => ?_, fun t ht => ?_⟩
  · have := steps_W (rs := rs) (n := n) (tick := tick) (desks := desks) (s := ⟨arrK tick row s.W row.length, s.A, s.T, []⟩) (arrK_W h.wb hc) desks.length w hw
    omega
  · have := steps_T (rs := rs) (n := n) (tick := tick) (desks := desks) (s := ⟨arrK tick row s.W row.length, s.A, s.T, []⟩) h.tb desks.length t ht
    rw [Nat.mul_succ]
    exact this
theorem RnOk.runK {rs : List (Int × Int)} {n : Nat} {desks coms : List (List Int)} {s : RnS} (h : RnOk n desks.length 0 s) (hc : ∀ row ∈ coms, ∀ c ∈ row, 0 ≤ c ∧ c ≤ 1000) : ∀ k, RnOk n desks.length k (s.runK rs n desks coms k)
  | 0 => h
  | k + 1 => (RnOk.runK h hc k).tick (by
    rw [List.getD_eq_getElem?_getD]
    cases hq : coms[k]? with
    | none => intro c hc'; cases hc'
    | some row => exact hc row (List.mem_of_getElem? hq))
end Dn
set_option maxHeartbeats 1000000
namespace Dn
open PySem PySem.Spec PyProof.Rows L2
end Dn
set_option maxHeartbeats 1000000
namespace Dn
open PySem PySem.Spec PyProof.Rows L2
theorem sPars_ev {is : List Nat} {m : Mo (List (Option Nat × D))} {env e1 : DEnv} {its : List (Option Nat × D)} (h : m env = some (its, e1)) (hl : is.length = its.length) : sPars is m env = some (.nx (setE is its e1)) := by
  unfold sPars
  simp only [h, hl, if_pos]
def run0 (n m : Nat) : RnS := ⟨List.replicate n [], List.replicate m 0, List.replicate n [], [], []⟩
end Dn
set_option maxHeartbeats 1000000
namespace Dn
open PySem PySem.Spec PyProof.Rows L2
end Dn
set_option maxHeartbeats 1000000
namespace Dn
open PySem PySem.Spec PyProof.Rows L2
theorem gPow10 : gPow (.int 10) (.int 18) = some (.int 1000000000000000000) := by
  simp only [gPow, gInt]
  rw [if_pos (by decide)]
  rfl
theorem well_ok {cell : Int} {turn : Nat} (ht : turn ≤ 5000) : ∃ d, F__law_well [.int cell, .int turn] = some d ∧ Bag 5000 d := by
  by_cases hc : (1000000000000000000 : Int) ≤ cell
  · refine ⟨.list [.int (cell - 1000000000000000000), .int (cell % 2305843009213693951), .int turn], ?_, ⟨_, _, _, rfl, Int.emod_nonneg _ (by decide), Int.emod_lt_of_pos _ (by decide), by omega, by omega⟩⟩
    simp [F__law_well, B__law_well, envOf, rIf, rRet, outN, mMap, mBin, mBind, mLift, mRet, mVar, gPow10, gGe, gCmp, gB, hc, mCons, gLst, gSub, gMod, gInt]
  · refine ⟨.list [.int 0, .int (cell % 2305843009213693951), .int turn], ?_, ⟨_, _, _, rfl, Int.emod_nonneg _ (by decide), Int.emod_lt_of_pos _ (by decide), by omega, by omega⟩⟩
    simp [F__law_well, B__law_well, envOf, rIf, rRet, outN, mMap, mBin, mBind, mLift, mRet, mVar, gPow10, gGe, gCmp, gB, hc, mCons, gLst, gSub, gMod, gInt]
end Dn
set_option maxHeartbeats 1000000
namespace Dn
open PySem PySem.Spec PyProof.Rows L2
theorem cut5 (mo : Nat) (ns : List Int) : ∃ l : List Int, cutD (encI ns) none (some (mo : Int)) = encI l ∧ l.length ≤ mo := by
  refine ⟨(ns.drop (HT.sIx (encI ns).length 0 none)).take (HT.sIx (encI ns).length (encI ns).length (some (mo : Int)) - HT.sIx (encI ns).length 0 none), by simp [cutD, encI, List.map_take, List.map_drop], ?_⟩
  rw [List.length_take]
  have : HT.sIx (encI ns).length (encI ns).length (some (mo : Int)) ≤ mo := by
    rw [HT.sIx_nat (encI ns).length (encI ns).length mo]
    exact Nat.min_le_left _ _
  omega
theorem gAdd_lists {xs ys : List D} {z : D} (h : gCat (.list xs) (.list ys) = some z) : gAdd (.list xs) (.list ys) = some z := by
  simp only [gAdd, gInt, h]
theorem small4000 {x : Int} (h : x.natAbs < 2 ^ 64) : x.natAbs < 2 ^ 4000 := Nat.lt_of_lt_of_le h (Nat.pow_le_pow_right (by decide) (by decide))
theorem gMulB_small {i j : Int} (h1 : i.natAbs < 2 ^ 64) (h2 : j.natAbs < 2 ^ 64) : gMulB (.int i) (.int j) = some (.int (i * j)) := by
  simp only [gMulB, gInt, if_pos (And.intro (small4000 h1) (small4000 h2)), Option.map_some]
theorem bags_ok {mo : Nat} (hmo : mo ≤ 5) (ns : List Int) : ∃ bs : List D, F__law_bags [.dict [(.none, .list (encI ns))], .int (mo : Nat)] = some (.list bs) ∧ ∀ b ∈ bs, Bag 5000 b := by
  obtain ⟨l, hl, hl5⟩ := cut5 mo ns
  have g1 : mBin gAdd (mSl (mVar 0) (mRet none) (mMap (fun d => (gI d).map some) (mVar 1))) (mMap gLst (mCons (mRet (.int 0)) (mRet []))) [some (SV.fz (.dict [(.none, .list (encI ns))])), some (SV.fz (.int (mo : Nat))), none, none] = some (.list (encI (l ++ [0])), [some (SV.fz (.dict [(.none, .list (encI ns))])), some (SV.fz (.int (mo : Nat))), none, none]) := by
    refine mBin_ev (x := .list (encI l)) (y := .list [.int 0]) ?_ rfl ?_
    · rw [← hl]
      rfl
    · refine gAdd_lists ?_
      simp only [gCat]
      rw [if_pos (by rw [List.length_map]; simp; omega), encI_app]
  have hL := lcGo_all (tgt := gTu 2 (gsCons (gNm 2) (gsCons (gNm 3) gsNil))) (test := mRet true) (elt := mMap (lenIs 2 F__law_well) (mCons (mVar 3) (mCons (mBin gMulB (mRet (.int 977)) (mVar 2)) (mRet [])))) (vs := [2, 3]) (fun _ e => e = [some (SV.fz (.dict [(.none, .list (encI ns))])), some (SV.fz (.int (mo : Nat))), none, none]) (fun _ y => Bag 5000 y) (enumD 0 (encI (l ++ [0]))) 0
    (wipeD [some (SV.fz (.dict [(.none, .list (encI ns))])), some (SV.fz (.int (mo : Nat))), none, none] [2, 3]) rfl (fun m d e hd _ he => by
      subst he
      obtain ⟨j, hj⟩ := List.mem_iff_getElem?.mp hd
      obtain ⟨x, hx, rfl⟩ := enumD_get 0 _ j d hj
      have hjl : j < 6 := by
        have := (List.getElem?_eq_some_iff.mp hj).1
        rw [enumD_len, List.length_map, List.length_append] at this
        simp at this
        omega
      rw [List.getElem?_map] at hx
      cases hc : (l ++ [0])[j]? with
      | none => rw [hc] at hx; cases hx
      | some c =>
        rw [hc] at hx
        cases hx
        rw [Nat.zero_add]
        have e64 : (2 : Nat) ^ 64 = 18446744073709551616 := by decide
        obtain ⟨y, hy, hb⟩ := well_ok (cell := c) (turn := 977 * j) (by omega)
        have gm := gMulB_small (i := 977) (j := (j : Int)) (by omega) (by omega)
        rw [show (977 : Int) * (j : Int) = ((977 * j : Nat) : Int) by omega] at gm
        exact ⟨_, _, y, _, rfl, rfl, mMap_ev (x := [.int c, .int ((977 * j : Nat) : Int)]) (mCons_ev (m := mVar 3) rfl (mCons_ev (mBin_ev (m := mRet (.int 977)) rfl (n := mVar 2) rfl gm) (n := mRet []) rfl)) ((if_pos (show [PyData.int c, PyData.int ((977 * j : Nat) : Int)].length = 2 from rfl)).trans hy), hb, rfl⟩)
  obtain ⟨ys, e', h1, he', hys⟩ := hL
  subst he'
  refine ⟨ys, ?_, fun b hb => ?_⟩
  · unfold F__law_bags B__law_bags
    have hi : mMap gEnum (mCons (mBin gAdd (mSl (mVar 0) (mRet none) (mMap (fun d => (gI d).map some) (mVar 1))) (mMap gLst (mCons (mRet (.int 0)) (mRet [])))) (mRet [])) [some (SV.fz (.dict [(.none, .list (encI ns))])), some (SV.fz (.int (mo : Nat))), none, none] = some (enumD 0 (encI (l ++ [0])), _) := mMap_ev (x := [.list (encI (l ++ [0]))]) (mCons_ev g1 (n := mRet []) rfl) rfl
    have := mLc_ev hi (by rw [enumD_len, List.length_map, List.length_append]; simp; omega) rfl h1
    rw [show envOf ["script", "most", "k", "cell"] [.dict [(.none, .list (encI ns))], .int (mo : Nat)] = [some (SV.fz (.dict [(.none, .list (encI ns))])), some (SV.fz (.int (mo : Nat))), none, none] from rfl]
    unfold rRet
    rw [mMap_ev (g := fun ds => some (PyData.list ds)) this rfl]
    rfl
  · obtain ⟨j, hj⟩ := List.mem_iff_getElem?.mp hb
    have hjl : j < (enumD 0 (encI (l ++ [0]))).length := by rw [Paired.length hys]; exact (List.getElem?_eq_some_iff.mp hj).1
    obtain ⟨y, hy, hB⟩ := LiI.paired_get hys (List.getElem?_eq_getElem hjl)
    rw [hj] at hy
    cases hy
    exact hB
end Dn
set_option maxHeartbeats 1000000
namespace Dn
open PySem PySem.Spec PyProof.Rows L2
end Dn
set_option maxHeartbeats 1000000
namespace Dn
open PySem PySem.Spec PyProof.Rows L2
end Dn
set_option maxHeartbeats 1000000
namespace Dn
open PySem PySem.Spec PyProof.Rows L2
end Dn
set_option maxHeartbeats 1000000
namespace Dn
open PySem PySem.Spec PyProof.Rows L2
end Dn
namespace Dn
/-- whom the j-th desk takes -/
def DS.who (rs : List (Int × Int)) (n : Nat) (tick : Int) (desks : List (List Int)) (s : DS) (j : Nat) : Option Nat := whom n tick (desks.getD j []) (s.steps rs n tick desks j).W (s.A.getD j 0)
/-- how many wait -/
def wl (W : List (List Int)) (r : Nat) : Int := ((W.getD r []).length : Int)
end Dn
namespace Dn
section
variable (rs : List (Int × Int)) (n : Nat) (desks coms : List (List Int))
abbrev sK (k : Nat) : RnS := (run0 n desks.length).runK rs n desks coms k
/-- the state ahead of the desks' turns at a tick -/
def dK (k : Nat) : DS := ⟨arrK k (coms.getD k []) (sK rs n desks coms k).W (coms.getD k []).length, (sK rs n desks coms k).A, (sK rs n desks coms k).T, []⟩
end
section
variable (rs : List (Int × Int)) (n : Nat) (desks coms : List (List Int))
variable {rs n desks coms}
end
end Dn
namespace Dn
/-- steps that go on: each no lower, and no more than most higher -/
def Chain (most : Int) : Int → Int → List (Int × Int) → Prop
  | _, _, [] => True
  | l, h, (l', h') :: s => l ≤ l' ∧ h' ≤ h + most ∧ l' ≤ h' ∧ Chain most l' h' s
theorem Chain.last {most : Int} : ∀ {s : List (Int × Int)} {l h : Int}, Chain most l h s → ∀ p, s.getLast? = some p → p.1 ≤ p.2
  | [], _, _, _, p, hp => by simp at hp
  | [q], _, _, hc, p, hp => by
    simp at hp
    subst hp
    exact hc.2.2.1
  | q :: q2 :: s, _, _, hc, p, hp => by
    rw [List.getLast?_cons_cons] at hp
    exact Chain.last (s := q2 :: s) hc.2.2.2 p hp
end Dn
namespace Dn
def sumTo : Nat → (Nat → Int) → Int
  | 0, _ => 0
  | n + 1, f => sumTo n f + f n
/-- the sum of the first ones -/
def S (w : List Int) (k : Nat) : Int := sumTo k fun i => w.getD i 0
end Dn
set_option maxHeartbeats 1000000
namespace Dn
open PySem PySem.Spec PyProof.Rows L2
theorem ev_ret {α : Type} {a : α} {env : DEnv} : mRet a env = some (a, env) := rfl
theorem ev_var {i : Nat} {env : DEnv} {d : D} (h : env[i]? = some (some (SV.fz d))) : mVar i env = some (d, env) := by unfold mVar; simp only [h]
def seqK (F' : So) (f : Fl) : Option Fl := match f with | .nx e1 => F' e1 | g => some g
theorem ev_seq {F F' : So} {env : DEnv} {f : Fl} {r : Option Fl} (h : F env = some f) (h2 : seqK F' f = r) : sSeq F F' env = r := by
  unfold sSeq
  rw [h]
  cases f <;> exact h2
theorem seqK_nx {F' : So} {e1 : DEnv} {r : Option Fl} (h : F' e1 = r) : seqK F' (.nx e1) = r := h
theorem seqK_rt {F' : So} {d : D} {e1 : DEnv} {r : Option Fl} (h : some (Fl.rt d e1) = r) : seqK F' (.rt d e1) = r := h
theorem seqK_bk {F' : So} {e1 : DEnv} {r : Option Fl} (h : some (Fl.bk e1) = r) : seqK F' (.bk e1) = r := h
theorem seqK_ct {F' : So} {e1 : DEnv} {r : Option Fl} (h : some (Fl.ct e1) = r) : seqK F' (.ct e1) = r := h
theorem ev_if {c : Mo Bool} {F F' : So} {env e1 : DEnv} {k : Bool} {r : Option Fl} (h : c env = some (k, e1)) (h2 : (if k = true then F e1 else F' e1) = r) : sIf c F F' env = r := by
  unfold sIf
  simp only [h]
  exact h2
theorem ev_mif {α : Type} {c : Mo Bool} {m n : Mo α} {env e1 : DEnv} {k : Bool} {r : Option (α × DEnv)} (h : c env = some (k, e1)) (h2 : (if k = true then m e1 else n e1) = r) : mIf c m n env = r := (mIf_ev h).trans h2
theorem ev_and {m n : Mo Bool} {env e1 : DEnv} {k : Bool} {r : Option (Bool × DEnv)} (h : m env = some (k, e1)) (h2 : (if k = true then n e1 else some (false, e1)) = r) : mAnd m n env = r := by
  unfold mAnd mBind
  rw [h]
  cases k <;> exact h2
theorem ev_or {m n : Mo Bool} {env e1 : DEnv} {k : Bool} {r : Option (Bool × DEnv)} (h : m env = some (k, e1)) (h2 : (if k = true then some (true, e1) else n e1) = r) : mOr m n env = r := by
  unfold mOr mBind
  rw [h]
  cases k <;> exact h2
theorem ev_not {m : Mo Bool} {env e1 : DEnv} {k : Bool} (h : m env = some (k, e1)) : mNot m env = some (!k, e1) := by
  unfold mNot mBind
  rw [h]
  rfl
theorem ev_andv {m n : Mo D} {env e1 : DEnv} {k : Bool} {r : Option (D × DEnv)} (h : m env = some (.bool k, e1)) (h2 : (if k = true then n e1 else some (.bool false, e1)) = r) : mAndV m n env = r := by
  unfold mAndV mBind
  rw [mMap_ev h (z := k) rfl]
  cases k <;> exact h2
theorem ev_chain {g g' : D → D → Option D} {m n l : Mo D} {env e1 e2 : DEnv} {x y z : D} {k k2 : Bool} (h1 : m env = some (x, e1)) (h2 : n e1 = some (y, e2)) (h3 : g x y = some (.bool k)) (h4 : l e2 = some (z, e2)) (h5 : g' y z = some (.bool k2)) :
    mChain g g' m n l env = some (k && k2, e2) := by
  unfold mChain mBind
  rw [h1]
  simp only [h2, mMap, mBind, mLift, h3, Option.map_some]
  cases k
  · rfl
  · simp only [gB, if_pos, h4, h5]
    rfl
theorem ev_chain3 {g g' g2 : D → D → Option D} {m n l o : Mo D} {env e1 e2 : DEnv} {x y z w : D} {k k2 k3 : Bool} (h1 : m env = some (x, e1)) (h2 : n e1 = some (y, e2)) (h3 : g x y = some (.bool k)) (h4 : l e2 = some (z, e2)) (h5 : g' y z = some (.bool k2)) (h6 : o e2 = some (w, e2)) (h7 : g2 z w = some (.bool k3)) :
    mChain3 g g' g2 m n l o env = some (.bool (k && k2 && k3), e2) := by
  unfold mChain3 mBind
  rw [h1]
  simp only [h2, mMap, mBind, mLift, h3, Option.map_some]
  cases k
  · rfl
  · simp only [gB, if_pos, h4, h5]
    cases k2
    · rfl
    · simp only [gB, if_pos, h6, h7]
      rfl
theorem ev_put {i j : Nat} {k m : Mo D} {env e2 : DEnv} {io : Bool} {ds : List D} {d : D} (h0 : ownAt env i = some (io, ds)) (hm : m env = some (d, env)) (h1 : k env = some (.int j, env)) (hj : j < ds.length) (h2 : env.set i (some (.ow io 0 (.list (ds.set j d)))) = e2) : sPut i k m env = some (.nx e2) := by
  rw [← h2]
  unfold sPut
  simp only [hm, h0, h1, Evl.ixN_nat hj]
theorem ite_t {α : Type} {k : Bool} {a b r : α} (h : k = true) (h2 : a = r) : (if k = true then a else b) = r := by rw [if_pos h]; exact h2
theorem ite_f {α : Type} {k : Bool} {a b r : α} (h : k = false) (h2 : b = r) : (if k = true then a else b) = r := by rw [if_neg (by rw [h]; decide)]; exact h2
theorem ev_set {i : Nat} {m : Mo D} {env e1 e2 : DEnv} {d : D} (h : m env = some (d, e1)) (h2 : e1.set i (some (SV.fz d)) = e2) : sSet i m env = some (.nx e2) := by rw [sSet_ev h, h2]
theorem ev_setN {i k : Nat} {m : Mo D} {env e1 e2 : DEnv} {d : D} (h : m env = some (d, e1)) (h2 : e1.set i (some (SV.ow false k d)) = e2) : sSetN i k m env = some (.nx e2) := by
  unfold sSetN
  rw [h]
  rw [← h2]
theorem ev_aug {i : Nat} {g : D → D → Option D} {m : Mo D} {env e1 e2 : DEnv} {x y z : D} (h0 : env[i]? = some (some (SV.fz x))) (h : m env = some (y, e1)) (h1 : g x y = some z) (h2 : e1.set i (some (SV.fz z)) = e2) : sAug i g m env = some (.nx e2) := by
  unfold sAug
  simp only [h0, h, h1, h2]
theorem ev_frz {i : Nat} {F : So} {env e1 : DEnv} {io : Bool} {k : Nat} {d : D} {r : Option Fl} (h0 : env[i]? = some (some (SV.ow io k d))) (h1 : env.set i (some (SV.fz d)) = e1) (h2 : F e1 = r) : sFrz i F env = r := by
  unfold sFrz
  simp only [h0, h1, h2]
theorem ev_drop {α : Type} {m : Mo α} {env e1 : DEnv} {x : α} (h : m env = some (x, e1)) : sDrop m env = some (.nx e1) := by
  unfold sDrop
  rw [h]
theorem ev_app {i : Nat} {m : Mo D} {env e1 e2 : DEnv} {io : Bool} {ds : List D} {d : D} {p : Bool × List D} (h0 : ownAt env i = some p) (h : m env = some (d, e1)) (h1 : ownAt e1 i = some (io, ds)) (hl : ds.length < 100000) (h2 : e1.set i (some (.ow io 0 (.list (ds ++ [d])))) = e2) : sApp i m env = some (.nx e2) := by
  rw [sApp_ev ⟨p, h0⟩ h h1 hl, h2]
theorem ev_lend {m : Mo D} {env e0 e1 : DEnv} {d : D} (h0 : lendE env = e0) (h : m e0 = some (d, e1)) (f : flatD d = true) : mLend m env = some (d, env) := mLend_ev (h0 ▸ h) f
theorem ev_lendT {m : Mo Bool} {env e0 e1 : DEnv} {d : Bool} (h0 : lendE env = e0) (h : m e0 = some (d, e1)) : mLendT m env = some (d, env) := mLendT_ev (h0 ▸ h)
theorem ev_for {items : Mo (List D)} {tgt : D → DEnv → Option DEnv} {body : So} {env e1 : DEnv} {ds : List D} {r : Option Fl} (h1 : items env = some (ds, e1)) (h2 : forGo tgt body ds e1 = r) : sFor items tgt body env = r := (sFor_ev h1).trans h2
theorem restGo_wipe (vs : List Nat) : ∀ (e : DEnv) (k : Nat), restGo vs k e (wipeGo vs k e) = e
  | [], _ => rfl
  | s :: e, k => by
    rw [wipeGo, restGo, restGo_wipe vs e (k + 1)]
    split <;> rfl
theorem ev_lc {items : Mo (List D)} {tgt : D → DEnv → Option DEnv} {test : Mo Bool} {elt : Mo D} {vs : List Nat} {env e1 : DEnv} {ds ys : List D} (h1 : items env = some (ds, e1)) (h3 : okW e1 vs = true) (h4 : lcGo tgt test elt vs ds (wipeD e1 vs) = some (ys, wipeD e1 vs)) (h2 : ds.length ≤ 100000) :
    mLc items tgt test elt vs env = some (ys, e1) := by rw [mLc_ev h1 h2 h3 h4, restD, wipeD, restGo_wipe]
theorem ev_len {n : Nat} {F : List D → Option D} {ds : List D} {z : D} (h : ds.length = n) (h2 : F ds = some z) : lenIs n F ds = some z := (if_pos h).trans h2
theorem ev_sl {m : Mo D} {l h : Mo (Option Int)} {env e1 e2 e3 : DEnv} {x z : D} {lo hi : Option Int} (h1 : m env = some (x, e1)) (h2 : l e1 = some (lo, e2)) (h3 : h e2 = some (hi, e3)) (h4 : gSl x lo hi = some z) : mSl m l h env = some (z, e3) := by
  simp [mSl, mBind, mLift, h1, h2, h3, h4]
theorem ev_star {m : Mo D} {n : Mo (List D)} {env e1 e2 : DEnv} {x : D} {xs ys : List D} (h1 : m env = some (x, e1)) (h0 : gSeq x = some xs) (h2 : n e1 = some (ys, e2)) : mStar m n env = some (xs ++ ys, e2) := by
  simp [mStar, mMap, mBind, mLift, mRet, h1, h0, h2]
theorem ev_nil {env : DEnv} : sNil env = some (.nx env) := rfl
theorem ev_tup {m : Mo D} {t : D → DEnv → Option DEnv} {env e1 e2 : DEnv} {d : D} (h : m env = some (d, e1)) (h2 : t d e1 = some e2) : sTup m t env = some (.nx e2) := by
  unfold sTup
  rw [h]
  show (t d e1).map Fl.nx = _
  rw [h2]
  rfl
theorem ev_fin {a b : Fl} (h : a = b) : some a = some b := congrArg some h
theorem ev_bk {env : DEnv} : (fun env : DEnv => some (Fl.bk env)) env = some (.bk env) := rfl
theorem ev_pars {is : List Nat} {m : Mo (List (Option Nat × D))} {env e1 e2 : DEnv} {its : List (Option Nat × D)} (h : m env = some (its, e1)) (hl : is.length = its.length) (h2 : setE is its e1 = e2) : sPars is m env = some (.nx e2) := by rw [sPars_ev h hl, h2]
theorem ev_io {i k : Nat} {F' : Mo (List AR)} {env e1 : DEnv} {io : Bool} {d : D} {ars : List AR} (h0 : env[i]? = some (some (SV.ow io k d))) (h : F' env = some (ars, e1)) : mIo i F' env = some (AR.io i :: ars, e1) := by
  unfold mIo
  simp only [h0]
  exact mCons_ev rfl h
theorem ev_callIO {ms : Ms} {F : List D → Option (D × List D)} {m : Mo (List AR)} {env e1 e2 : DEnv} {ars : List AR} {i k : Nat} {io : Bool} {ds : List D} {z o d : D} (h : m env = some (ars, e1)) (hn : iosOf ars = [i]) (h0 : e1[i]? = some (some (SV.ow io k d))) (h2 : argsOf ms ars e1 = some ds) (h3 : F ds = some (z, [o])) (h4 : putOuts ms ars [o] e1 = some (e1.set i (some (SV.ow io k o)))) (h5 : e1.set i (some (SV.ow io k o)) = e2) : mCallIO ms F m env = some (z, e2) := by
  unfold mCallIO
  have hnd : [i].Nodup := by simp
  simp only [h, hn, h2, h3, h4, hnd, if_true, Option.map_some, h5]
theorem ev_gnm {i : Nat} {d : D} {env e1 : DEnv} (h : env.set i (some (SV.fz d)) = e1) : gNm i d env = some e1 := by rw [← h]; rfl
theorem ev_tu {n : Nat} {Bs : List D → DEnv → Option DEnv} {ds : List D} {env e1 : DEnv} (h : ds.length = n) (h2 : Bs ds env = some e1) : gTu n Bs (.tuple ds) env = some e1 := (if_pos h).trans h2
theorem ev_gcons {B : D → DEnv → Option DEnv} {Bs : List D → DEnv → Option DEnv} {d : D} {ds : List D} {env e1 e2 : DEnv} (h : B d env = some e1) (h2 : Bs ds e1 = some e2) : gsCons B Bs (d :: ds) env = some e2 := by
  unfold gsCons
  simp only [h, h2]
theorem ev_gnil {env : DEnv} : gsNil [] env = some env := rfl
theorem ev_outF {B : So} {env e1 : DEnv} {d : D} (h : B env = some (.rt d e1)) : outF (B env) = some d := by rw [h]; rfl
theorem gSub_int (i j : Int) : gSub (.int i) (.int j) = some (.int (i - j)) := rfl
theorem gIAdd_int (i j : Int) : gIAdd (.int i) (.int j) = some (.int (i + j)) := rfl
theorem gLt_int (i j : Int) : gLt (.int i) (.int j) = some (.bool (decide (i < j))) := rfl
theorem gLe_int (i j : Int) : gLe (.int i) (.int j) = some (.bool (decide (i ≤ j))) := rfl
theorem gGt_int (i j : Int) : gGt (.int i) (.int j) = some (.bool (decide (j < i))) := rfl
theorem gGe_int (i j : Int) : gGe (.int i) (.int j) = some (.bool (decide (j ≤ i))) := rfl
theorem gEq_int (i j : Int) : gEq (.int i) (.int j) = some (.bool (i == j)) := rfl
theorem gNe_int (i j : Int) : gNe (.int i) (.int j) = some (.bool (!(i == j))) := rfl
theorem gIxt0 (x : D) (xs : List D) : gIx (.tuple (x :: xs)) (.int 0) = some x := atI_0 x xs
theorem gIxt1 (x y : D) (xs : List D) : gIx (.tuple (x :: y :: xs)) (.int 1) = some y := atI_1 x y xs
theorem gIxl0 (x : D) (xs : List D) : gIx (.list (x :: xs)) (.int 0) = some x := atI_0 x xs
theorem gIxl1 (x y : D) (xs : List D) : gIx (.list (x :: y :: xs)) (.int 1) = some y := atI_1 x y xs
theorem ev_while {c : Mo Bool} {body : So} {env : DEnv} {r : Option Fl} (h : whileGo c body 1000000 env = r) : sWhile c body env = r := h
end Dn
namespace Dn
open PySem PySem.Spec PyProof.Rows L2
end Dn
namespace Dn
open PySem PySem.Spec PyProof.Rows L2
end Dn
namespace Dn
open PySem PySem.Spec PyProof.Rows L2
abbrev L_law_1 : So := (sSeq (sIf (mNot (mMap gTru (mMap (lenIs 1 F__law_first_told) (mCons (mBin gAdd (mRet (.int 1)) (mCallIO [some 0, none] F__law_take (mIo 1 (mCons (mMap (fun d => some (AR.fz d)) (mRet (.int 5))) (mRet []))))) (mRet []))))) (sSeq (sRet (mRet (.bool false)))
    sNil) sNil)
    (sSeq (sPar 2 3 (mCons (mBin gAdd (mRet (.int 1)) (mCallIO [some 0, none] F__law_take (mIo 1 (mCons (mMap (fun d => some (AR.fz d)) (mRet (.int 10))) (mRet []))))) (mCons (mBin gAdd (mRet (.int 1)) (mCallIO [some 0, none] F__law_take (mIo 1 (mCons (mMap (fun d => some (AR.fz d)) (mRet (.int 5))) (mRet []))))) (mRet []))))
    (sSeq (sSet 4 (mMap gTup (mCons (mMap gTup (mCons (mMap gTup (mCons (mVar 3) (mCons (mVar 2) (mRet [])))) (mRet []))) (mCons (mMap gTup (mCons (mMap gTup (mCons (mRet (.int 0)) (mRet []))) (mRet []))) (mRet [])))))
    (sSeq (sSet 5 (mIf (mMap gB (mBin gGt (mVar 3) (mRet (.int 1)))) (mMap gTup (mCons (mRet (.int 0)) (mCons (mRet (.int 0)) (mCons (mRet (.int 1)) (mRet []))))) (mRet .none)))
    (sSeq (sIf (mOr (mMap gB (mBin gNe (mMap (lenIs 3 F_best_look) (mCons (mVar 4) (mCons (mMap gTup (mCons (mMap gTup (mCons (mRet (.int 0)) (mRet []))) (mRet []))) (mCons (mMap gTup (mRet [])) (mRet []))))) (mVar 5))) (mMap gB (mBin gNe (mMap (lenIs 3 F_how_many) (mCons (mVar 4) (mCons (mMap gTup (mCons (mMap gTup (mCons (mRet (.int 0)) (mRet []))) (mRet []))) (mCons (mMap gTup (mRet [])) (mRet []))))) (mVar 3)))) (sSeq (sRet (mRet (.bool false)))
    sNil) sNil)
    (sSeq (sIf (mMap gB (mBin gNe (mMap (lenIs 3 F_nexts) (mCons (mVar 4) (mCons (mMap gTup (mCons (mMap gTup (mCons (mRet .none) (mRet []))) (mRet []))) (mCons (mMap gTup (mRet [])) (mRet []))))) (mMap gLst (mCons (mMap gTup (mCons (mMap gTup (mCons (mRet .none) (mRet []))) (mCons (mRet (.int 1)) (mRet [])))) (mCons (mMap gTup (mCons (mMap gTup (mCons (mRet (.int 0)) (mRet []))) (mCons (mVar 3) (mRet [])))) (mRet [])))))) (sSeq (sRet (mRet (.bool false)))
    sNil) sNil)
    sNil))))))
end Dn
set_option maxHeartbeats 1000000
local macro_rules | `(tactic| array_mem_dec) => `(tactic| first
  | with_reducible rfl
  | with_reducible assumption
  | (simp only [beq_self_eq_true, Bool.not_true, Bool.not_false]; done)
  | ((fail_if_success rw [beq_self_eq_true]); first
    | exact decide_eq_true (by first | with_reducible assumption | omega)
    | exact decide_eq_false (by first | with_reducible assumption | omega)
    | exact beq_iff_eq.mpr (by first | with_reducible assumption | omega)
    | exact beq_eq_false_iff_ne.mpr (by first | with_reducible assumption | omega)
    | (simp only [Bool.and_eq_true, Bool.and_eq_false_iff, Bool.or_eq_true, Bool.or_eq_false_iff, Bool.not_eq_true', Bool.not_eq_false', decide_eq_true_eq, decide_eq_false_iff_not, beq_iff_eq, beq_eq_false_iff_ne]; first | with_reducible assumption | omega)
    | exact rfl))
local macro_rules | `(tactic| array_get_dec) => `(tactic| first
  | with_reducible assumption
  | with_reducible exact Dn.gAdd_int _ _
  | with_reducible exact Dn.gSub_int _ _
  | with_reducible exact Dn.gIAdd_int _ _
  | with_reducible exact Dn.gLt_int _ _
  | with_reducible exact Dn.gLe_int _ _
  | with_reducible exact Dn.gGt_int _ _
  | with_reducible exact Dn.gGe_int _ _
  | with_reducible exact Dn.gEq_int _ _
  | with_reducible exact Dn.gNe_int _ _
  | with_reducible exact Dn.gIxt0 _ _
  | with_reducible exact Dn.gIxt1 _ _ _
  | with_reducible exact Dn.gIxl0 _ _
  | with_reducible exact Dn.gIxl1 _ _ _
  | with_reducible assumption
  | ((with_reducible apply Dn.ev_len); (· exact rfl); (· with_reducible assumption))
  | exact rfl
  | assumption
  | exact Dn.gIxl0 _ _
  | exact Dn.gIxt0 _ _
  | exact Dn.gIxt1 _ _ _
  | fail)
local macro_rules | `(tactic| sizeOf_list_dec) => `(tactic| first
  | with_reducible assumption
  | with_reducible exact Dn.ev_ret
  | with_reducible exact Dn.ev_nil
  | ((with_reducible apply Dn.ev_var); exact rfl)
  | ((with_reducible apply Dn.mBin_ev); (· sizeOf_list_dec); (· sizeOf_list_dec); (· array_get_dec))
  | ((with_reducible apply Dn.mMap_ev); (· sizeOf_list_dec); (· array_get_dec))
  | ((with_reducible apply Dn.mCons_ev); (· sizeOf_list_dec); (· sizeOf_list_dec))
  | ((with_reducible apply Dn.ev_seq); (· sizeOf_list_dec); (· ((first | with_reducible apply Dn.seqK_nx | with_reducible apply Dn.seqK_rt | with_reducible apply Dn.seqK_bk | with_reducible apply Dn.seqK_ct); sizeOf_list_dec)))
  | ((with_reducible apply Dn.ev_set); (· sizeOf_list_dec); (· (dsimp only [List.set] <;> exact rfl)))
  | ((with_reducible apply Dn.ev_if); (· sizeOf_list_dec); (· sizeOf_list_dec))
  | ((with_reducible apply Dn.ite_t); (· array_mem_dec); (· sizeOf_list_dec))
  | ((with_reducible apply Dn.ite_f); (· array_mem_dec); (· sizeOf_list_dec))
  | ((with_reducible apply Dn.ev_mif); (· sizeOf_list_dec); (· sizeOf_list_dec))
  | ((with_reducible apply Dn.ev_and); (· sizeOf_list_dec); (· sizeOf_list_dec))
  | ((with_reducible apply Dn.ev_or); (· sizeOf_list_dec); (· sizeOf_list_dec))
  | ((with_reducible apply Dn.ev_not); sizeOf_list_dec)
  | ((with_reducible apply Dn.ev_andv); (· sizeOf_list_dec); (· sizeOf_list_dec))
  | ((with_reducible apply Dn.ev_chain); (· sizeOf_list_dec); (· sizeOf_list_dec); (· array_get_dec); (· sizeOf_list_dec); (· array_get_dec))
  | ((with_reducible apply Dn.ev_chain3); (· sizeOf_list_dec); (· sizeOf_list_dec); (· array_get_dec); (· sizeOf_list_dec); (· array_get_dec); (· sizeOf_list_dec); (· array_get_dec))
  | ((with_reducible apply Dn.ev_put); (· exact rfl); (· sizeOf_list_dec); (· sizeOf_list_dec); (· first | assumption | (simp only [List.length_map]; omega) | fail); (· (dsimp only [List.set] <;> exact rfl)))
  | ((with_reducible apply Dn.sRet_ev); sizeOf_list_dec)
  | ((with_reducible apply Dn.ev_rret); sizeOf_list_dec)
  | ((with_reducible apply Dn.ev_rseq); (· sizeOf_list_dec); (· sizeOf_list_dec))
  | ((with_reducible apply Dn.ev_rif); (· sizeOf_list_dec); (· sizeOf_list_dec))
  | ((with_reducible apply Dn.ev_rfrz); (· exact rfl); (· (dsimp only [List.set] <;> exact rfl)); (· sizeOf_list_dec))
  | ((with_reducible apply Dn.ev_setN); (· sizeOf_list_dec); (· (dsimp only [List.set] <;> exact rfl)))
  | ((with_reducible apply Dn.ev_aug); (· exact rfl); (· sizeOf_list_dec); (· array_get_dec); (· (dsimp only [List.set] <;> exact rfl)))
  | ((with_reducible apply Dn.ev_frz); (· exact rfl); (· (dsimp only [List.set] <;> exact rfl)); (· sizeOf_list_dec))
  | ((with_reducible apply Dn.ev_drop); sizeOf_list_dec)
  | ((with_reducible apply Dn.ev_app); (· exact rfl); (· sizeOf_list_dec); (· exact rfl); (· (simp only [List.length_map, List.length_append, List.length_cons, List.length_nil]; omega)); (· (dsimp only [List.set] <;> exact rfl)))
  | ((with_reducible apply Dn.ev_lend); (· (dsimp only [Dn.lendE, List.map, Option.map, Dn.lendSV] <;> exact rfl)); (· sizeOf_list_dec); (· exact rfl))
  | ((with_reducible apply Dn.ev_lendT); (· (dsimp only [Dn.lendE, List.map, Option.map, Dn.lendSV] <;> exact rfl)); (· sizeOf_list_dec))
  | ((with_reducible apply Dn.ev_for); (· sizeOf_list_dec); (· first | with_reducible assumption | assumption | fail))
  | ((with_reducible apply Dn.ev_while); (· first | with_reducible assumption | assumption | fail))
  | ((with_reducible apply Dn.ev_lc); (· sizeOf_list_dec); (· exact rfl); (· first | with_reducible assumption | assumption | fail); (· first | assumption | (simp only [List.length_map, List.length_append, List.length_cons, List.length_nil]; omega) | fail))
  | ((with_reducible apply Dn.ev_sl); (· sizeOf_list_dec); (· sizeOf_list_dec); (· sizeOf_list_dec); (· array_get_dec))
  | ((with_reducible apply Dn.ev_star); (· sizeOf_list_dec); (· exact rfl); (· sizeOf_list_dec))
  | ((with_reducible apply Dn.ev_pars); (· sizeOf_list_dec); (· exact rfl); (· (dsimp only [Dn.setE, List.set] <;> exact rfl)))
  | ((with_reducible apply Dn.ev_callIO); (· sizeOf_list_dec); (· exact rfl); (· exact rfl); (· (simp only [Dn.argsOf, List.getElem?_cons_succ, List.getElem?_cons_zero, if_true, Option.map_some] <;> exact rfl)); (· first | with_reducible assumption | fail); (· exact rfl); (· (dsimp only [List.set] <;> exact rfl)))
  | ((with_reducible apply Dn.ev_io); (· exact rfl); (· sizeOf_list_dec))
  | ((with_reducible apply Dn.ev_tup); (· sizeOf_list_dec); (· sizeOf_list_dec))
  | ((with_reducible apply Dn.ev_gcons); (· sizeOf_list_dec); (· sizeOf_list_dec))
  | with_reducible exact Dn.ev_gnil
  | ((with_reducible apply Dn.ev_gnm); (dsimp only [List.set] <;> exact rfl))
  | with_reducible rfl
  | ((with_reducible apply Dn.ev_give); (· exact rfl); (· (dsimp only [List.set] <;> exact rfl)))
  | ((with_reducible apply Dn.ev_ixO); (· exact rfl); (· sizeOf_list_dec); (· exact rfl); (· array_get_dec))
  | exact Dn.ev_nil
  | ((with_reducible apply Dn.ev_fin); exact rfl)
  | exact Dn.ev_bk
  | ((apply Dn.ev_tu); (· exact rfl); (· sizeOf_list_dec))
  | ((apply Dn.ev_tuL); (· exact rfl); (· sizeOf_list_dec))
  | ((apply Dn.ev_gcons); (· sizeOf_list_dec); (· sizeOf_list_dec))
  | exact Dn.ev_gnil
  | with_reducible assumption
  | assumption
  | fail)
namespace Dn
open PySem PySem.Spec PyProof.Rows L2
def hallD (m s : Int) : D := .tuple [.tuple [.tuple [.int m, .int s]], .tuple [.tuple [.int 0]]]
def dueD (b : Bool) : D := if b then .tuple [.int 0, .int 0, .int 1] else .none
def nextD (m : Int) : D := .list [.tuple [.tuple [.none], .int 1], .tuple [.tuple [.int 0], .int m]]
structure G21 (m s : Int) (b : Bool) : Prop where
  gt : gGt (.int m) (.int 1) = some (.bool b)
  best : F_best_look [hallD m s, .tuple [.tuple [.int 0]], .tuple []] = some (dueD b)
  many : F_how_many [hallD m s, .tuple [.tuple [.int 0]], .tuple []] = some (.int m)
  next : F_nexts [hallD m s, .tuple [.tuple [.none]], .tuple []] = some (nextD m)
  n1 : gNe (dueD b) (dueD b) = some (.bool false)
  n2 : gNe (.int m) (.int m) = some (.bool false)
  n3 : gNe (nextD m) (nextD m) = some (.bool false)
theorem g_1_1 : G21 1 1 false := ⟨by kernel_rfl, by kernel_rfl, by kernel_rfl, by kernel_rfl, by kernel_rfl, by kernel_rfl, by kernel_rfl⟩
theorem g_1_2 : G21 1 2 false := ⟨by kernel_rfl, by kernel_rfl, by kernel_rfl, by kernel_rfl, by kernel_rfl, by kernel_rfl, by kernel_rfl⟩
theorem g_1_3 : G21 1 3 false := ⟨by kernel_rfl, by kernel_rfl, by kernel_rfl, by kernel_rfl, by kernel_rfl, by kernel_rfl, by kernel_rfl⟩
theorem g_1_4 : G21 1 4 false := ⟨by kernel_rfl, by kernel_rfl, by kernel_rfl, by kernel_rfl, by kernel_rfl, by kernel_rfl, by kernel_rfl⟩
theorem g_1_5 : G21 1 5 false := ⟨by kernel_rfl, by kernel_rfl, by kernel_rfl, by kernel_rfl, by kernel_rfl, by kernel_rfl, by kernel_rfl⟩
theorem g_1_6 : G21 1 6 false := ⟨by kernel_rfl, by kernel_rfl, by kernel_rfl, by kernel_rfl, by kernel_rfl, by kernel_rfl, by kernel_rfl⟩
theorem g_1_7 : G21 1 7 false := ⟨by kernel_rfl, by kernel_rfl, by kernel_rfl, by kernel_rfl, by kernel_rfl, by kernel_rfl, by kernel_rfl⟩
theorem g_1_8 : G21 1 8 false := ⟨by kernel_rfl, by kernel_rfl, by kernel_rfl, by kernel_rfl, by kernel_rfl, by kernel_rfl, by kernel_rfl⟩
theorem g_1_9 : G21 1 9 false := ⟨by kernel_rfl, by kernel_rfl, by kernel_rfl, by kernel_rfl, by kernel_rfl, by kernel_rfl, by kernel_rfl⟩
theorem g_1_10 : G21 1 10 false := ⟨by kernel_rfl, by kernel_rfl, by kernel_rfl, by kernel_rfl, by kernel_rfl, by kernel_rfl, by kernel_rfl⟩
theorem g_2_1 : G21 2 1 true := ⟨by kernel_rfl, by kernel_rfl, by kernel_rfl, by kernel_rfl, by kernel_rfl, by kernel_rfl, by kernel_rfl⟩
theorem g_2_2 : G21 2 2 true := ⟨by kernel_rfl, by kernel_rfl, by kernel_rfl, by kernel_rfl, by kernel_rfl, by kernel_rfl, by kernel_rfl⟩
theorem g_2_3 : G21 2 3 true := ⟨by kernel_rfl, by kernel_rfl, by kernel_rfl, by kernel_rfl, by kernel_rfl, by kernel_rfl, by kernel_rfl⟩
theorem g_2_4 : G21 2 4 true := ⟨by kernel_rfl, by kernel_rfl, by kernel_rfl, by kernel_rfl, by kernel_rfl, by kernel_rfl, by kernel_rfl⟩
theorem g_2_5 : G21 2 5 true := ⟨by kernel_rfl, by kernel_rfl, by kernel_rfl, by kernel_rfl, by kernel_rfl, by kernel_rfl, by kernel_rfl⟩
theorem g_2_6 : G21 2 6 true := ⟨by kernel_rfl, by kernel_rfl, by kernel_rfl, by kernel_rfl, by kernel_rfl, by kernel_rfl, by kernel_rfl⟩
theorem g_2_7 : G21 2 7 true := ⟨by kernel_rfl, by kernel_rfl, by kernel_rfl, by kernel_rfl, by kernel_rfl, by kernel_rfl, by kernel_rfl⟩
theorem g_2_8 : G21 2 8 true := ⟨by kernel_rfl, by kernel_rfl, by kernel_rfl, by kernel_rfl, by kernel_rfl, by kernel_rfl, by kernel_rfl⟩
theorem g_2_9 : G21 2 9 true := ⟨by kernel_rfl, by kernel_rfl, by kernel_rfl, by kernel_rfl, by kernel_rfl, by kernel_rfl, by kernel_rfl⟩
theorem g_2_10 : G21 2 10 true := ⟨by kernel_rfl, by kernel_rfl, by kernel_rfl, by kernel_rfl, by kernel_rfl, by kernel_rfl, by kernel_rfl⟩
theorem g_3_1 : G21 3 1 true := ⟨by kernel_rfl, by kernel_rfl, by kernel_rfl, by kernel_rfl, by kernel_rfl, by kernel_rfl, by kernel_rfl⟩
theorem g_3_2 : G21 3 2 true := ⟨by kernel_rfl, by kernel_rfl, by kernel_rfl, by kernel_rfl, by kernel_rfl, by kernel_rfl, by kernel_rfl⟩
theorem g_3_3 : G21 3 3 true := ⟨by kernel_rfl, by kernel_rfl, by kernel_rfl, by kernel_rfl, by kernel_rfl, by kernel_rfl, by kernel_rfl⟩
theorem g_3_4 : G21 3 4 true := ⟨by kernel_rfl, by kernel_rfl, by kernel_rfl, by kernel_rfl, by kernel_rfl, by kernel_rfl, by kernel_rfl⟩
theorem g_3_5 : G21 3 5 true := ⟨by kernel_rfl, by kernel_rfl, by kernel_rfl, by kernel_rfl, by kernel_rfl, by kernel_rfl, by kernel_rfl⟩
theorem g_3_6 : G21 3 6 true := ⟨by kernel_rfl, by kernel_rfl, by kernel_rfl, by kernel_rfl, by kernel_rfl, by kernel_rfl, by kernel_rfl⟩
theorem g_3_7 : G21 3 7 true := ⟨by kernel_rfl, by kernel_rfl, by kernel_rfl, by kernel_rfl, by kernel_rfl, by kernel_rfl, by kernel_rfl⟩
theorem g_3_8 : G21 3 8 true := ⟨by kernel_rfl, by kernel_rfl, by kernel_rfl, by kernel_rfl, by kernel_rfl, by kernel_rfl, by kernel_rfl⟩
theorem g_3_9 : G21 3 9 true := ⟨by kernel_rfl, by kernel_rfl, by kernel_rfl, by kernel_rfl, by kernel_rfl, by kernel_rfl, by kernel_rfl⟩
theorem g_3_10 : G21 3 10 true := ⟨by kernel_rfl, by kernel_rfl, by kernel_rfl, by kernel_rfl, by kernel_rfl, by kernel_rfl, by kernel_rfl⟩
theorem g_4_1 : G21 4 1 true := ⟨by kernel_rfl, by kernel_rfl, by kernel_rfl, by kernel_rfl, by kernel_rfl, by kernel_rfl, by kernel_rfl⟩
theorem g_4_2 : G21 4 2 true := ⟨by kernel_rfl, by kernel_rfl, by kernel_rfl, by kernel_rfl, by kernel_rfl, by kernel_rfl, by kernel_rfl⟩
theorem g_4_3 : G21 4 3 true := ⟨by kernel_rfl, by kernel_rfl, by kernel_rfl, by kernel_rfl, by kernel_rfl, by kernel_rfl, by kernel_rfl⟩
theorem g_4_4 : G21 4 4 true := ⟨by kernel_rfl, by kernel_rfl, by kernel_rfl, by kernel_rfl, by kernel_rfl, by kernel_rfl, by kernel_rfl⟩
theorem g_4_5 : G21 4 5 true := ⟨by kernel_rfl, by kernel_rfl, by kernel_rfl, by kernel_rfl, by kernel_rfl, by kernel_rfl, by kernel_rfl⟩
theorem g_4_6 : G21 4 6 true := ⟨by kernel_rfl, by kernel_rfl, by kernel_rfl, by kernel_rfl, by kernel_rfl, by kernel_rfl, by kernel_rfl⟩
theorem g_4_7 : G21 4 7 true := ⟨by kernel_rfl, by kernel_rfl, by kernel_rfl, by kernel_rfl, by kernel_rfl, by kernel_rfl, by kernel_rfl⟩
theorem g_4_8 : G21 4 8 true := ⟨by kernel_rfl, by kernel_rfl, by kernel_rfl, by kernel_rfl, by kernel_rfl, by kernel_rfl, by kernel_rfl⟩
theorem g_4_9 : G21 4 9 true := ⟨by kernel_rfl, by kernel_rfl, by kernel_rfl, by kernel_rfl, by kernel_rfl, by kernel_rfl, by kernel_rfl⟩
theorem g_4_10 : G21 4 10 true := ⟨by kernel_rfl, by kernel_rfl, by kernel_rfl, by kernel_rfl, by kernel_rfl, by kernel_rfl, by kernel_rfl⟩
theorem g_5_1 : G21 5 1 true := ⟨by kernel_rfl, by kernel_rfl, by kernel_rfl, by kernel_rfl, by kernel_rfl, by kernel_rfl, by kernel_rfl⟩
theorem g_5_2 : G21 5 2 true := ⟨by kernel_rfl, by kernel_rfl, by kernel_rfl, by kernel_rfl, by kernel_rfl, by kernel_rfl, by kernel_rfl⟩
theorem g_5_3 : G21 5 3 true := ⟨by kernel_rfl, by kernel_rfl, by kernel_rfl, by kernel_rfl, by kernel_rfl, by kernel_rfl, by kernel_rfl⟩
theorem g_5_4 : G21 5 4 true := ⟨by kernel_rfl, by kernel_rfl, by kernel_rfl, by kernel_rfl, by kernel_rfl, by kernel_rfl, by kernel_rfl⟩
theorem g_5_5 : G21 5 5 true := ⟨by kernel_rfl, by kernel_rfl, by kernel_rfl, by kernel_rfl, by kernel_rfl, by kernel_rfl, by kernel_rfl⟩
theorem g_5_6 : G21 5 6 true := ⟨by kernel_rfl, by kernel_rfl, by kernel_rfl, by kernel_rfl, by kernel_rfl, by kernel_rfl, by kernel_rfl⟩
theorem g_5_7 : G21 5 7 true := ⟨by kernel_rfl, by kernel_rfl, by kernel_rfl, by kernel_rfl, by kernel_rfl, by kernel_rfl, by kernel_rfl⟩
theorem g_5_8 : G21 5 8 true := ⟨by kernel_rfl, by kernel_rfl, by kernel_rfl, by kernel_rfl, by kernel_rfl, by kernel_rfl, by kernel_rfl⟩
theorem g_5_9 : G21 5 9 true := ⟨by kernel_rfl, by kernel_rfl, by kernel_rfl, by kernel_rfl, by kernel_rfl, by kernel_rfl, by kernel_rfl⟩
theorem g_5_10 : G21 5 10 true := ⟨by kernel_rfl, by kernel_rfl, by kernel_rfl, by kernel_rfl, by kernel_rfl, by kernel_rfl, by kernel_rfl⟩
theorem g_1 {s : Int} (h : 1 ≤ s ∧ s ≤ 10) : ∃ b, G21 1 s b := by
  have : s = 1 ∨ s = 2 ∨ s = 3 ∨ s = 4 ∨ s = 5 ∨ s = 6 ∨ s = 7 ∨ s = 8 ∨ s = 9 ∨ s = 10 := by omega
  rcases this with rfl | rfl | rfl | rfl | rfl | rfl | rfl | rfl | rfl | rfl
  · exact ⟨_, g_1_1⟩
  · exact ⟨_, g_1_2⟩
  · exact ⟨_, g_1_3⟩
  · exact ⟨_, g_1_4⟩
  · exact ⟨_, g_1_5⟩
  · exact ⟨_, g_1_6⟩
  · exact ⟨_, g_1_7⟩
  · exact ⟨_, g_1_8⟩
  · exact ⟨_, g_1_9⟩
  · exact ⟨_, g_1_10⟩
theorem g_2 {s : Int} (h : 1 ≤ s ∧ s ≤ 10) : ∃ b, G21 2 s b := by
  have : s = 1 ∨ s = 2 ∨ s = 3 ∨ s = 4 ∨ s = 5 ∨ s = 6 ∨ s = 7 ∨ s = 8 ∨ s = 9 ∨ s = 10 := by omega
  rcases this with rfl | rfl | rfl | rfl | rfl | rfl | rfl | rfl | rfl | rfl
  · exact ⟨_, g_2_1⟩
  · exact ⟨_, g_2_2⟩
  · exact ⟨_, g_2_3⟩
  · exact ⟨_, g_2_4⟩
  · exact ⟨_, g_2_5⟩
  · exact ⟨_, g_2_6⟩
  · exact ⟨_, g_2_7⟩
  · exact ⟨_, g_2_8⟩
  · exact ⟨_, g_2_9⟩
  · exact ⟨_, g_2_10⟩
theorem g_3 {s : Int} (h : 1 ≤ s ∧ s ≤ 10) : ∃ b, G21 3 s b := by
  have : s = 1 ∨ s = 2 ∨ s = 3 ∨ s = 4 ∨ s = 5 ∨ s = 6 ∨ s = 7 ∨ s = 8 ∨ s = 9 ∨ s = 10 := by omega
  rcases this with rfl | rfl | rfl | rfl | rfl | rfl | rfl | rfl | rfl | rfl
  · exact ⟨_, g_3_1⟩
  · exact ⟨_, g_3_2⟩
  · exact ⟨_, g_3_3⟩
  · exact ⟨_, g_3_4⟩
  · exact ⟨_, g_3_5⟩
  · exact ⟨_, g_3_6⟩
  · exact ⟨_, g_3_7⟩
  · exact ⟨_, g_3_8⟩
  · exact ⟨_, g_3_9⟩
  · exact ⟨_, g_3_10⟩
theorem g_4 {s : Int} (h : 1 ≤ s ∧ s ≤ 10) : ∃ b, G21 4 s b := by
  have : s = 1 ∨ s = 2 ∨ s = 3 ∨ s = 4 ∨ s = 5 ∨ s = 6 ∨ s = 7 ∨ s = 8 ∨ s = 9 ∨ s = 10 := by omega
  rcases this with rfl | rfl | rfl | rfl | rfl | rfl | rfl | rfl | rfl | rfl
  · exact ⟨_, g_4_1⟩
  · exact ⟨_, g_4_2⟩
  · exact ⟨_, g_4_3⟩
  · exact ⟨_, g_4_4⟩
  · exact ⟨_, g_4_5⟩
  · exact ⟨_, g_4_6⟩
  · exact ⟨_, g_4_7⟩
  · exact ⟨_, g_4_8⟩
  · exact ⟨_, g_4_9⟩
  · exact ⟨_, g_4_10⟩
theorem g_5 {s : Int} (h : 1 ≤ s ∧ s ≤ 10) : ∃ b, G21 5 s b := by
  have : s = 1 ∨ s = 2 ∨ s = 3 ∨ s = 4 ∨ s = 5 ∨ s = 6 ∨ s = 7 ∨ s = 8 ∨ s = 9 ∨ s = 10 := by omega
  rcases this with rfl | rfl | rfl | rfl | rfl | rfl | rfl | rfl | rfl | rfl
  · exact ⟨_, g_5_1⟩
  · exact ⟨_, g_5_2⟩
  · exact ⟨_, g_5_3⟩
  · exact ⟨_, g_5_4⟩
  · exact ⟨_, g_5_5⟩
  · exact ⟨_, g_5_6⟩
  · exact ⟨_, g_5_7⟩
  · exact ⟨_, g_5_8⟩
  · exact ⟨_, g_5_9⟩
  · exact ⟨_, g_5_10⟩
theorem g_all {m s : Int} (hm : 1 ≤ m ∧ m ≤ 5) (h : 1 ≤ s ∧ s ≤ 10) : ∃ b, G21 m s b := by
  have : m = 1 ∨ m = 2 ∨ m = 3 ∨ m = 4 ∨ m = 5 := by omega
  rcases this with rfl | rfl | rfl | rfl | rfl
  · exact g_1 h
  · exact g_2 h
  · exact g_3 h
  · exact g_4 h
  · exact g_5 h
theorem told_ok {m : Int} (hm : 1 ≤ m ∧ m ≤ 5) : F__law_first_told [.int m] = some (.bool true) := by
  have : m = 1 ∨ m = 2 ∨ m = 3 ∨ m = 4 ∨ m = 5 := by omega
  rcases this with rfl | rfl | rfl | rfl | rfl <;> kernel_rfl
theorem l1 : F__law_one_desk [] = some (.bool true) := by kernel_rfl
theorem l2 : F__law_barred [] = some (.bool true) := by kernel_rfl
theorem l3 : F__law_orders_told [] = some (.bool true) := by kernel_rfl
theorem l4 : F__law_two_taken [] = some (.bool true) := by kernel_rfl
end Dn
set_option maxHeartbeats 1000000
namespace Dn
open PySem PySem.Spec PyProof.Rows L2
theorem ev_par21 {i j : Nat} {m : Mo (List D)} {env e1 e2 : DEnv} {a b : D} (h : m env = some ([a, b], e1)) (h2 : (e1.set i (some (.fz a))).set j (some (.fz b)) = e2) : sPar i j m env = some (.nx e2) := by
  unfold sPar
  rw [h]
  simp only [h2]
theorem forOwn_all21 {i : Nat} {body : So} (I : DEnv → Prop) : ∀ (ds : List D) (e : DEnv), I e → (∀ d e, d ∈ ds → I e → ∃ e2, body (e.set i (some (SV.ow false 0 d))) = some (.nx e2) ∧ I e2) → ∃ e', forOwnGo i body ds e = some (.nx e') ∧ I e'
  | [], e, h, _ => ⟨e, rfl, h⟩
  | d :: ds, e, h, hs => by
    obtain ⟨e2, h1, h2⟩ := hs d e (by simp) h
    obtain ⟨e', h3, h4⟩ := forOwn_all21 I ds e2 h2 fun d e hd => hs d e (by simp [hd])
    exact ⟨e', by simp only [forOwnGo, h1, h3], h4⟩
theorem bag21 {s bag : D} (hb : Bag 5000 bag) (j2 j3 j4 j5 : Option SV) :
    ∃ e, L_law_1 [some (SV.fz s), some (SV.ow false 0 bag), j2, j3, j4, j5] = some (.nx e) ∧ ∃ a1 a2 a3 a4 a5, e = [some (SV.fz s), a1, a2, a3, a4, a5] := by
  obtain ⟨v1, b1, t1, v10, v11, hb1⟩ := take_ok hb (by decide) (m := 5) (by decide) (small_nat (by decide) (by decide))
  obtain ⟨v2, b2, t2, v20, v21, hb2⟩ := take_ok hb1 (by decide) (m := 10) (by decide) (small_nat (by decide) (by decide))
  obtain ⟨v3, b3, t3, v30, v31, hb3⟩ := take_ok hb2 (by decide) (m := 5) (by decide) (small_nat (by decide) (by decide))
  have ht := told_ok (m := 1 + v1) (by omega)
  obtain ⟨mv, hmv⟩ : ∃ x, 1 + v3 = x := ⟨_, rfl⟩
  obtain ⟨sv, hsv⟩ : ∃ x, 1 + v2 = x := ⟨_, rfl⟩
  obtain ⟨b, gt, best, many, next, n1, n2, n3⟩ := g_all (m := mv) (s := sv) (by omega) (by omega)
  have A1 : gAdd (.int 1) (.int v1) = some (.int (1 + v1)) := rfl
  have A2 : gAdd (.int 1) (.int v2) = some (.int sv) := by rw [← hsv]; rfl
  have A3 : gAdd (.int 1) (.int v3) = some (.int mv) := by rw [← hmv]; rfl
  have hh : gTup [.tuple [.tuple [.int mv, .int sv]], .tuple [.tuple [.int 0]]] = some (hallD mv sv) := rfl
  obtain ⟨hD, hhD⟩ : ∃ x, hallD mv sv = x := ⟨_, rfl⟩
  rw [hhD] at best many next hh
  have hd : mIf (mMap gB (mBin gGt (mVar 3) (mRet (.int 1)))) (mMap gTup (mCons (mRet (.int 0)) (mCons (mRet (.int 0)) (mCons (mRet (.int 1)) (mRet []))))) (mRet .none) [some (SV.fz s), some (SV.ow false 0 b3), some (SV.fz (.int sv)), some (SV.fz (.int mv)), some (SV.fz hD), j5] = some (dueD b, [some (SV.fz s), some (SV.ow false 0 b3), some (SV.fz (.int sv)), some (SV.fz (.int mv)), some (SV.fz hD), j5]) := by
    clear t1 t2 t3 ht best many next n1 n2 n3
    cases b
    · show _ = some (PyData.none, _)
      sizeOf_list_dec
    · show _ = some (PyData.tuple [.int 0, .int 0, .int 1], _)
      sizeOf_list_dec
  obtain ⟨dD, hdD⟩ : ∃ x, dueD b = x := ⟨_, rfl⟩
  rw [hdD] at best n1 hd
  have hnx : gLst [.tuple [.tuple [.none], .int 1], .tuple [.tuple [.int 0], .int mv]] = some (nextD mv) := rfl
  obtain ⟨nD', hnD⟩ : ∃ x, nextD mv = x := ⟨_, rfl⟩
  rw [hnD] at next n3 hnx
  refine ⟨[some (SV.fz s), some (SV.ow false 0 b3), some (SV.fz (.int sv)), some (SV.fz (.int mv)), some (SV.fz hD), some (SV.fz dD)], ?_, _, _, _, _, _, rfl⟩
  clear hhD hdD hnD hmv hsv hb hb1 hb2 hb3
  have P1 : (sIf (mNot (mMap gTru (mMap (lenIs 1 F__law_first_told) (mCons (mBin gAdd (mRet (.int 1)) (mCallIO [some 0, none] F__law_take (mIo 1 (mCons (mMap (fun d => some (AR.fz d)) (mRet (.int 5))) (mRet []))))) (mRet []))))) (sSeq (sRet (mRet (.bool false)))
    sNil) sNil) [some (SV.fz s), some (SV.ow false 0 bag), j2, j3, j4, j5] = some (.nx [some (SV.fz s), some (SV.ow false 0 b1), j2, j3, j4, j5]) := by
    clear t2 t3 best many next n1 n2 n3 hd hnx hh
    sizeOf_list_dec
  have M2 : (mCons (mBin gAdd (mRet (.int 1)) (mCallIO [some 0, none] F__law_take (mIo 1 (mCons (mMap (fun d => some (AR.fz d)) (mRet (.int 10))) (mRet []))))) (mCons (mBin gAdd (mRet (.int 1)) (mCallIO [some 0, none] F__law_take (mIo 1 (mCons (mMap (fun d => some (AR.fz d)) (mRet (.int 5))) (mRet []))))) (mRet []))) [some (SV.fz s), some (SV.ow false 0 b1), j2, j3, j4, j5] = some ([.int sv, .int mv], [some (SV.fz s), some (SV.ow false 0 b3), j2, j3, j4, j5]) := by
    clear t1 ht best many next n1 n2 n3 hd hnx hh P1
    sizeOf_list_dec
  have P2 := ev_par21 (i := 2) (j := 3) (e2 := [some (SV.fz s), some (SV.ow false 0 b3), some (SV.fz (.int sv)), some (SV.fz (.int mv)), j4, j5]) M2 rfl
  have P3 : (sSet 4 (mMap gTup (mCons (mMap gTup (mCons (mMap gTup (mCons (mVar 3) (mCons (mVar 2) (mRet [])))) (mRet []))) (mCons (mMap gTup (mCons (mMap gTup (mCons (mRet (.int 0)) (mRet []))) (mRet []))) (mRet []))))) [some (SV.fz s), some (SV.ow false 0 b3), some (SV.fz (.int sv)), some (SV.fz (.int mv)), j4, j5] = some (.nx [some (SV.fz s), some (SV.ow false 0 b3), some (SV.fz (.int sv)), some (SV.fz (.int mv)), some (SV.fz hD), j5]) := by
    clear t1 t2 t3 ht best many next n1 n2 n3 hd hnx P1 P2 M2
    sizeOf_list_dec
  have P4 := sSet_ev (i := 5) hd
  have P5 : (sIf (mOr (mMap gB (mBin gNe (mMap (lenIs 3 F_best_look) (mCons (mVar 4) (mCons (mMap gTup (mCons (mMap gTup (mCons (mRet (.int 0)) (mRet []))) (mRet []))) (mCons (mMap gTup (mRet [])) (mRet []))))) (mVar 5))) (mMap gB (mBin gNe (mMap (lenIs 3 F_how_many) (mCons (mVar 4) (mCons (mMap gTup (mCons (mMap gTup (mCons (mRet (.int 0)) (mRet []))) (mRet []))) (mCons (mMap gTup (mRet [])) (mRet []))))) (mVar 3)))) (sSeq (sRet (mRet (.bool false)))
    sNil) sNil) [some (SV.fz s), some (SV.ow false 0 b3), some (SV.fz (.int sv)), some (SV.fz (.int mv)), some (SV.fz hD), some (SV.fz dD)] = some (.nx [some (SV.fz s), some (SV.ow false 0 b3), some (SV.fz (.int sv)), some (SV.fz (.int mv)), some (SV.fz hD), some (SV.fz dD)]) := by
    clear t1 t2 t3 ht next n3 hd hnx hh P1 P2 M2 P3 P4
    sizeOf_list_dec
  have P6 : (sIf (mMap gB (mBin gNe (mMap (lenIs 3 F_nexts) (mCons (mVar 4) (mCons (mMap gTup (mCons (mMap gTup (mCons (mRet .none) (mRet []))) (mRet []))) (mCons (mMap gTup (mRet [])) (mRet []))))) (mMap gLst (mCons (mMap gTup (mCons (mMap gTup (mCons (mRet .none) (mRet []))) (mCons (mRet (.int 1)) (mRet [])))) (mCons (mMap gTup (mCons (mMap gTup (mCons (mRet (.int 0)) (mRet []))) (mCons (mVar 3) (mRet [])))) (mRet [])))))) (sSeq (sRet (mRet (.bool false)))
    sNil) sNil) [some (SV.fz s), some (SV.ow false 0 b3), some (SV.fz (.int sv)), some (SV.fz (.int mv)), some (SV.fz hD), some (SV.fz dD)] = some (.nx [some (SV.fz s), some (SV.ow false 0 b3), some (SV.fz (.int sv)), some (SV.fz (.int mv)), some (SV.fz hD), some (SV.fz dD)]) := by
    clear t1 t2 t3 ht best many n1 n2 hd hh P1 P2 M2 P3 P4 P5
    sizeOf_list_dec
  exact (sSeq_nx P1).trans ((sSeq_nx P2).trans ((sSeq_nx P3).trans ((sSeq_nx P4).trans ((sSeq_nx P5).trans ((sSeq_nx P6).trans rfl)))))
theorem law_true (ns : List Int) : F_law [.dict [(.none, .list (ns.map PyData.int))]] = some (.bool true) := by
  obtain ⟨bs, hbs, hall⟩ := bags_ok (mo := 4) (by decide) ns
  obtain ⟨sD, hsD⟩ : ∃ sD, sD = PyData.dict [(.none, .list (ns.map PyData.int))] := ⟨_, rfl⟩
  rw [← hsD]
  have hbs' : F__law_bags [sD, .int 4] = some (.list bs) := by rw [hsD]; exact hbs
  obtain ⟨e', hg, a1, a2, a3, a4, a5, he⟩ := forOwn_all21 (i := 1) (body := L_law_1) (fun e => ∃ a1 a2 a3 a4 a5, e = [some (SV.fz sD), a1, a2, a3, a4, a5]) bs [some (SV.fz sD), none, none, none, none, none] ⟨_, _, _, _, _, rfl⟩ (fun b e hb ⟨a1, a2, a3, a4, a5, he⟩ => by
    subst he
    exact bag21 (hall b hb) a2 a3 a4 a5)
  subst he
  have hfor : sForOwn 1 (mMap (lenIs 2 F__law_bags) (mCons (mVar 0) (mCons (mRet (.int 4)) (mRet [])))) L_law_1 [some (SV.fz sD), none, none, none, none, none] = some (.nx [some (SV.fz sD), a1, a2, a3, a4, a5]) := by
    unfold sForOwn
    have : mMap (lenIs 2 F__law_bags) (mCons (mVar 0) (mCons (mRet (.int 4)) (mRet []))) [some (SV.fz sD), none, none, none, none, none] = some (.list bs, [some (SV.fz sD), none, none, none, none, none]) := by
      sizeOf_list_dec
    simp only [this, hg]
  have c0 : ∀ (F : List D → Option D) (e : DEnv), F [] = some (.bool true) → mMap (lenIs 0 F) (mRet []) e = some (.bool true, e) := fun F e h => by
    have this : lenIs 0 F [] = some (.bool true) := by unfold lenIs; exact (if_pos rfl).trans h
    exact mMap_ev (x := []) rfl this
  have d1 := c0 _ [some (SV.fz sD), a1, a2, a3, a4, a5] l1
  have d2 := c0 _ [some (SV.fz sD), a1, a2, a3, a4, a5] l2
  have d3 := c0 _ [some (SV.fz sD), a1, a2, a3, a4, a5] l3
  have d4 := c0 _ [some (SV.fz sD), a1, a2, a3, a4, a5] l4
  unfold F_law
  rw [show envOf ["script", "bag", "stay", "many", "hall", "due"] [sD] = [some (SV.fz sD), none, none, none, none, none] from rfl]
  apply ev_outF
  unfold B_law
  sizeOf_list_dec
end Dn
set_option maxHeartbeats 0
namespace Dn
open PySem PySem.Spec PyProof.Rows L2
def spLaw : Sp := spF 1 F_law
theorem lk_mem : ∀ {K : List (Addr × Obj)} {a : Addr} {o : Obj}, K.lookup a = some o → (a, o) ∈ K
  | [], _, _, h => by cases h
  | (b, x) :: K, a, o, h => by
    rw [List.lookup_cons] at h
    by_cases hb : (a == b) = true
    · rw [hb] at h
      cases h
      have : a = b := by simpa using hb
      rw [this]
      exact List.mem_cons_self
    · have hb' : (a == b) = false := by simpa using hb
      rw [hb'] at h
      exact List.mem_cons_of_mem _ (lk_mem h)
theorem noLst_ok {K : PySem.W.Frag} (h : noLst K = true) {a : Addr} {o : Obj} (hk : K.lookup a = some o) : ¬ o.cls = .type "list" := by
  intro hc
  have := List.all_eq_true.mp h _ (lk_mem hk)
  simp [hc] at this
theorem rpInts {H : Hp} {a : Addr} {ns : List Int} (h : H a = some (.lst (ns.map V.int))) : Rp H (.ref a) (.list (ns.map PyData.int)) := .lst h (RpAll.ofInts ns)
end Dn
open PySem PySem.W PySem.Calls PyProof.Rows
theorem PySem.Challenge.cw_hallback_k21_halls_written_by_hand_holds : PySem.Challenge.rw_hallback_k21_halls_written_by_hand.Holds := by
  w_on; o_law
  refine HandSHeadRun.head_imp (r := OpenLaw.row PySem.Challenge.rw_hallback_k21_halls_written_by_hand) (q := view (OpenLaw.row PySem.Challenge.rw_hallback_k21_halls_written_by_hand).prog [0, 121]) (H := Dn.hk) (ob := Dn.ob) (M := 6000) (loose := Dn.looseN) (d := HandSHeadRun.topDef (OpenLaw.row PySem.Challenge.rw_hallback_k21_halls_written_by_hand).prog 121) (kwd := []) Dn.ob_eq
    Dn.run (by kernel_rfl) (by kernel_rfl) (by kernel_rfl) (by rfl) (by first | assumption | decide +kernel) (by decide +kernel) ⟨rfl, rfl, rfl, rfl, rfl, by decide +kernel⟩ ?hw ?hc
  case hw => w_witness2
  case hc =>
    refine L2.walk_ofE (l := PySem.Challenge.rw_hallback_k21_halls_written_by_hand) (n := 63) (k := 20) (x := "script") (CX := L2.CX0) rfl (by decide) (by kernel_rfl) ⟨rfl, by decide, by decide⟩ ?F (fun _ _ _ _ z => z)
    intro w mg fa h Y G hmg0
    obtain ⟨K, KX, c, ca⟩ := Y
    have hmg : mg ("law" : PySem.Str) = some (.ref fa) := by
      have e : (HandSHeadRun.topDef (OpenLaw.row PySem.Challenge.rw_hallback_k21_halls_written_by_hand).prog 121).name = ("law" : PySem.Str) := by kernel_rfl
      rw [← e]
      exact hmg0
    have all := Dn.all_ok (P := (PySem.Challenge.rw_hallback_k21_halls_written_by_hand).prog) (w := w) KX G c ca
    obtain ⟨f, fd, h1, h2, h3⟩ := all
    rw [h1] at hmg
    cases hmg
    refine ⟨K, fd, Dn.spLaw, KX, h2, fun H a ns hl hO hS => ?_, fun base _ _ => h3 base⟩
    rcases hS with (hS | ⟨o, hS⟩) | ⟨o, its, n, hk, hc, _⟩
    · rcases hO a with e | ⟨o, xs, e⟩ <;> (rw [e] at hS; cases hS)
    · refine ⟨H, [.dict [(.none, .list (ns.map PyData.int))]], _, fun _ _ e => e, .cons (.scr hS (Dn.RpAll.ofInts ns)) .nil, rfl, Dn.law_true ns, fun v G' H' _ r => ?_⟩
      exact r.inv_bl
    · exact absurd hc (Dn.noLst_ok (Bool.and_eq_true_iff.mp (Bool.and_eq_true_iff.mp ca).1).1 hk)
