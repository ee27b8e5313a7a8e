import PyProof.Rows.All
import Wide.All
import OpenK.AllK
import Wide.FinOn
import PyProof.EqAt
import PyProof.EqKinds
import PyProof.TupleCall
import HandS.ForMost
import HandS.ForExc
import HandS.TryMany
import HandS.Sort
import HandS.SortRule
import HandS.IsInst
import HandS.ExcIs
import HandS.Evl
import HandS.Walk
import HandS.Strs
import HandS.SetFor
import HandS.RevRange
import HandS.Conv
import HandS.Style
import HandS.Zip
import HandS.TupAny
import HandS.Iter
import PyProof.Rows.MatchSeqLen
import PySem.Challenge.RW_tilldrawer_k09_whole_day
set_option Elab.async false
set_option linter.all false
set_option maxRecDepth 100000
set_option maxHeartbeats 4000000
namespace K09
open PySem PySem.Spec PyProof.Rows L2
def topS (i : Nat) : Stmt := PySem.Challenge.pw_tilldrawer_k09_whole_day.main.body.getD i (.Pass ⟨0, 0, 0, 0⟩)
abbrev s_check_value : Stmt := topS 16
abbrev N_check_value : List Str := ["value"]
abbrev P_check_value : List Str := ["value"]
theorem sc_check_value : FnScope N_check_value P_check_value (defScope s_check_value) := ⟨rfl, rfl, rfl, by decide +kernel, rfl, by decide +kernel, by decide +kernel⟩
abbrev s_check_count : Stmt := topS 17
abbrev N_check_count : List Str := ["count"]
abbrev P_check_count : List Str := ["count"]
theorem sc_check_count : FnScope N_check_count P_check_count (defScope s_check_count) := ⟨rfl, rfl, rfl, by decide +kernel, rfl, by decide +kernel, by decide +kernel⟩
abbrev s_count_of : Stmt := topS 18
abbrev N_count_of : List Str := ["till", "value", "held", "count"]
abbrev P_count_of : List Str := ["till", "value"]
theorem sc_count_of : FnScope N_count_of P_count_of (defScope s_count_of) := ⟨rfl, rfl, rfl, by decide +kernel, rfl, by decide +kernel, by decide +kernel⟩
abbrev s_check_sum : Stmt := topS 21
abbrev N_check_sum : List Str := ["due"]
abbrev P_check_sum : List Str := ["due"]
theorem sc_check_sum : FnScope N_check_sum P_check_sum (defScope s_check_sum) := ⟨rfl, rfl, rfl, by decide +kernel, rfl, by decide +kernel, by decide +kernel⟩
abbrev s_table : Stmt := topS 22
abbrev N_table : List Str := ["till", "most", "row", "rows", "value", "count"]
abbrev P_table : List Str := ["till", "most"]
theorem sc_table : FnScope N_table P_table (defScope s_table) := ⟨rfl, rfl, rfl, by decide +kernel, rfl, by decide +kernel, by decide +kernel⟩
abbrev s_fewest : Stmt := topS 23
abbrev N_fewest : List Str := ["till", "due", "rows", "change", "left", "at", "value", "count", "given"]
abbrev P_fewest : List Str := ["till", "due"]
theorem sc_fewest : FnScope N_fewest P_fewest (defScope s_fewest) := ⟨rfl, rfl, rfl, by decide +kernel, rfl, by decide +kernel, by decide +kernel⟩
abbrev s_with_kind : Stmt := topS 24
abbrev N_with_kind : List Str := ["row", "value", "count", "out", "usable", "size"]
abbrev P_with_kind : List Str := ["row", "value", "count"]
theorem sc_with_kind : FnScope N_with_kind P_with_kind (defScope s_with_kind) := ⟨rfl, rfl, rfl, by decide +kernel, rfl, by decide +kernel, by decide +kernel⟩
abbrev s__bundles : Stmt := topS 25
abbrev N__bundles : List Str := ["count", "sizes", "size", "taken"]
abbrev P__bundles : List Str := ["count"]
theorem sc__bundles : FnScope N__bundles P__bundles (defScope s__bundles) := ⟨rfl, rfl, rfl, by decide +kernel, rfl, by decide +kernel, by decide +kernel⟩
abbrev s__with_bundle : Stmt := topS 26
abbrev N__with_bundle : List Str := ["row", "value", "size", "out", "due", "rest"]
abbrev P__with_bundle : List Str := ["row", "value", "size"]
theorem sc__with_bundle : FnScope N__with_bundle P__with_bundle (defScope s__with_bundle) := ⟨rfl, rfl, rfl, by decide +kernel, rfl, by decide +kernel, by decide +kernel⟩
abbrev s__most_given : Stmt := topS 27
abbrev N__most_given : List Str := ["row", "due", "least", "value", "count", "given"]
abbrev P__most_given : List Str := ["row", "due", "least", "value", "count"]
theorem sc__most_given : FnScope N__most_given P__most_given (defScope s__most_given) := ⟨rfl, rfl, rfl, by decide +kernel, rfl, by decide +kernel, by decide +kernel⟩
abbrev s_paid : Stmt := topS 30
abbrev N_paid : List Str := ["till", "price", "values", "filled", "value", "over", "change", "given", "behind", "count"]
abbrev P_paid : List Str := ["till", "price", "values"]
theorem sc_paid : FnScope N_paid P_paid (defScope s_paid) := ⟨rfl, rfl, rfl, by decide +kernel, rfl, by decide +kernel, by decide +kernel⟩
abbrev s_brought : Stmt := topS 31
abbrev N_brought : List Str := ["till", "value", "count", "lies"]
abbrev P_brought : List Str := ["till", "value", "count"]
theorem sc_brought : FnScope N_brought P_brought (defScope s_brought) := ⟨rfl, rfl, rfl, by decide +kernel, rfl, by decide +kernel, by decide +kernel⟩
abbrev s_fetched : Stmt := topS 32
abbrev N_fetched : List Str := ["till", "value", "count", "lies"]
abbrev P_fetched : List Str := ["till", "value", "count"]
theorem sc_fetched : FnScope N_fetched P_fetched (defScope s_fetched) := ⟨rfl, rfl, rfl, by decide +kernel, rfl, by decide +kernel, by decide +kernel⟩
abbrev s_kind_in : Stmt := topS 33
abbrev N_kind_in : List Str := ["till", "value", "held", "_"]
abbrev P_kind_in : List Str := ["till", "value"]
theorem sc_kind_in : FnScope N_kind_in P_kind_in (defScope s_kind_in) := ⟨rfl, rfl, rfl, by decide +kernel, rfl, by decide +kernel, by decide +kernel⟩
abbrev s_kind_out : Stmt := topS 34
abbrev N_kind_out : List Str := ["till", "value", "held", "count"]
abbrev P_kind_out : List Str := ["till", "value"]
theorem sc_kind_out : FnScope N_kind_out P_kind_out (defScope s_kind_out) := ⟨rfl, rfl, rfl, by decide +kernel, rfl, by decide +kernel, by decide +kernel⟩
abbrev s__with_count : Stmt := topS 35
abbrev N__with_count : List Str := ["till", "value", "count", "held", "lies"]
abbrev P__with_count : List Str := ["till", "value", "count"]
theorem sc__with_count : FnScope N__with_count P__with_count (defScope s__with_count) := ⟨rfl, rfl, rfl, by decide +kernel, rfl, by decide +kernel, by decide +kernel⟩
abbrev s_day : Stmt := topS 37
abbrev N_day : List Str := ["till", "deeds", "behind", "answers", "deed", "answer"]
abbrev P_day : List Str := ["till", "deeds"]
theorem sc_day : FnScope N_day P_day (defScope s_day) := ⟨rfl, rfl, rfl, by decide +kernel, rfl, by decide +kernel, by decide +kernel⟩
abbrev s__answered : Stmt := topS 38
abbrev N__answered : List Str := ["till", "deed", "behind", "change", "word"]
abbrev P__answered : List Str := ["till", "deed"]
theorem sc__answered : FnScope N__answered P__answered (defScope s__answered) := ⟨rfl, rfl, rfl, by decide +kernel, rfl, by decide +kernel, by decide +kernel⟩
abbrev s__done : Stmt := topS 39
abbrev N__done : List Str := ["till", "deed", "price", "values", "value", "count"]
abbrev P__done : List Str := ["till", "deed"]
theorem sc__done : FnScope N__done P__done (defScope s__done) := ⟨rfl, rfl, rfl, by decide +kernel, rfl, by decide +kernel, by decide +kernel⟩
abbrev s__law_cell_at : Stmt := topS 41
abbrev N__law_cell_at : List Str := ["_law_script", "_law_k"]
abbrev P__law_cell_at : List Str := ["_law_script", "_law_k"]
theorem sc__law_cell_at : FnScope N__law_cell_at P__law_cell_at (defScope s__law_cell_at) := ⟨rfl, rfl, rfl, by decide +kernel, rfl, by decide +kernel, by decide +kernel⟩
abbrev s__law_whole : Stmt := topS 42
abbrev N__law_whole : List Str := ["_law_found"]
abbrev P__law_whole : List Str := ["_law_found"]
theorem sc__law_whole : FnScope N__law_whole P__law_whole (defScope s__law_whole) := ⟨rfl, rfl, rfl, by decide +kernel, rfl, by decide +kernel, by decide +kernel⟩
abbrev s__law_mixed : Stmt := topS 43
abbrev N__law_mixed : List Str := ["_law_cell", "_law_k"]
abbrev P__law_mixed : List Str := ["_law_cell", "_law_k"]
theorem sc__law_mixed : FnScope N__law_mixed P__law_mixed (defScope s__law_mixed) := ⟨rfl, rfl, rfl, by decide +kernel, rfl, by decide +kernel, by decide +kernel⟩
abbrev s__law_value : Stmt := topS 44
abbrev N__law_value : List Str := ["_law_cell", "_law_k", "_law_drawn"]
abbrev P__law_value : List Str := ["_law_cell", "_law_k"]
theorem sc__law_value : FnScope N__law_value P__law_value (defScope s__law_value) := ⟨rfl, rfl, rfl, by decide +kernel, rfl, by decide +kernel, by decide +kernel⟩
abbrev s__law_count : Stmt := topS 45
abbrev N__law_count : List Str := ["_law_cell", "_law_k", "_law_drawn"]
abbrev P__law_count : List Str := ["_law_cell", "_law_k"]
theorem sc__law_count : FnScope N__law_count P__law_count (defScope s__law_count) := ⟨rfl, rfl, rfl, by decide +kernel, rfl, by decide +kernel, by decide +kernel⟩
abbrev s__law_pairs : Stmt := topS 46
abbrev N__law_pairs : List Str := ["_law_script", "_law_cell", "_law_many", "_law_found", "_law_seen", "_law_k", "_law_value_here"]
abbrev P__law_pairs : List Str := ["_law_script"]
theorem sc__law_pairs : FnScope N__law_pairs P__law_pairs (defScope s__law_pairs) := ⟨rfl, rfl, rfl, by decide +kernel, rfl, by decide +kernel, by decide +kernel⟩
abbrev s__law_alike : Stmt := topS 47
abbrev N__law_alike : List Str := ["_law_found", "_law_due", "_law_pair"]
abbrev P__law_alike : List Str := ["_law_found", "_law_due"]
theorem sc__law_alike : FnScope N__law_alike P__law_alike (defScope s__law_alike) := ⟨rfl, rfl, rfl, by decide +kernel, rfl, by decide +kernel, by decide +kernel⟩
abbrev s__law_least : Stmt := topS 48
abbrev N__law_least : List Str := ["_law_ahead", "_law_at", "_law_value_here", "_law_count_here", "_law_found", "_law_many", "_law_few"]
abbrev P__law_least : List Str := ["_law_ahead", "_law_at", "_law_value_here", "_law_count_here"]
theorem sc__law_least : FnScope N__law_least P__law_least (defScope s__law_least) := ⟨rfl, rfl, rfl, by decide +kernel, rfl, by decide +kernel, by decide +kernel⟩
abbrev s__law_row : Stmt := topS 49
abbrev N__law_row : List Str := ["_law_row_here", "_law_size", "_law_few"]
abbrev P__law_row : List Str := ["_law_row_here", "_law_size"]
theorem sc__law_row : FnScope N__law_row P__law_row (defScope s__law_row) := ⟨rfl, rfl, rfl, by decide +kernel, rfl, by decide +kernel, by decide +kernel⟩
abbrev s__law_walked : Stmt := topS 50
abbrev N__law_walked : List Str := ["_law_rows", "_law_till", "_law_most", "_law_k", "_law_at"]
abbrev P__law_walked : List Str := ["_law_rows", "_law_till", "_law_most"]
theorem sc__law_walked : FnScope N__law_walked P__law_walked (defScope s__law_walked) := ⟨rfl, rfl, rfl, by decide +kernel, rfl, by decide +kernel, by decide +kernel⟩
abbrev s__law_change : Stmt := topS 51
abbrev N__law_change : List Str := ["_law_found", "_law_till", "_law_due", "_law_left", "_law_many", "_law_last", "_law_pair", "_law_there", "_law_one"]
abbrev P__law_change : List Str := ["_law_found", "_law_till", "_law_due"]
theorem sc__law_change : FnScope N__law_change P__law_change (defScope s__law_change) := ⟨rfl, rfl, rfl, by decide +kernel, rfl, by decide +kernel, by decide +kernel⟩
abbrev s__law_known : Stmt := topS 52
abbrev N__law_known : List Str := ["_law_values", "_law_drawn", "_law_strange"]
abbrev P__law_known : List Str := ["_law_values", "_law_drawn"]
theorem sc__law_known : FnScope N__law_known P__law_known (defScope s__law_known) := ⟨rfl, rfl, rfl, by decide +kernel, rfl, by decide +kernel, by decide +kernel⟩
abbrev s__law_deed : Stmt := topS 53
abbrev N__law_deed : List Str := ["_law_cell", "_law_values", "_law_k", "_law_drawn", "_law_value_here", "_law_count_here", "_law_which", "_law_given", "_law_many", "_law_turn", "_law_near", "_law_far", "_law_beyond", "_law_price"]
abbrev P__law_deed : List Str := ["_law_cell", "_law_values", "_law_k"]
theorem sc__law_deed : FnScope N__law_deed P__law_deed (defScope s__law_deed) := ⟨rfl, rfl, rfl, by decide +kernel, rfl, by decide +kernel, by decide +kernel⟩
abbrev s__law_moved : Stmt := topS 54
abbrev N__law_moved : List Str := ["_law_held", "_law_deed_here", "_law_value_here", "_law_count_here"]
abbrev P__law_moved : List Str := ["_law_held", "_law_deed_here"]
theorem sc__law_moved : FnScope N__law_moved P__law_moved (defScope s__law_moved) := ⟨rfl, rfl, rfl, by decide +kernel, rfl, by decide +kernel, by decide +kernel⟩
abbrev s__law_kind : Stmt := topS 55
abbrev N__law_kind : List Str := ["_law_held", "_law_deed_here", "_law_value_here"]
abbrev P__law_kind : List Str := ["_law_held", "_law_deed_here"]
theorem sc__law_kind : FnScope N__law_kind P__law_kind (defScope s__law_kind) := ⟨rfl, rfl, rfl, by decide +kernel, rfl, by decide +kernel, by decide +kernel⟩
abbrev s__law_unpaid : Stmt := topS 56
abbrev N__law_unpaid : List Str := ["_law_held", "_law_deed_here", "_law_k", "_law_value_here"]
abbrev P__law_unpaid : List Str := ["_law_held", "_law_deed_here"]
theorem sc__law_unpaid : FnScope N__law_unpaid P__law_unpaid (defScope s__law_unpaid) := ⟨rfl, rfl, rfl, by decide +kernel, rfl, by decide +kernel, by decide +kernel⟩
abbrev s__law_exact : Stmt := topS 57
abbrev N__law_exact : List Str := ["_law_rows", "_law_till", "_law_due", "_law_found", "_law_at", "_law_k", "_law_value_here", "_law_few", "_law_many"]
abbrev P__law_exact : List Str := ["_law_rows", "_law_till", "_law_due"]
theorem sc__law_exact : FnScope N__law_exact P__law_exact (defScope s__law_exact) := ⟨rfl, rfl, rfl, by decide +kernel, rfl, by decide +kernel, by decide +kernel⟩
abbrev s__law_paid : Stmt := topS 58
abbrev N__law_paid : List Str := ["_law_held", "_law_deed_here", "_law_answer", "_law_word", "_law_due", "_law_full", "_law_rows", "_law_pair", "_law_value_here", "_law_one"]
abbrev P__law_paid : List Str := ["_law_held", "_law_deed_here", "_law_answer"]
theorem sc__law_paid : FnScope N__law_paid P__law_paid (defScope s__law_paid) := ⟨rfl, rfl, rfl, by decide +kernel, rfl, by decide +kernel, by decide +kernel⟩
abbrev s__law_right : Stmt := topS 59
abbrev N__law_right : List Str := ["_law_held", "_law_deed_here", "_law_answer", "_law_word"]
abbrev P__law_right : List Str := ["_law_held", "_law_deed_here", "_law_answer"]
theorem sc__law_right : FnScope N__law_right P__law_right (defScope s__law_right) := ⟨rfl, rfl, rfl, by decide +kernel, rfl, by decide +kernel, by decide +kernel⟩
abbrev s__law_copies : Stmt := topS 60
abbrev N__law_copies : List Str := ["_law_deeds", "_law_found", "_law_deed_here"]
abbrev P__law_copies : List Str := ["_law_deeds"]
theorem sc__law_copies : FnScope N__law_copies P__law_copies (defScope s__law_copies) := ⟨rfl, rfl, rfl, by decide +kernel, rfl, by decide +kernel, by decide +kernel⟩
abbrev s__law_again : Stmt := topS 61
abbrev N__law_again : List Str := ["_law_first", "_law_handed", "_law_found", "_law_due", "_law_kept", "_law_k", "_law_again_here", "_law_answer"]
abbrev P__law_again : List Str := ["_law_first", "_law_handed", "_law_found", "_law_due"]
theorem sc__law_again : FnScope N__law_again P__law_again (defScope s__law_again) := ⟨rfl, rfl, rfl, by decide +kernel, rfl, by decide +kernel, by decide +kernel⟩
abbrev s_law : Stmt := topS 62
abbrev N_law : List Str := ["_law_script", "_law_till", "_law_held", "_law_pair", "_law_deeds", "_law_values", "_law_k", "_law_cell", "_law_handed", "_law_first", "_law_found", "_law_deed_here", "_law_answer", "_law_kept", "_law_half", "_law_begin", "_law_again_here", "_law_due", "_law_value_here"]
abbrev P_law : List Str := ["_law_script"]
theorem sc_law : FnScope N_law P_law (defScope s_law) := ⟨rfl, rfl, rfl, by decide +kernel, rfl, by decide +kernel, by decide +kernel⟩
/-- what the top has written -/
structure Tx (K : PySem.W.Frag) (mg : Str → Option Value) : Type where
  c_TillError : Addr
  c_NoTill : Addr
  c_NoKind : Addr
  c_Twice : Addr
  c_NoCount : Addr
  c_NoSum : Addr
  c_TooLittle : Addr
  c_NoChange : Addr
  c_TooFew : Addr
  c_StillHeld : Addr
  c_NoDeed : Addr
  a_check_value : Addr
  d_check_value : FuncData
  a_check_count : Addr
  d_check_count : FuncData
  a_count_of : Addr
  d_count_of : FuncData
  a_check_sum : Addr
  d_check_sum : FuncData
  a_table : Addr
  d_table : FuncData
  a_fewest : Addr
  d_fewest : FuncData
  a_with_kind : Addr
  d_with_kind : FuncData
  a__bundles : Addr
  d__bundles : FuncData
  a__with_bundle : Addr
  d__with_bundle : FuncData
  a__most_given : Addr
  d__most_given : FuncData
  a_paid : Addr
  d_paid : FuncData
  a_brought : Addr
  d_brought : FuncData
  a_fetched : Addr
  d_fetched : FuncData
  a_kind_in : Addr
  d_kind_in : FuncData
  a_kind_out : Addr
  d_kind_out : FuncData
  a__with_count : Addr
  d__with_count : FuncData
  a_day : Addr
  d_day : FuncData
  a__answered : Addr
  d__answered : FuncData
  a__done : Addr
  d__done : FuncData
  a__law_cell_at : Addr
  d__law_cell_at : FuncData
  a__law_whole : Addr
  d__law_whole : FuncData
  a__law_mixed : Addr
  d__law_mixed : FuncData
  a__law_value : Addr
  d__law_value : FuncData
  a__law_count : Addr
  d__law_count : FuncData
  a__law_pairs : Addr
  d__law_pairs : FuncData
  a__law_alike : Addr
  d__law_alike : FuncData
  a__law_least : Addr
  d__law_least : FuncData
  a__law_row : Addr
  d__law_row : FuncData
  a__law_walked : Addr
  d__law_walked : FuncData
  a__law_change : Addr
  d__law_change : FuncData
  a__law_known : Addr
  d__law_known : FuncData
  a__law_deed : Addr
  d__law_deed : FuncData
  a__law_moved : Addr
  d__law_moved : FuncData
  a__law_kind : Addr
  d__law_kind : FuncData
  a__law_unpaid : Addr
  d__law_unpaid : FuncData
  a__law_exact : Addr
  d__law_exact : FuncData
  a__law_paid : Addr
  d__law_paid : FuncData
  a__law_right : Addr
  d__law_right : FuncData
  a__law_copies : Addr
  d__law_copies : FuncData
  a__law_again : Addr
  d__law_again : FuncData
  a_law : Addr
  d_law : FuncData
  g_TillError : mg "TillError" = some (.ref c_TillError)
  x_TillError : PySem.W.excIn K c_TillError [.type "ValueError", .type "Exception", .type "BaseException", .type "object"] "ValueError.__new__" = true
  k_TillError : PySem.W.keepIn K (.ref c_TillError) = true
  b_TillError : PySem.W.subIn K (.ref c_TillError) (.type "BaseException") = some true
  t_TillError : PySem.W.typeIn K (.ref c_TillError) = some (.type "type")
  i_TillError : PySem.W.isClsIn K c_TillError = true
  g_NoTill : mg "NoTill" = some (.ref c_NoTill)
  x_NoTill : PySem.W.excIn K c_NoTill [.type "ValueError", .type "Exception", .type "BaseException", .type "object"] "ValueError.__new__" = true
  k_NoTill : PySem.W.keepIn K (.ref c_NoTill) = true
  b_NoTill : PySem.W.subIn K (.ref c_NoTill) (.type "BaseException") = some true
  t_NoTill : PySem.W.typeIn K (.ref c_NoTill) = some (.type "type")
  i_NoTill : PySem.W.isClsIn K c_NoTill = true
  g_NoKind : mg "NoKind" = some (.ref c_NoKind)
  x_NoKind : PySem.W.excIn K c_NoKind [.type "ValueError", .type "Exception", .type "BaseException", .type "object"] "ValueError.__new__" = true
  k_NoKind : PySem.W.keepIn K (.ref c_NoKind) = true
  b_NoKind : PySem.W.subIn K (.ref c_NoKind) (.type "BaseException") = some true
  t_NoKind : PySem.W.typeIn K (.ref c_NoKind) = some (.type "type")
  i_NoKind : PySem.W.isClsIn K c_NoKind = true
  g_Twice : mg "Twice" = some (.ref c_Twice)
  x_Twice : PySem.W.excIn K c_Twice [.type "ValueError", .type "Exception", .type "BaseException", .type "object"] "ValueError.__new__" = true
  k_Twice : PySem.W.keepIn K (.ref c_Twice) = true
  b_Twice : PySem.W.subIn K (.ref c_Twice) (.type "BaseException") = some true
  t_Twice : PySem.W.typeIn K (.ref c_Twice) = some (.type "type")
  i_Twice : PySem.W.isClsIn K c_Twice = true
  g_NoCount : mg "NoCount" = some (.ref c_NoCount)
  x_NoCount : PySem.W.excIn K c_NoCount [.type "ValueError", .type "Exception", .type "BaseException", .type "object"] "ValueError.__new__" = true
  k_NoCount : PySem.W.keepIn K (.ref c_NoCount) = true
  b_NoCount : PySem.W.subIn K (.ref c_NoCount) (.type "BaseException") = some true
  t_NoCount : PySem.W.typeIn K (.ref c_NoCount) = some (.type "type")
  i_NoCount : PySem.W.isClsIn K c_NoCount = true
  g_NoSum : mg "NoSum" = some (.ref c_NoSum)
  x_NoSum : PySem.W.excIn K c_NoSum [.type "ValueError", .type "Exception", .type "BaseException", .type "object"] "ValueError.__new__" = true
  k_NoSum : PySem.W.keepIn K (.ref c_NoSum) = true
  b_NoSum : PySem.W.subIn K (.ref c_NoSum) (.type "BaseException") = some true
  t_NoSum : PySem.W.typeIn K (.ref c_NoSum) = some (.type "type")
  i_NoSum : PySem.W.isClsIn K c_NoSum = true
  g_TooLittle : mg "TooLittle" = some (.ref c_TooLittle)
  x_TooLittle : PySem.W.excIn K c_TooLittle [.type "ValueError", .type "Exception", .type "BaseException", .type "object"] "ValueError.__new__" = true
  k_TooLittle : PySem.W.keepIn K (.ref c_TooLittle) = true
  b_TooLittle : PySem.W.subIn K (.ref c_TooLittle) (.type "BaseException") = some true
  t_TooLittle : PySem.W.typeIn K (.ref c_TooLittle) = some (.type "type")
  i_TooLittle : PySem.W.isClsIn K c_TooLittle = true
  g_NoChange : mg "NoChange" = some (.ref c_NoChange)
  x_NoChange : PySem.W.excIn K c_NoChange [.type "ValueError", .type "Exception", .type "BaseException", .type "object"] "ValueError.__new__" = true
  k_NoChange : PySem.W.keepIn K (.ref c_NoChange) = true
  b_NoChange : PySem.W.subIn K (.ref c_NoChange) (.type "BaseException") = some true
  t_NoChange : PySem.W.typeIn K (.ref c_NoChange) = some (.type "type")
  i_NoChange : PySem.W.isClsIn K c_NoChange = true
  g_TooFew : mg "TooFew" = some (.ref c_TooFew)
  x_TooFew : PySem.W.excIn K c_TooFew [.type "ValueError", .type "Exception", .type "BaseException", .type "object"] "ValueError.__new__" = true
  k_TooFew : PySem.W.keepIn K (.ref c_TooFew) = true
  b_TooFew : PySem.W.subIn K (.ref c_TooFew) (.type "BaseException") = some true
  t_TooFew : PySem.W.typeIn K (.ref c_TooFew) = some (.type "type")
  i_TooFew : PySem.W.isClsIn K c_TooFew = true
  g_StillHeld : mg "StillHeld" = some (.ref c_StillHeld)
  x_StillHeld : PySem.W.excIn K c_StillHeld [.type "ValueError", .type "Exception", .type "BaseException", .type "object"] "ValueError.__new__" = true
  k_StillHeld : PySem.W.keepIn K (.ref c_StillHeld) = true
  b_StillHeld : PySem.W.subIn K (.ref c_StillHeld) (.type "BaseException") = some true
  t_StillHeld : PySem.W.typeIn K (.ref c_StillHeld) = some (.type "type")
  i_StillHeld : PySem.W.isClsIn K c_StillHeld = true
  g_NoDeed : mg "NoDeed" = some (.ref c_NoDeed)
  x_NoDeed : PySem.W.excIn K c_NoDeed [.type "ValueError", .type "Exception", .type "BaseException", .type "object"] "ValueError.__new__" = true
  k_NoDeed : PySem.W.keepIn K (.ref c_NoDeed) = true
  b_NoDeed : PySem.W.subIn K (.ref c_NoDeed) (.type "BaseException") = some true
  t_NoDeed : PySem.W.typeIn K (.ref c_NoDeed) = some (.type "type")
  i_NoDeed : PySem.W.isClsIn K c_NoDeed = true
  u_NoKind_NoKind : PySem.W.subIn K (.ref c_NoKind) (.ref c_NoKind) = some true
  u_NoKind_Twice : PySem.W.subIn K (.ref c_NoKind) (.ref c_Twice) = some false
  u_NoKind_NoCount : PySem.W.subIn K (.ref c_NoKind) (.ref c_NoCount) = some false
  u_NoKind_NoTill : PySem.W.subIn K (.ref c_NoKind) (.ref c_NoTill) = some false
  u_NoKind_NoSum : PySem.W.subIn K (.ref c_NoKind) (.ref c_NoSum) = some false
  u_NoKind_TooLittle : PySem.W.subIn K (.ref c_NoKind) (.ref c_TooLittle) = some false
  u_NoKind_NoChange : PySem.W.subIn K (.ref c_NoKind) (.ref c_NoChange) = some false
  u_NoKind_TooFew : PySem.W.subIn K (.ref c_NoKind) (.ref c_TooFew) = some false
  u_NoKind_StillHeld : PySem.W.subIn K (.ref c_NoKind) (.ref c_StillHeld) = some false
  u_NoKind_NoDeed : PySem.W.subIn K (.ref c_NoKind) (.ref c_NoDeed) = some false
  u_NoCount_NoKind : PySem.W.subIn K (.ref c_NoCount) (.ref c_NoKind) = some false
  u_NoCount_Twice : PySem.W.subIn K (.ref c_NoCount) (.ref c_Twice) = some false
  u_NoCount_NoCount : PySem.W.subIn K (.ref c_NoCount) (.ref c_NoCount) = some true
  u_NoCount_NoTill : PySem.W.subIn K (.ref c_NoCount) (.ref c_NoTill) = some false
  u_NoCount_NoSum : PySem.W.subIn K (.ref c_NoCount) (.ref c_NoSum) = some false
  u_NoCount_TooLittle : PySem.W.subIn K (.ref c_NoCount) (.ref c_TooLittle) = some false
  u_NoCount_NoChange : PySem.W.subIn K (.ref c_NoCount) (.ref c_NoChange) = some false
  u_NoCount_TooFew : PySem.W.subIn K (.ref c_NoCount) (.ref c_TooFew) = some false
  u_NoCount_StillHeld : PySem.W.subIn K (.ref c_NoCount) (.ref c_StillHeld) = some false
  u_NoCount_NoDeed : PySem.W.subIn K (.ref c_NoCount) (.ref c_NoDeed) = some false
  u_NoSum_NoKind : PySem.W.subIn K (.ref c_NoSum) (.ref c_NoKind) = some false
  u_NoSum_Twice : PySem.W.subIn K (.ref c_NoSum) (.ref c_Twice) = some false
  u_NoSum_NoCount : PySem.W.subIn K (.ref c_NoSum) (.ref c_NoCount) = some false
  u_NoSum_NoTill : PySem.W.subIn K (.ref c_NoSum) (.ref c_NoTill) = some false
  u_NoSum_NoSum : PySem.W.subIn K (.ref c_NoSum) (.ref c_NoSum) = some true
  u_NoSum_TooLittle : PySem.W.subIn K (.ref c_NoSum) (.ref c_TooLittle) = some false
  u_NoSum_NoChange : PySem.W.subIn K (.ref c_NoSum) (.ref c_NoChange) = some false
  u_NoSum_TooFew : PySem.W.subIn K (.ref c_NoSum) (.ref c_TooFew) = some false
  u_NoSum_StillHeld : PySem.W.subIn K (.ref c_NoSum) (.ref c_StillHeld) = some false
  u_NoSum_NoDeed : PySem.W.subIn K (.ref c_NoSum) (.ref c_NoDeed) = some false
  u_NoChange_NoKind : PySem.W.subIn K (.ref c_NoChange) (.ref c_NoKind) = some false
  u_NoChange_Twice : PySem.W.subIn K (.ref c_NoChange) (.ref c_Twice) = some false
  u_NoChange_NoCount : PySem.W.subIn K (.ref c_NoChange) (.ref c_NoCount) = some false
  u_NoChange_NoTill : PySem.W.subIn K (.ref c_NoChange) (.ref c_NoTill) = some false
  u_NoChange_NoSum : PySem.W.subIn K (.ref c_NoChange) (.ref c_NoSum) = some false
  u_NoChange_TooLittle : PySem.W.subIn K (.ref c_NoChange) (.ref c_TooLittle) = some false
  u_NoChange_NoChange : PySem.W.subIn K (.ref c_NoChange) (.ref c_NoChange) = some true
  u_NoChange_TooFew : PySem.W.subIn K (.ref c_NoChange) (.ref c_TooFew) = some false
  u_NoChange_StillHeld : PySem.W.subIn K (.ref c_NoChange) (.ref c_StillHeld) = some false
  u_NoChange_NoDeed : PySem.W.subIn K (.ref c_NoChange) (.ref c_NoDeed) = some false
  u_TooLittle_NoKind : PySem.W.subIn K (.ref c_TooLittle) (.ref c_NoKind) = some false
  u_TooLittle_Twice : PySem.W.subIn K (.ref c_TooLittle) (.ref c_Twice) = some false
  u_TooLittle_NoCount : PySem.W.subIn K (.ref c_TooLittle) (.ref c_NoCount) = some false
  u_TooLittle_NoTill : PySem.W.subIn K (.ref c_TooLittle) (.ref c_NoTill) = some false
  u_TooLittle_NoSum : PySem.W.subIn K (.ref c_TooLittle) (.ref c_NoSum) = some false
  u_TooLittle_TooLittle : PySem.W.subIn K (.ref c_TooLittle) (.ref c_TooLittle) = some true
  u_TooLittle_NoChange : PySem.W.subIn K (.ref c_TooLittle) (.ref c_NoChange) = some false
  u_TooLittle_TooFew : PySem.W.subIn K (.ref c_TooLittle) (.ref c_TooFew) = some false
  u_TooLittle_StillHeld : PySem.W.subIn K (.ref c_TooLittle) (.ref c_StillHeld) = some false
  u_TooLittle_NoDeed : PySem.W.subIn K (.ref c_TooLittle) (.ref c_NoDeed) = some false
  u_TooFew_NoKind : PySem.W.subIn K (.ref c_TooFew) (.ref c_NoKind) = some false
  u_TooFew_Twice : PySem.W.subIn K (.ref c_TooFew) (.ref c_Twice) = some false
  u_TooFew_NoCount : PySem.W.subIn K (.ref c_TooFew) (.ref c_NoCount) = some false
  u_TooFew_NoTill : PySem.W.subIn K (.ref c_TooFew) (.ref c_NoTill) = some false
  u_TooFew_NoSum : PySem.W.subIn K (.ref c_TooFew) (.ref c_NoSum) = some false
  u_TooFew_TooLittle : PySem.W.subIn K (.ref c_TooFew) (.ref c_TooLittle) = some false
  u_TooFew_NoChange : PySem.W.subIn K (.ref c_TooFew) (.ref c_NoChange) = some false
  u_TooFew_TooFew : PySem.W.subIn K (.ref c_TooFew) (.ref c_TooFew) = some true
  u_TooFew_StillHeld : PySem.W.subIn K (.ref c_TooFew) (.ref c_StillHeld) = some false
  u_TooFew_NoDeed : PySem.W.subIn K (.ref c_TooFew) (.ref c_NoDeed) = some false
  u_Twice_NoKind : PySem.W.subIn K (.ref c_Twice) (.ref c_NoKind) = some false
  u_Twice_Twice : PySem.W.subIn K (.ref c_Twice) (.ref c_Twice) = some true
  u_Twice_NoCount : PySem.W.subIn K (.ref c_Twice) (.ref c_NoCount) = some false
  u_Twice_NoTill : PySem.W.subIn K (.ref c_Twice) (.ref c_NoTill) = some false
  u_Twice_NoSum : PySem.W.subIn K (.ref c_Twice) (.ref c_NoSum) = some false
  u_Twice_TooLittle : PySem.W.subIn K (.ref c_Twice) (.ref c_TooLittle) = some false
  u_Twice_NoChange : PySem.W.subIn K (.ref c_Twice) (.ref c_NoChange) = some false
  u_Twice_TooFew : PySem.W.subIn K (.ref c_Twice) (.ref c_TooFew) = some false
  u_Twice_StillHeld : PySem.W.subIn K (.ref c_Twice) (.ref c_StillHeld) = some false
  u_Twice_NoDeed : PySem.W.subIn K (.ref c_Twice) (.ref c_NoDeed) = some false
  u_NoTill_NoKind : PySem.W.subIn K (.ref c_NoTill) (.ref c_NoKind) = some false
  u_NoTill_Twice : PySem.W.subIn K (.ref c_NoTill) (.ref c_Twice) = some false
  u_NoTill_NoCount : PySem.W.subIn K (.ref c_NoTill) (.ref c_NoCount) = some false
  u_NoTill_NoTill : PySem.W.subIn K (.ref c_NoTill) (.ref c_NoTill) = some true
  u_NoTill_NoSum : PySem.W.subIn K (.ref c_NoTill) (.ref c_NoSum) = some false
  u_NoTill_TooLittle : PySem.W.subIn K (.ref c_NoTill) (.ref c_TooLittle) = some false
  u_NoTill_NoChange : PySem.W.subIn K (.ref c_NoTill) (.ref c_NoChange) = some false
  u_NoTill_TooFew : PySem.W.subIn K (.ref c_NoTill) (.ref c_TooFew) = some false
  u_NoTill_StillHeld : PySem.W.subIn K (.ref c_NoTill) (.ref c_StillHeld) = some false
  u_NoTill_NoDeed : PySem.W.subIn K (.ref c_NoTill) (.ref c_NoDeed) = some false
  u_StillHeld_NoKind : PySem.W.subIn K (.ref c_StillHeld) (.ref c_NoKind) = some false
  u_StillHeld_Twice : PySem.W.subIn K (.ref c_StillHeld) (.ref c_Twice) = some false
  u_StillHeld_NoCount : PySem.W.subIn K (.ref c_StillHeld) (.ref c_NoCount) = some false
  u_StillHeld_NoTill : PySem.W.subIn K (.ref c_StillHeld) (.ref c_NoTill) = some false
  u_StillHeld_NoSum : PySem.W.subIn K (.ref c_StillHeld) (.ref c_NoSum) = some false
  u_StillHeld_TooLittle : PySem.W.subIn K (.ref c_StillHeld) (.ref c_TooLittle) = some false
  u_StillHeld_NoChange : PySem.W.subIn K (.ref c_StillHeld) (.ref c_NoChange) = some false
  u_StillHeld_TooFew : PySem.W.subIn K (.ref c_StillHeld) (.ref c_TooFew) = some false
  u_StillHeld_StillHeld : PySem.W.subIn K (.ref c_StillHeld) (.ref c_StillHeld) = some true
  u_StillHeld_NoDeed : PySem.W.subIn K (.ref c_StillHeld) (.ref c_NoDeed) = some false
  u_NoDeed_NoKind : PySem.W.subIn K (.ref c_NoDeed) (.ref c_NoKind) = some false
  u_NoDeed_Twice : PySem.W.subIn K (.ref c_NoDeed) (.ref c_Twice) = some false
  u_NoDeed_NoCount : PySem.W.subIn K (.ref c_NoDeed) (.ref c_NoCount) = some false
  u_NoDeed_NoTill : PySem.W.subIn K (.ref c_NoDeed) (.ref c_NoTill) = some false
  u_NoDeed_NoSum : PySem.W.subIn K (.ref c_NoDeed) (.ref c_NoSum) = some false
  u_NoDeed_TooLittle : PySem.W.subIn K (.ref c_NoDeed) (.ref c_TooLittle) = some false
  u_NoDeed_NoChange : PySem.W.subIn K (.ref c_NoDeed) (.ref c_NoChange) = some false
  u_NoDeed_TooFew : PySem.W.subIn K (.ref c_NoDeed) (.ref c_TooFew) = some false
  u_NoDeed_StillHeld : PySem.W.subIn K (.ref c_NoDeed) (.ref c_StillHeld) = some false
  u_NoDeed_NoDeed : PySem.W.subIn K (.ref c_NoDeed) (.ref c_NoDeed) = some true
  f_check_value : Fun K "check_value" "check_value" s_check_value a_check_value d_check_value
  p_check_value : Binds K d_check_value P_check_value []
  g_check_value : mg "check_value" = some (.ref a_check_value)
  f_check_count : Fun K "check_count" "check_count" s_check_count a_check_count d_check_count
  p_check_count : Binds K d_check_count P_check_count []
  g_check_count : mg "check_count" = some (.ref a_check_count)
  f_count_of : Fun K "count_of" "count_of" s_count_of a_count_of d_count_of
  p_count_of : Binds K d_count_of P_count_of []
  g_count_of : mg "count_of" = some (.ref a_count_of)
  f_check_sum : Fun K "check_sum" "check_sum" s_check_sum a_check_sum d_check_sum
  p_check_sum : Binds K d_check_sum P_check_sum []
  g_check_sum : mg "check_sum" = some (.ref a_check_sum)
  f_table : Fun K "table" "table" s_table a_table d_table
  p_table : Binds K d_table P_table []
  g_table : mg "table" = some (.ref a_table)
  f_fewest : Fun K "fewest" "fewest" s_fewest a_fewest d_fewest
  p_fewest : Binds K d_fewest P_fewest []
  g_fewest : mg "fewest" = some (.ref a_fewest)
  f_with_kind : Fun K "with_kind" "with_kind" s_with_kind a_with_kind d_with_kind
  p_with_kind : Binds K d_with_kind P_with_kind []
  g_with_kind : mg "with_kind" = some (.ref a_with_kind)
  f__bundles : Fun K "_bundles" "_bundles" s__bundles a__bundles d__bundles
  p__bundles : Binds K d__bundles P__bundles []
  g__bundles : mg "_bundles" = some (.ref a__bundles)
  f__with_bundle : Fun K "_with_bundle" "_with_bundle" s__with_bundle a__with_bundle d__with_bundle
  p__with_bundle : Binds K d__with_bundle P__with_bundle []
  g__with_bundle : mg "_with_bundle" = some (.ref a__with_bundle)
  f__most_given : Fun K "_most_given" "_most_given" s__most_given a__most_given d__most_given
  p__most_given : Binds K d__most_given P__most_given []
  g__most_given : mg "_most_given" = some (.ref a__most_given)
  f_paid : Fun K "paid" "paid" s_paid a_paid d_paid
  p_paid : Binds K d_paid P_paid []
  g_paid : mg "paid" = some (.ref a_paid)
  f_brought : Fun K "brought" "brought" s_brought a_brought d_brought
  p_brought : Binds K d_brought P_brought []
  g_brought : mg "brought" = some (.ref a_brought)
  f_fetched : Fun K "fetched" "fetched" s_fetched a_fetched d_fetched
  p_fetched : Binds K d_fetched P_fetched []
  g_fetched : mg "fetched" = some (.ref a_fetched)
  f_kind_in : Fun K "kind_in" "kind_in" s_kind_in a_kind_in d_kind_in
  p_kind_in : Binds K d_kind_in P_kind_in []
  g_kind_in : mg "kind_in" = some (.ref a_kind_in)
  f_kind_out : Fun K "kind_out" "kind_out" s_kind_out a_kind_out d_kind_out
  p_kind_out : Binds K d_kind_out P_kind_out []
  g_kind_out : mg "kind_out" = some (.ref a_kind_out)
  f__with_count : Fun K "_with_count" "_with_count" s__with_count a__with_count d__with_count
  p__with_count : Binds K d__with_count P__with_count []
  g__with_count : mg "_with_count" = some (.ref a__with_count)
  f_day : Fun K "day" "day" s_day a_day d_day
  p_day : Binds K d_day P_day []
  g_day : mg "day" = some (.ref a_day)
  f__answered : Fun K "_answered" "_answered" s__answered a__answered d__answered
  p__answered : Binds K d__answered P__answered []
  g__answered : mg "_answered" = some (.ref a__answered)
  f__done : Fun K "_done" "_done" s__done a__done d__done
  p__done : Binds K d__done P__done []
  g__done : mg "_done" = some (.ref a__done)
  f__law_cell_at : Fun K "_law_cell_at" "_law_cell_at" s__law_cell_at a__law_cell_at d__law_cell_at
  p__law_cell_at : Binds K d__law_cell_at P__law_cell_at []
  g__law_cell_at : mg "_law_cell_at" = some (.ref a__law_cell_at)
  f__law_whole : Fun K "_law_whole" "_law_whole" s__law_whole a__law_whole d__law_whole
  p__law_whole : Binds K d__law_whole P__law_whole []
  g__law_whole : mg "_law_whole" = some (.ref a__law_whole)
  f__law_mixed : Fun K "_law_mixed" "_law_mixed" s__law_mixed a__law_mixed d__law_mixed
  p__law_mixed : Binds K d__law_mixed P__law_mixed []
  g__law_mixed : mg "_law_mixed" = some (.ref a__law_mixed)
  f__law_value : Fun K "_law_value" "_law_value" s__law_value a__law_value d__law_value
  p__law_value : Binds K d__law_value P__law_value []
  g__law_value : mg "_law_value" = some (.ref a__law_value)
  f__law_count : Fun K "_law_count" "_law_count" s__law_count a__law_count d__law_count
  p__law_count : Binds K d__law_count P__law_count []
  g__law_count : mg "_law_count" = some (.ref a__law_count)
  f__law_pairs : Fun K "_law_pairs" "_law_pairs" s__law_pairs a__law_pairs d__law_pairs
  p__law_pairs : Binds K d__law_pairs P__law_pairs []
  g__law_pairs : mg "_law_pairs" = some (.ref a__law_pairs)
  f__law_alike : Fun K "_law_alike" "_law_alike" s__law_alike a__law_alike d__law_alike
  p__law_alike : Binds K d__law_alike P__law_alike []
  g__law_alike : mg "_law_alike" = some (.ref a__law_alike)
  f__law_least : Fun K "_law_least" "_law_least" s__law_least a__law_least d__law_least
  p__law_least : Binds K d__law_least P__law_least []
  g__law_least : mg "_law_least" = some (.ref a__law_least)
  f__law_row : Fun K "_law_row" "_law_row" s__law_row a__law_row d__law_row
  p__law_row : Binds K d__law_row P__law_row []
  g__law_row : mg "_law_row" = some (.ref a__law_row)
  f__law_walked : Fun K "_law_walked" "_law_walked" s__law_walked a__law_walked d__law_walked
  p__law_walked : Binds K d__law_walked P__law_walked []
  g__law_walked : mg "_law_walked" = some (.ref a__law_walked)
  f__law_change : Fun K "_law_change" "_law_change" s__law_change a__law_change d__law_change
  p__law_change : Binds K d__law_change P__law_change []
  g__law_change : mg "_law_change" = some (.ref a__law_change)
  f__law_known : Fun K "_law_known" "_law_known" s__law_known a__law_known d__law_known
  p__law_known : Binds K d__law_known P__law_known []
  g__law_known : mg "_law_known" = some (.ref a__law_known)
  f__law_deed : Fun K "_law_deed" "_law_deed" s__law_deed a__law_deed d__law_deed
  p__law_deed : Binds K d__law_deed P__law_deed []
  g__law_deed : mg "_law_deed" = some (.ref a__law_deed)
  f__law_moved : Fun K "_law_moved" "_law_moved" s__law_moved a__law_moved d__law_moved
  p__law_moved : Binds K d__law_moved P__law_moved []
  g__law_moved : mg "_law_moved" = some (.ref a__law_moved)
  f__law_kind : Fun K "_law_kind" "_law_kind" s__law_kind a__law_kind d__law_kind
  p__law_kind : Binds K d__law_kind P__law_kind []
  g__law_kind : mg "_law_kind" = some (.ref a__law_kind)
  f__law_unpaid : Fun K "_law_unpaid" "_law_unpaid" s__law_unpaid a__law_unpaid d__law_unpaid
  p__law_unpaid : Binds K d__law_unpaid P__law_unpaid []
  g__law_unpaid : mg "_law_unpaid" = some (.ref a__law_unpaid)
  f__law_exact : Fun K "_law_exact" "_law_exact" s__law_exact a__law_exact d__law_exact
  p__law_exact : Binds K d__law_exact P__law_exact []
  g__law_exact : mg "_law_exact" = some (.ref a__law_exact)
  f__law_paid : Fun K "_law_paid" "_law_paid" s__law_paid a__law_paid d__law_paid
  p__law_paid : Binds K d__law_paid P__law_paid []
  g__law_paid : mg "_law_paid" = some (.ref a__law_paid)
  f__law_right : Fun K "_law_right" "_law_right" s__law_right a__law_right d__law_right
  p__law_right : Binds K d__law_right P__law_right []
  g__law_right : mg "_law_right" = some (.ref a__law_right)
  f__law_copies : Fun K "_law_copies" "_law_copies" s__law_copies a__law_copies d__law_copies
  p__law_copies : Binds K d__law_copies P__law_copies []
  g__law_copies : mg "_law_copies" = some (.ref a__law_copies)
  f__law_again : Fun K "_law_again" "_law_again" s__law_again a__law_again d__law_again
  p__law_again : Binds K d__law_again P__law_again []
  g__law_again : mg "_law_again" = some (.ref a__law_again)
  f_law : Fun K "law" "law" s_law a_law d_law
  p_law : Binds K d_law P_law []
  g_law : mg "law" = some (.ref a_law)
  w_MOST_KINDS : ∃ t, mg "MOST_KINDS" = some (.int 10 t)
  w_MOST_VALUE : ∃ t, mg "MOST_VALUE" = some (.int 1000 t)
  w_MOST_COUNT : ∃ t, mg "MOST_COUNT" = some (.int 1000000000 t)
  w_MOST_SUM : ∃ t, mg "MOST_SUM" = some (.int 1000 t)
  w_MOST_PAID : ∃ t, mg "MOST_PAID" = some (.int 60 t)
  m_bool : mg "bool" = none
  m_dict : mg "dict" = none
  m_enumerate : mg "enumerate" = none
  m_int : mg "int" = none
  m_isinstance : mg "isinstance" = none
  m_len : mg "len" = none
  m_list : mg "list" = none
  m_max : mg "max" = none
  m_min : mg "min" = none
  m_range : mg "range" = none
  m_reversed : mg "reversed" = none
  m_sorted : mg "sorted" = none
  m_sum : mg "sum" = none
  m_tuple : mg "tuple" = none
  m_zip : mg "zip" = none
section
variable {P : Program} {w : World} {K : PySem.W.Frag} {mg : Str → Option Value} {base : Heap}
/-! ### small things over the layer -/
abbrev CXR (P : Program) (w : World) : CXT := L2.CX P w
abbrev Ex := Evl.Ex
theorem Ex.rfl' {H : Hp} : Ex H H := fun _ _ h => h
theorem Ex.tr {H H1 H2 : Hp} (a : Ex H H1) (b : Ex H1 H2) : Ex H H2 := Evl.Ex.trans a b
theorem Ex.nw {H : Hp} {p : Addr} {o : HO} (h : H p = none) : Ex H (upd H p o) := Evl.Ex.new h
theorem Ex.seq {K : PySem.W.Frag} {H H' : Hp} {a : Addr} {xs : List V} (e : Ex H H') (h : SqL K H a xs) : SqL K H' a xs := Evl.ex_l e h
theorem ipR {X : Cx} {op : Operator} {r : R2} (ho : OpR X (inplaceOp op) r) : PIp X op r := fun pins s σ H x y v u Q I rx ry h => ho pins s σ H x y v u Q I rx ry h
theorem ip_mulR {X : Cx} : PIp X .Mult (rI CMul fun i j => .int (i * j)) := ipR iop_mul
/-- isinstance of the caught error: a class, a tuple of classes just laid; the error's class is told in the reading -/
def rIsE1 (K : PySem.W.Frag) (cls : Value) (d : Option Addr) (a : Addr) : List V → Hp → VK → Prop := fun xs H Q => ∃ (D : Addr) (c : V) (cv : Value) (b : Bool), cls = .ref D ∧ d = none ∧ ExcC K D ∧ xs = [.ref a, c] ∧ (∀ u, RelV c u → u = cv) ∧ PySem.W.kitOne K (.ref D) cv = some b ∧ Q (.bl b) H
theorem call_isE1 {X : Cx} {a : Addr} {cls : Value} {d : Option Addr} {oe : Obj} {pn : List (Addr × Obj)} (hz : Zc cls d oe) (hf : ∃ vs, oe.data = .fields vs) : CallR (X.suite a ((a, oe) :: pn)) (.builtin "isinstance") (rIsE1 X.K cls d a) := by
  intro pins s σ H xs us Q I r h
  obtain ⟨D, c, cv, b, rfl, rfl, C, rfl, hcv, e, q⟩ := h
  exact call_isE C hz hf pins s σ H _ us Q I r ⟨c, cv, b, rfl, hcv, e, q⟩
def rIsET (K : PySem.W.Frag) (cls : Value) (d : Option Addr) (a : Addr) : List V → Hp → VK → Prop := fun xs H Q => ∃ (D tp : Addr) (cs : List V) (us : List Value) (b : Bool), cls = .ref D ∧ d = none ∧ ExcC K D ∧ xs = [.ref a, .ref tp] ∧ H tp = some (.tup cs) ∧ Paired ClsV cs us ∧ PySem.W.kitAny K (.ref D) us = some b ∧ Q (.bl b) H
theorem call_isET {X : Cx} {a : Addr} {cls : Value} {d : Option Addr} {oe : Obj} {pn : List (Addr × Obj)} (hz : Zc cls d oe) (hf : ∃ fs, oe.data = .fields fs) : CallR (X.suite a ((a, oe) :: pn)) (.builtin "isinstance") (rIsET X.K cls d a) := by
  intro pins s σ H xs us Q I r h
  obtain ⟨D, tp, cs, ws, b, rfl, rfl, C, rfl, hT, k, e, q⟩ := h
  obtain ⟨w1, w2, rfl, p1, p2⟩ := vals2 r
  cases (show w2 = Value.ref tp from p2)
  cases (show w1 = Value.ref a from p1)
  obtain ⟨hgt, _⟩ := I.pin (a, oe) (List.mem_append.mpr (.inl List.mem_cons_self))
  obtain ⟨fs, hv⟩ := hf
  have J : PySem.W.InstAt s.heap a oe D none := by
    obtain ⟨oc, od, odt, oss⟩ := oe
    obtain ⟨k1, k2⟩ := hz
    dsimp only at k1 k2 hv
    subst k1 k2 hv
    exact ⟨hgt, rfl, rfl, trivial⟩
  obtain ⟨_, zs, rv, o, k1, k2, n, k3⟩ := (show ObjOk X.prog X.w H s.heap tp (.tup cs) from I.hok tp _ hT)
  have e3 := ClsV.all k rv
  subst e3
  obtain ⟨oc, od, dt, sl⟩ := o
  simp only at k2 k3
  subst k2 k3
  exact PySem.W.kia_tup (PySem.W.handS_kitx_exc C.hg C.hk C.hs C.hd C.ha C.hn C.ht C.hm) I.kIn J k1 e (fun z => nomatch z) fun tk => ⟨.bl b, H, I.tok tk, rfl, q⟩
/-- len, list(x), told by a K that is named -/
abbrev rLenK (K : PySem.W.Frag) : List V → Hp → VK → Prop := fun zs H Q => ∃ p ys, zs = [.ref p] ∧ (SqL K H p ys ∨ SqT K H p ys) ∧ Q (.int ys.length) H
abbrev rListK (K : PySem.W.Frag) : List V → Hp → VK → Prop := fun zs H Q => ∃ p ys, zs = [.ref p] ∧ (SqL K H p ys ∨ SqT K H p ys) ∧ ∀ l, H l = none → Q (.ref l) (upd H l (.lst ys))
/-- pairs of ints, each a tracked tuple -/
def Prs (H : Hp) : List V → List (Int × Int) → Prop := Paired fun x p => ∃ t, x = .ref t ∧ H t = some (.tup [.int p.1, .int p.2])
theorem Prs.ex {H H' : Hp} (e : Ex H H') : ∀ {xs : List V} {ps : List (Int × Int)}, Prs H xs ps → Prs H' xs ps
  | _, _, .nil => .nil
  | _, _, .cons ⟨t, h1, h2⟩ r => .cons ⟨t, h1, e _ _ h2⟩ (Prs.ex e r)
theorem Prs.len {H : Hp} {xs : List V} {ps : List (Int × Int)} (h : Prs H xs ps) : xs.length = ps.length := Paired.length h
theorem Prs.snoc {H : Hp} : ∀ {xs : List V} {ps : List (Int × Int)} {x : V} {p : Int × Int}, Prs H xs ps → (∃ t, x = .ref t ∧ H t = some (.tup [.int p.1, .int p.2])) → Prs H (xs ++ [x]) (ps ++ [p])
  | _, _, _, _, .nil, h => .cons h .nil
  | _, _, _, _, .cons a r, h => .cons a (Prs.snoc r h)
theorem Prs.get {H : Hp} : ∀ {xs : List V} {ps : List (Int × Int)} {i : Nat} {x : V}, Prs H xs ps → xs[i]? = some x → ∃ p t, ps[i]? = some p ∧ x = .ref t ∧ H t = some (.tup [.int p.1, .int p.2])
  | _, _, _, _, .nil, e => by simp at e
  | _, _, 0, _, .cons (b := p) ⟨t, h1, h2⟩ _, e => by simp at e; subst e; exact ⟨p, t, by simp, h1, h2⟩
  | _, _, i + 1, x, .cons _ r, e => by
    obtain ⟨p, t, h1, h2⟩ := Prs.get (i := i) (x := x) r (by simpa using e)
    exact ⟨p, t, by simpa using h1, h2⟩
theorem Prs.getL {H : Hp} : ∀ {xs : List V} {ps : List (Int × Int)} {i : Nat} {p : Int × Int}, Prs H xs ps → ps[i]? = some p → ∃ t, xs[i]? = some (.ref t) ∧ H t = some (.tup [.int p.1, .int p.2])
  | _, _, _, _, .nil, e => by simp at e
  | _, _, 0, _, .cons ⟨t, h1, h2⟩ _, e => by simp at e; subst e; exact ⟨t, by simpa using h1, h2⟩
  | _, _, i + 1, p, .cons _ r, e => by
    obtain ⟨t, h1, h2⟩ := Prs.getL (i := i) (p := p) r (by simpa using e)
    exact ⟨t, by simpa using h1, h2⟩
/-- a till (or purse): a list of such pairs -/
def Till (K : PySem.W.Frag) (H : Hp) (a : Addr) (ps : List (Int × Int)) : Prop := ∃ xs, SqL K H a xs ∧ Prs H xs ps
theorem Till.ex {K : PySem.W.Frag} {H H' : Hp} {a : Addr} {ps : List (Int × Int)} (e : Ex H H') (h : Till K H a ps) : Till K H' a ps :=
  let ⟨xs, h1, h2⟩ := h; ⟨xs, Ex.seq e h1, h2.ex e⟩
/-- what a def that gives no new list answers -/
def Ret (v : V) (H : Hp) (Q : VK) : Prop := ∀ H2, Ex H H2 → Q v H2
theorem Ret.at {v : V} {H H' : Hp} {Q : VK} (k : Ret v H Q) (e : Ex H H') : Q v H' := k H' e
theorem len63 {n : Nat} (h : n ≤ 1000000) : n ≤ sizeLine := Nat.le_trans h (by decide)
theorem len63' {n : Nat} (h : n < 1000000) : n < sizeLine := Nat.lt_of_lt_of_le h (by decide)
theorem iteD {c A B : Prop} [Decidable c] (h1 : c → A) (h2 : ¬ c → B) : if decide c = true then A else B := by
  by_cases h : c
  · rw [if_pos (decide_eq_true h)]; exact h1 h
  · rw [if_neg (by simpa using h)]; exact h2 h
theorem iteDN {c A B : Prop} [Decidable c] (h1 : ¬ c → A) (h2 : c → B) : if (!decide c) = true then A else B := by
  by_cases h : c
  · rw [if_neg (by simpa using h)]; exact h2 h
  · rw [if_pos (by simpa using h)]; exact h1 h
theorem iteVI {i j : Int} {A B : Prop} (h1 : i = j → A) (h2 : ¬ i = j → B) : if decide (V.int i = V.int j) = true then A else B :=
  iteD (fun e => h1 (V.int.inj e)) fun e => h2 fun z => e (congrArg V.int z)
theorem iteVN {i j : Int} {A B : Prop} (h1 : ¬ i = j → A) (h2 : i = j → B) : if (!decide (V.int i = V.int j)) = true then A else B :=
  iteDN (fun e => h1 fun z => e (congrArg V.int z)) fun e => h2 (V.int.inj e)
theorem iteB {b : Bool} {A B : Prop} (h1 : b = true → A) (h2 : b = false → B) : if b = true then A else B := by
  cases b with
  | true => exact iteT (h1 rfl)
  | false => exact iteF (h2 rfl)
/-- what «except D» says of an error of the class C -/
theorem exm_mk {K : PySem.W.Frag} {C D : Addr} {b : Bool} (h1 : PySem.W.subIn K (.ref D) (.type "BaseException") = some true) (h2 : PySem.W.isClsIn K D = true) (h3 : PySem.W.typeIn K (.ref D) = some (.type "type")) (h4 : PySem.W.subIn K (.ref C) (.ref D) = some b) :
    PySem.W.exmOne K (.ref C) (.ref D) = some b := by
  have e1 : (PySem.W.subIn K (.ref D) (.type "BaseException") == some true) = true := by rw [h1] <;> rfl
  have e2 : ((PySem.W.clsIn K D).isSome && PySem.W.typeIn K (.ref D) == some (.type "type")) = true := by
    have h2' : (PySem.W.clsIn K D).isSome = true := h2
    rw [h2', h3] <;> rfl
  show (if (PySem.W.subIn K (.ref D) (.type "BaseException") == some true) = true then (if ((PySem.W.clsIn K D).isSome && PySem.W.typeIn K (.ref D) == some (.type "type")) = true then PySem.W.subIn K (.ref C) (.ref D) else none) else none) = some b
  rw [if_pos e1, if_pos e2]
  exact h4
theorem Ex.mu {H H' : Hp} {p : Addr} {o : HO} (e : Ex H H') (h : H p = none) : Ex H (upd H' p o) := Evl.Ex.mut e h
theorem Prs.up {H : Hp} {f : Addr} {o : HO} (hf : ∀ ys, H f ≠ some (.tup ys)) : ∀ {xs : List V} {ps : List (Int × Int)}, Prs H xs ps → Prs (upd H f o) xs ps
  | _, _, .nil => .nil
  | _, _, .cons ⟨t, h1, h2⟩ r => .cons ⟨t, h1, by rw [upd_ne fun e => hf _ (e ▸ h2)]; exact h2⟩ (Prs.up hf r)
/-- the pair that stands at an address -/
def pairAt (H : Hp) : V → Int × Int
  | .ref t => match H t with
    | some (.tup [.int i, .int j]) => (i, j)
    | _ => (0, 0)
  | _ => (0, 0)
theorem pairAt_eq {H : Hp} {t : Addr} {i j : Int} (h : H t = some (.tup [.int i, .int j])) : pairAt H (.ref t) = (i, j) := by
  show (match H t with | some (.tup [.int i, .int j]) => (i, j) | _ => (0, 0)) = (i, j)
  rw [h]
theorem Prs.map {H : Hp} : ∀ {xs : List V} {ps : List (Int × Int)}, Prs H xs ps → ps = xs.map (pairAt H)
  | _, _, .nil => rfl
  | _, _, .cons ⟨t, h1, h2⟩ r => by rw [List.map_cons, ← Prs.map r, h1, pairAt_eq h2]
theorem Prs.all {H : Hp} {xs : List V} {ps : List (Int × Int)} (h : Prs H xs ps) : ∀ x ∈ xs, ∃ t, x = V.ref t ∧ H t = some (.tup [.int (pairAt H x).1, .int (pairAt H x).2]) := by
  intro x hx
  obtain ⟨i, hi, e⟩ := List.getElem_of_mem hx
  obtain ⟨p, t, h1, h2, h3⟩ := Prs.get h (by rw [List.getElem?_eq_getElem hi, e])
  refine ⟨t, h2, ?_⟩
  rw [h2, pairAt_eq h3]
  exact h3
theorem Prs.of {H : Hp} : ∀ {xs : List V}, (∀ x ∈ xs, ∃ t, x = V.ref t ∧ H t = some (.tup [.int (pairAt H x).1, .int (pairAt H x).2])) → Prs H xs (xs.map (pairAt H))
  | [], _ => .nil
  | x :: xs, h => .cons (h x List.mem_cons_self) (Prs.of fun y hy => h y (List.mem_cons_of_mem _ hy))
/-- the pairs rise by value and are apart -/
def Rising (ps : List (Int × Int)) : Prop := ps.Pairwise fun p q => p.1 < q.1
theorem rising_of {H : Hp} {ys : List V} (hs : SrtO.Srtd (ltP (pairAt H)) ys) (nd : ((ys.map (pairAt H)).map (·.1)).Nodup) : Rising (ys.map (pairAt H)) := by
  unfold Rising
  rw [List.pairwise_map]
  rw [List.map_map, List.Nodup, List.pairwise_map] at nd
  refine (hs.and nd).imp ?_
  intro a b h
  have h1 := SrtO.lexB_no.mp h.1
  have h2 : (pairAt H a).1 ≠ (pairAt H b).1 := h.2
  omega
/-- sorted of such pairs -/
theorem sorted_prs {H : Hp} {xs ys : List V} {ps : List (Int × Int)} (hp : Prs H xs ps) (nd : (ps.map (·.1)).Nodup) (h1 : SrtO.Srtd (ltP (pairAt H)) ys) (h2 : SrtO.Stb (ltP (pairAt H)) ys xs) :
    ∃ qs, Prs H ys qs ∧ qs.Perm ps ∧ Rising qs := by
  have hpm : (ys.map (pairAt H)).Perm ps := by
    rw [hp.map]
    exact h2.perm.map _
  exact ⟨ys.map (pairAt H), Prs.of fun y hy => hp.all y (h2.perm.mem_iff.mp hy), hpm, rising_of h1 ((hpm.map _).nodup_iff.mpr nd)⟩
/-- what a till drawn here is: 1 to 10 kinds, apart, in bounds -/
structure Drawn (ps : List (Int × Int)) : Prop where
  nd : (ps.map (·.1)).Nodup
  val : ∀ p ∈ ps, 1 ≤ p.1 ∧ p.1 ≤ 1000
  cnt : ∀ p ∈ ps, 0 ≤ p.2 ∧ p.2 ≤ 1000000000
theorem Drawn.perm {ps qs : List (Int × Int)} (d : Drawn ps) (h : qs.Perm ps) : Drawn qs :=
  ⟨(h.map _).nodup_iff.mpr d.nd, fun p hp => d.val p (h.mem_iff.mp hp), fun p hp => d.cnt p (h.mem_iff.mp hp)⟩
/-- a till as data -/
def dP (p : Int × Int) : PyData := .tuple [.int p.1, .int p.2]
theorem prs_dp {K : PySem.W.Frag} {H : Hp} : ∀ {xs : List V} {ps : List (Int × Int)}, Prs H xs ps → DpAll K H xs (ps.map dP)
  | _, _, .nil => .nil
  | _, _, .cons ⟨t, h1, h2⟩ r => .cons (h1 ▸ .tup (.of h2) (.cons (.int _) (.cons (.int _) .nil))) (prs_dp r)
theorem till_dp {K : PySem.W.Frag} {H : Hp} {a : Addr} {ps : List (Int × Int)} (h : Till K H a ps) : Dp K H (.ref a) (.list (ps.map dP)) :=
  let ⟨_, h1, h2⟩ := h; .lst h1 (prs_dp h2)
theorem canLay_dPs : ∀ ps : List (Int × Int), PyData.canLayAll0 (ps.map dP) = true
  | [] => rfl
  | p :: r => by
    rw [List.map_cons]
    show (PyData.canLay0 (dP p) && PyData.canLayAll0 (r.map dP)) = true
    rw [canLay_dPs r]
    rfl
theorem depth_dPs : ∀ ps : List (Int × Int), PyData.depthAll (ps.map dP) ≤ 3
  | [] => by decide
  | p :: r => by
    have h := depth_dPs r
    rw [List.map_cons]
    show max (PyData.depth (dP p)) (PyData.depthAll (r.map dP)) ≤ 3
    have : PyData.depth (dP p) ≤ 3 := by
      show PyData.depth (.tuple [.int p.1, .int p.2]) ≤ 3
      simp [PyData.depth, PyData.depthAll]
    omega
theorem shaped_till (ps : List (Int × Int)) : SeqAt.shaped (.list (ps.map dP)) = true := by
  unfold SeqAt.shaped
  have h1 : PyData.canLay0 (.list (ps.map dP)) = true := canLay_dPs ps
  have h2 : PyData.depth (.list (ps.map dP)) ≤ 64 := by
    have := depth_dPs ps
    simp only [PyData.depth]
    omega
  rw [h1, decide_eq_true h2]
  rfl
theorem eqv_of_shaped {d : PyData} (h : SeqAt.shaped d = true) : PyData.eqv d d = true := PySem.SeqAt.eqv_refl d (SeqAt.canLay_of_shaped h)
theorem t_yes {A B : Hp → Prop} {σ : L2.St} {H : Hp} (h : A H) : tYes σ H (fun b H3 => if b = true then A H3 else B H3) := by
  show if true = true then A H else B H
  rw [if_pos rfl]
  exact h
theorem canLay_ints : ∀ l : List Int, PyData.canLayAll0 (l.map PyData.int) = true
  | [] => rfl
  | p :: r => by
    rw [List.map_cons]
    show (PyData.canLay0 (.int p) && PyData.canLayAll0 (r.map PyData.int)) = true
    rw [canLay_ints r]
    rfl
theorem depth_ints : ∀ l : List Int, PyData.depthAll (l.map PyData.int) ≤ 3
  | [] => by decide
  | p :: r => by
    have h := depth_ints r
    rw [List.map_cons]
    show max (PyData.depth (.int p)) (PyData.depthAll (r.map PyData.int)) ≤ 3
    have : PyData.depth (.int p) ≤ 3 := by simp [PyData.depth]
    omega
theorem shaped_ints (l : List Int) : SeqAt.shaped (.list (l.map PyData.int)) = true := by
  unfold SeqAt.shaped
  have h1 : PyData.canLay0 (.list (l.map PyData.int)) = true := canLay_ints l
  have h2 : PyData.depth (.list (l.map PyData.int)) ≤ 64 := by
    have := depth_ints l
    simp only [PyData.depth]
    omega
  rw [h1, decide_eq_true h2]
  rfl
theorem kone_own {K : PySem.W.Frag} {D C : Addr} {b : Bool} (hn : D ≠ C) (h2 : PySem.W.isClsIn K C = true) (h3 : PySem.W.typeIn K (.ref C) = some (.type "type")) (h4 : PySem.W.subIn K (.ref D) (.ref C) = some b) : PySem.W.kitOne K (.ref D) (.ref C) = some b := by
  have e1 : ¬ (Value.ref D == Value.ref C) = true := fun z => hn (Value.ref.inj (beq_iff_eq.mp z))
  have e2 : ((PySem.W.clsIn K C).isSome && PySem.W.typeIn K (.ref C) == some (.type "type")) = true := by
    have h2' : (PySem.W.clsIn K C).isSome = true := h2
    rw [h2', h3] <;> rfl
  unfold PySem.W.kitOne
  rw [if_neg e1]
  show (if ((PySem.W.clsIn K C).isSome && PySem.W.typeIn K (.ref C) == some (.type "type")) = true then PySem.W.subIn K (.ref D) (.ref C) else none) = some b
  rw [if_pos e2]
  exact h4
theorem kone_self {K : PySem.W.Frag} {D : Addr} : PySem.W.kitOne K (.ref D) (.ref D) = some true := by
  unfold PySem.W.kitOne
  rw [if_pos (beq_self_eq_true _)]
theorem kone_ty {K : PySem.W.Frag} {D : Addr} (h : PySem.W.subIn K (.ref D) (.type "ValueError") = some true) : PySem.W.kitOne K (.ref D) (.type "ValueError") = some true := by
  have e1 : ¬ (Value.ref D == Value.type "ValueError") = true := fun z => by cases beq_iff_eq.mp z
  unfold PySem.W.kitOne
  rw [if_neg e1]
  show (if PySem.W.kitMeta "ValueError" = true then PySem.W.subIn K (.ref D) (.type "ValueError") else none) = some true
  rw [if_pos (by decide +kernel)]
  exact h
theorem kany_f {K : PySem.W.Frag} {t c : Value} {cs : List Value} {r : Bool} (h : PySem.W.kitOne K t c = some false) (hr : PySem.W.kitAny K t cs = some r) : PySem.W.kitAny K t (c :: cs) = some r :=
  kitAny_cons h (fun _ => hr) fun z => nomatch z
theorem kany_t {K : PySem.W.Frag} {t c : Value} {cs : List Value} (h : PySem.W.kitOne K t c = some true) : PySem.W.kitAny K t (c :: cs) = some true :=
  kitAny_cons h (fun z => nomatch z) fun _ => rfl
theorem take_snoc {α : Type} {l : List α} {i : Nat} {x : α} (h : l[i]? = some x) : l.take (i + 1) = l.take i ++ [x] := by
  rw [List.take_add_one, h]
  rfl
theorem drop_at {α : Type} {l : List α} {i : Nat} {x : α} (h : l[i]? = some x) : l.drop i = x :: l.drop (i + 1) := by
  obtain ⟨hi, e⟩ := List.getElem?_eq_some_iff.mp h
  rw [List.drop_eq_getElem_cons hi, e]
theorem none_back {H H' : Hp} {p : Addr} (ex : Ex H H') (h : H' p = none) : H p = none := by
  cases z : H p with
  | none => rfl
  | some o => rw [ex _ _ z] at h; cases h
theorem Prs.take {H : Hp} : ∀ {xs : List V} {ps : List (Int × Int)} (n : Nat), Prs H xs ps → Prs H (xs.take n) (ps.take n)
  | _, _, 0, _ => .nil
  | _, _, _ + 1, .nil => .nil
  | _, _, n + 1, .cons h r => .cons h (Prs.take n r)
theorem Prs.drop {H : Hp} : ∀ {xs : List V} {ps : List (Int × Int)} (n : Nat), Prs H xs ps → Prs H (xs.drop n) (ps.drop n)
  | _, _, 0, h => h
  | _, _, _ + 1, .nil => .nil
  | _, _, n + 1, .cons h r => Prs.drop n r
theorem Prs.app {H : Hp} : ∀ {xs ys : List V} {ps qs : List (Int × Int)}, Prs H xs ps → Prs H ys qs → Prs H (xs ++ ys) (ps ++ qs)
  | _, _, _, _, .nil, h => h
  | _, _, _, _, .cons a r, h => .cons a (Prs.app r h)
theorem cut_take (xs : List V) (k : Nat) (h : k ≤ xs.length) : cutV xs none (some (k : Int)) = xs.take k := by
  unfold cutV
  rw [HT.sIx_none, HT.sIx_nat, List.drop_zero, Nat.sub_zero, Nat.min_eq_left h]
theorem cut_drop (xs : List V) (k : Nat) (h : k ≤ xs.length) : cutV xs (some (k : Int)) none = xs.drop k := by
  unfold cutV
  rw [HT.sIx_none, HT.sIx_nat, Nat.min_eq_left h, List.take_of_length_le (by rw [List.length_drop]; exact Nat.le_refl _)]
theorem seq_at {i : Int} {n : Nat} (h0 : 0 ≤ i) (h1 : i < n) : seqIndex? i n = some i.toNat := by
  have h2 : ¬ i < 0 := by omega
  simp [seqIndex?, h2, h0, h1]
theorem nodup_at {α : Type} {l : List α} {i j : Nat} {x : α} (h : l.Nodup) (hi : l[i]? = some x) (hj : l[j]? = some x) : i = j := by
  obtain ⟨h1, e1⟩ := List.getElem?_eq_some_iff.mp hi
  obtain ⟨h2, e2⟩ := List.getElem?_eq_some_iff.mp hj
  rcases Nat.lt_trichotomy i j with z | z | z
  · exact absurd (e1.trans e2.symm) (List.pairwise_iff_getElem.mp h i j h1 h2 z)
  · exact z
  · exact absurd (e2.trans e1.symm) (List.pairwise_iff_getElem.mp h j i h2 h1 z)
theorem Prs.keep {H H' : Hp} : ∀ {xs : List V} {ps : List (Int × Int)}, Prs H xs ps → (∀ t zs, H t = some (.tup zs) → H' t = some (.tup zs)) → Prs H' xs ps
  | _, _, .nil, _ => .nil
  | _, _, .cons ⟨t, h1, h2⟩ r, k => .cons ⟨t, h1, k _ _ h2⟩ (Prs.keep r k)
theorem take_succ_map {α β : Type} {l : List α} {i : Nat} {x : α} (f : α → β) (h : l[i]? = some x) : (l.take (i + 1)).map f = (l.take i).map f ++ [f x] := by
  rw [List.take_add_one, h, List.map_append]
  rfl
theorem rising_nd {ps : List (Int × Int)} (h : Rising ps) : (ps.map (·.1)).Nodup := by
  rw [List.Nodup, List.pairwise_map]
  exact h.imp fun z e => by omega
/-! ### what the law draws -/
def cell (ns : List Int) (k : Nat) : Int := ns.getD k 0
def mixed (c k : Int) : Int := (c + 7919 * k) * 48271 % 2147483647
theorem mixed_nn (c k : Int) : 0 ≤ mixed c k := Int.emod_nonneg _ (by decide)
theorem mixed_lt (c k : Int) : mixed c k < 2147483647 := Int.emod_lt_of_pos _ (by decide)
def spCellAt (K : PySem.W.Frag) : Sp := fun vs H Q _ => ∃ (a : Addr) (ns : List Int) (k : Nat), vs = [.ref a, .int k] ∧ SqL K H a (ns.map V.int) ∧ Q (.int (cell ns k)) H
theorem ok_cell_at (T : Tx K mg) : FnOk P w K mg base CX0 1 T.a__law_cell_at T.d__law_cell_at P__law_cell_at (spCellAt K) := by
  refine T.f__law_cell_at.ok sc__law_cell_at (fun vs H Q E h => ?_) (fun cdv A outer s H vs Q E hr h => ?_)
  · obtain ⟨a, ns, k, rfl, _⟩ := h
    rfl
  · obtain ⟨a, ns, k, rfl, hS, q⟩ := h
    refine ⟨_, (pss_cons (ps_if (pt_cmpR op_lt (pv 1) (pe_callB call_len_seq (by rfl) T.m_len (by decide +kernel) (pa_cons (pv 0) pa_nil)) (nomark _))
      (pss_one (ps_ret (pe_ix ix_list (pv 0) (pv 1) (fun _ _ => rfl))))
      pss_nil)
    (pss_one (ps_ret pe_int))), ?_⟩
    refine ⟨_, rfl, _, rfl, a, _, rfl, .inl hS, _, _, rfl, rfl, _, rfl, ite2 (fun e => ?_) (fun e => ?_)⟩
    · have e1 : (k : Int) < ((ns.map V.int).length : Int) := of_decide_eq_true e
      rw [List.length_map] at e1
      have e2 : k < ns.length := by omega
      refine ⟨_, rfl, _, rfl, a, _, _, .int (cell ns k), rfl, rfl, hS, atI_nat ?_, q⟩
      rw [List.getElem?_map, List.getElem?_eq_getElem e2]
      show some (V.int ns[k]) = _
      unfold cell
      rw [List.getD_eq_getElem?_getD, List.getElem?_eq_getElem e2]
      rfl
    · have e1 : ¬ (k : Int) < ((ns.map V.int).length : Int) := fun z => e (decide_eq_true z)
      rw [List.length_map] at e1
      have e2 : cell ns k = 0 := by
        unfold cell
        rw [List.getD_eq_getElem?_getD, List.getElem?_eq_none (by omega)]
        rfl
      rw [e2] at q
      exact q
def spMixed : Sp := fun vs H Q _ => ∃ c k, vs = [.int c, .int k] ∧ (-(2 ^ 64) < k ∧ k < 2 ^ 64) ∧ Q (.int (mixed c k)) H
theorem ok_mixed (T : Tx K mg) : FnOk P w K mg base CX0 1 T.a__law_mixed T.d__law_mixed P__law_mixed spMixed := by
  refine T.f__law_mixed.ok sc__law_mixed (fun vs H Q E h => ?_) (fun cdv A outer s H vs Q E hr h => ?_)
  · obtain ⟨c, k, rfl, _⟩ := h
    rfl
  · obtain ⟨c, k, rfl, hk, q⟩ := h
    refine ⟨_, (pss_one (ps_ret (pe_op op_mod (pe_op op_mul (pe_op op_add (pv 0) (pe_op op_mul pe_int (pv 1))) pe_int) pe_int))), ?_⟩
    repeat (first | refine ⟨_, rfl, ?_⟩ | refine ⟨(by show (0 : Int) < _; decide), ?_⟩ | refine ⟨⟨by decide, by decide⟩, ?_⟩ | refine ⟨.inr ⟨by decide, by decide⟩, ?_⟩ | refine ⟨.inl ⟨by decide, by decide⟩, ?_⟩ | refine ⟨⟨by decide, by decide, by decide⟩, ?_⟩ | refine ⟨_, _, rfl, rfl, ?_⟩ | refine ⟨rfl, _, rfl, ?_⟩)
    exact q
def menu : List Int := [1, 2, 5, 10, 20, 50, 100, 200, 500, 1000]
theorem menu_in : ∀ i : Nat, i < 10 → 1 ≤ menu.getD i 0 ∧ menu.getD i 0 ≤ 1000 := by decide
theorem menu_at {ms : List Int} {i : Int} {n : Nat} (hl : ms.length = n) (h0 : 0 ≤ i) (h1 : i < n) : atI (ms.map V.int) i = some (.int (ms.getD i.toNat 0)) := by
  have hn : ((i.toNat : Nat) : Int) = i := Int.toNat_of_nonneg h0
  have hlt : i.toNat < ms.length := by omega
  refine at_of hn.symm ?_
  rw [List.getElem?_map, List.getElem?_eq_getElem hlt, List.getD_eq_getElem?_getD, List.getElem?_eq_getElem hlt]
  rfl
def value (c k : Int) : Int := if c % 3 = 0 then menu.getD (mixed c k % 10).toNat 0 else if c % 3 = 1 then 1 + mixed c k % 30 else 1 + mixed c k % 1000
theorem value_in (c k : Int) : 1 ≤ value c k ∧ value c k ≤ 1000 := by
  unfold value
  split
  · exact menu_in _ (by have := Int.emod_lt_of_pos (mixed c k) (by decide : (0 : Int) < 10); have := Int.emod_nonneg (mixed c k) (by decide : (10 : Int) ≠ 0); omega)
  · split <;> omega
def spValue : Sp := fun vs H Q _ => ∃ c k, vs = [.int c, .int k] ∧ (-(2 ^ 64) < k ∧ k < 2 ^ 64) ∧ Ret (.int (value c k)) H Q
theorem ok_value (T : Tx K mg) : FnOk P w K mg base CX0 2 T.a__law_value T.d__law_value P__law_value spValue := by
  have G__law_mixed := ok_mixed (P := P) (w := w) (base := base) T
  refine T.f__law_value.ok sc__law_value (fun vs H Q E h => ?_) (fun cdv A outer s H vs Q E hr h => ?_)
  · obtain ⟨c, k, rfl, _⟩ := h
    rfl
  · obtain ⟨c, k, rfl, hk, q⟩ := h
    refine ⟨_, (pss_cons (ps_set (i := 2) sc__law_value.nd rfl (.inl rfl) (pe_call G__law_mixed (hr.mono (by decide)) (by rfl) T.g__law_mixed T.f__law_mixed.kp T.p__law_mixed .nil pass0 (pa_cons (pv 0) (pa_cons (pv 1) pa_nil))))
    (pss_cons (ps_if (pt_cmpR op_eq (pe_op op_mod (pv 0) pe_int) pe_int (nomark _))
      (pss_one (ps_ret (pe_ix ix_list (pe_lst (pa_cons pe_int (pa_cons pe_int (pa_cons pe_int (pa_cons pe_int (pa_cons pe_int (pa_cons pe_int (pa_cons pe_int (pa_cons pe_int (pa_cons pe_int (pa_cons pe_int pa_nil))))))))))) (pe_op op_mod (pv 2) pe_int) (fun _ _ => rfl))))
      pss_nil)
    (pss_cons (ps_if (pt_cmpR op_eq (pe_op op_mod (pv 0) pe_int) pe_int (nomark _))
      (pss_one (ps_ret (pe_op op_add pe_int (pe_op op_mod (pv 2) pe_int))))
      pss_nil)
    (pss_one (ps_ret (pe_op op_add pe_int (pe_op op_mod (pv 2) pe_int))))))), ?_⟩
    unfold value at q
    repeat (first | refine ⟨_, rfl, ?_⟩ | refine ⟨(by show (0 : Int) < _; decide), ?_⟩ | refine ⟨⟨by decide, by decide⟩, ?_⟩ | refine ⟨.inr ⟨by decide, by decide⟩, ?_⟩ | refine ⟨.inl ⟨by decide, by decide⟩, ?_⟩ | refine ⟨⟨by decide, by decide, by decide⟩, ?_⟩ | refine ⟨_, _, rfl, rfl, ?_⟩ | refine ⟨rfl, _, rfl, ?_⟩)
    refine ⟨_, _, rfl, hk, ?_⟩
    repeat (first | refine ⟨_, rfl, ?_⟩ | refine ⟨(by show (0 : Int) < _; decide), ?_⟩ | refine ⟨⟨by decide, by decide⟩, ?_⟩ | refine ⟨.inr ⟨by decide, by decide⟩, ?_⟩ | refine ⟨.inl ⟨by decide, by decide⟩, ?_⟩ | refine ⟨⟨by decide, by decide, by decide⟩, ?_⟩ | refine ⟨_, _, rfl, rfl, ?_⟩ | refine ⟨rfl, _, rfl, ?_⟩)
    first | refine iteVI (fun e => ?_) (fun e => ?_) | refine iteVN (fun e => ?_) (fun e => ?_) | refine iteD (fun e => ?_) (fun e => ?_) | refine iteDN (fun e => ?_) (fun e => ?_) | refine iteB (fun e => ?_) (fun e => ?_)
    · rw [if_pos e] at q
      refine ⟨len63 (by decide), fun p hp => ?_⟩
      repeat (first | refine ⟨_, rfl, ?_⟩ | refine ⟨(by show (0 : Int) < _; decide), ?_⟩ | refine ⟨⟨by decide, by decide⟩, ?_⟩ | refine ⟨.inr ⟨by decide, by decide⟩, ?_⟩ | refine ⟨.inl ⟨by decide, by decide⟩, ?_⟩ | refine ⟨⟨by decide, by decide, by decide⟩, ?_⟩ | refine ⟨_, _, rfl, rfl, ?_⟩ | refine ⟨rfl, _, rfl, ?_⟩)
      exact ⟨p, menu.map V.int, _, _, rfl, rfl, .of upd_same, menu_at rfl (Int.emod_nonneg _ (by decide)) (Int.emod_lt_of_pos _ (by decide)), q _ (Ex.nw hp)⟩
    · rw [if_neg e] at q
      repeat (first | refine ⟨_, rfl, ?_⟩ | refine ⟨(by show (0 : Int) < _; decide), ?_⟩ | refine ⟨⟨by decide, by decide⟩, ?_⟩ | refine ⟨.inr ⟨by decide, by decide⟩, ?_⟩ | refine ⟨.inl ⟨by decide, by decide⟩, ?_⟩ | refine ⟨⟨by decide, by decide, by decide⟩, ?_⟩ | refine ⟨_, _, rfl, rfl, ?_⟩ | refine ⟨rfl, _, rfl, ?_⟩)
      first | refine iteVI (fun e => ?_) (fun e => ?_) | refine iteVN (fun e => ?_) (fun e => ?_) | refine iteD (fun e => ?_) (fun e => ?_) | refine iteDN (fun e => ?_) (fun e => ?_) | refine iteB (fun e => ?_) (fun e => ?_)
      · rw [if_pos e] at q
        repeat (first | refine ⟨_, rfl, ?_⟩ | refine ⟨(by show (0 : Int) < _; decide), ?_⟩ | refine ⟨⟨by decide, by decide⟩, ?_⟩ | refine ⟨.inr ⟨by decide, by decide⟩, ?_⟩ | refine ⟨.inl ⟨by decide, by decide⟩, ?_⟩ | refine ⟨⟨by decide, by decide, by decide⟩, ?_⟩ | refine ⟨_, _, rfl, rfl, ?_⟩ | refine ⟨rfl, _, rfl, ?_⟩)
        exact q _ Ex.rfl'
      · rw [if_neg e] at q
        repeat (first | refine ⟨_, rfl, ?_⟩ | refine ⟨(by show (0 : Int) < _; decide), ?_⟩ | refine ⟨⟨by decide, by decide⟩, ?_⟩ | refine ⟨.inr ⟨by decide, by decide⟩, ?_⟩ | refine ⟨.inl ⟨by decide, by decide⟩, ?_⟩ | refine ⟨⟨by decide, by decide, by decide⟩, ?_⟩ | refine ⟨_, _, rfl, rfl, ?_⟩ | refine ⟨rfl, _, rfl, ?_⟩)
        exact q _ Ex.rfl'
def count (c k : Int) : Int := if c / 3 % 4 = 1 then mixed c k % 61 else if c / 3 % 12 = 6 then mixed c k / 7 % 2 * (1000000000 - mixed c k % 50) else mixed c k % 5
theorem count_in (c k : Int) : 0 ≤ count c k ∧ count c k ≤ 1000000000 := by
  unfold count
  split
  · omega
  · split
    · rcases (by omega : mixed c k / 7 % 2 = 0 ∨ mixed c k / 7 % 2 = 1) with h | h <;> rw [h] <;> omega
    · omega
def spCount : Sp := fun vs H Q _ => ∃ c k, vs = [.int c, .int k] ∧ (-(2 ^ 64) < k ∧ k < 2 ^ 64) ∧ Q (.int (count c k)) H
theorem ok_count (T : Tx K mg) : FnOk P w K mg base CX0 2 T.a__law_count T.d__law_count P__law_count spCount := by
  have G__law_mixed := ok_mixed (P := P) (w := w) (base := base) T
  refine T.f__law_count.ok sc__law_count (fun vs H Q E h => ?_) (fun cdv A outer s H vs Q E hr h => ?_)
  · obtain ⟨c, k, rfl, _⟩ := h
    rfl
  · obtain ⟨c, k, rfl, hk, q⟩ := h
    refine ⟨_, (pss_cons (ps_set (i := 2) sc__law_count.nd rfl (.inl rfl) (pe_call G__law_mixed (hr.mono (by decide)) (by rfl) T.g__law_mixed T.f__law_mixed.kp T.p__law_mixed .nil pass0 (pa_cons (pv 0) (pa_cons (pv 1) pa_nil))))
    (pss_cons (ps_if (pt_cmpR op_eq (pe_op op_mod (pe_op op_fdiv (pv 0) pe_int) pe_int) pe_int (nomark _))
      (pss_one (ps_ret (pe_op op_mod (pv 2) pe_int)))
      pss_nil)
    (pss_cons (ps_if (pt_cmpR op_eq (pe_op op_mod (pe_op op_fdiv (pv 0) pe_int) pe_int) pe_int (nomark _))
      (pss_one (ps_ret (pe_op op_mul (pe_op op_mod (pe_op op_fdiv (pv 2) pe_int) pe_int) (pe_op op_sub (pe_op op_pow pe_int pe_int) (pe_op op_mod (pv 2) pe_int)))))
      pss_nil)
    (pss_one (ps_ret (pe_op op_mod (pv 2) pe_int)))))), ?_⟩
    unfold count at q
    repeat (first | refine ⟨_, rfl, ?_⟩ | refine ⟨(by show (0 : Int) < _; decide), ?_⟩ | refine ⟨⟨by decide, by decide⟩, ?_⟩ | refine ⟨.inr ⟨by decide, by decide⟩, ?_⟩ | refine ⟨.inl ⟨by decide, by decide⟩, ?_⟩ | refine ⟨⟨by decide, by decide, by decide⟩, ?_⟩ | refine ⟨_, _, rfl, rfl, ?_⟩ | refine ⟨rfl, _, rfl, ?_⟩)
    refine ⟨_, _, rfl, hk, ?_⟩
    repeat (first | refine ⟨_, rfl, ?_⟩ | refine ⟨(by show (0 : Int) < _; decide), ?_⟩ | refine ⟨⟨by decide, by decide⟩, ?_⟩ | refine ⟨.inr ⟨by decide, by decide⟩, ?_⟩ | refine ⟨.inl ⟨by decide, by decide⟩, ?_⟩ | refine ⟨⟨by decide, by decide, by decide⟩, ?_⟩ | refine ⟨_, _, rfl, rfl, ?_⟩ | refine ⟨rfl, _, rfl, ?_⟩)
    first | refine iteVI (fun e => ?_) (fun e => ?_) | refine iteVN (fun e => ?_) (fun e => ?_) | refine iteD (fun e => ?_) (fun e => ?_) | refine iteDN (fun e => ?_) (fun e => ?_) | refine iteB (fun e => ?_) (fun e => ?_)
    · rw [if_pos e] at q
      repeat (first | refine ⟨_, rfl, ?_⟩ | refine ⟨(by show (0 : Int) < _; decide), ?_⟩ | refine ⟨⟨by decide, by decide⟩, ?_⟩ | refine ⟨.inr ⟨by decide, by decide⟩, ?_⟩ | refine ⟨.inl ⟨by decide, by decide⟩, ?_⟩ | refine ⟨⟨by decide, by decide, by decide⟩, ?_⟩ | refine ⟨_, _, rfl, rfl, ?_⟩ | refine ⟨rfl, _, rfl, ?_⟩)
      exact q
    · rw [if_neg e] at q
      repeat (first | refine ⟨_, rfl, ?_⟩ | refine ⟨(by show (0 : Int) < _; decide), ?_⟩ | refine ⟨⟨by decide, by decide⟩, ?_⟩ | refine ⟨.inr ⟨by decide, by decide⟩, ?_⟩ | refine ⟨.inl ⟨by decide, by decide⟩, ?_⟩ | refine ⟨⟨by decide, by decide, by decide⟩, ?_⟩ | refine ⟨_, _, rfl, rfl, ?_⟩ | refine ⟨rfl, _, rfl, ?_⟩)
      first | refine iteVI (fun e => ?_) (fun e => ?_) | refine iteVN (fun e => ?_) (fun e => ?_) | refine iteD (fun e => ?_) (fun e => ?_) | refine iteDN (fun e => ?_) (fun e => ?_) | refine iteB (fun e => ?_) (fun e => ?_)
      · rw [if_pos e] at q
        have h1 := mixed_nn c k
        have h2 := mixed_lt c k
        repeat (first | refine ⟨_, rfl, ?_⟩ | refine ⟨(by show (0 : Int) < _; decide), ?_⟩ | refine ⟨⟨by decide, by decide⟩, ?_⟩ | refine ⟨.inr ⟨by decide, by decide⟩, ?_⟩ | refine ⟨.inl ⟨by decide, by decide⟩, ?_⟩ | refine ⟨⟨by decide, by decide, by decide⟩, ?_⟩ | refine ⟨_, _, rfl, rfl, ?_⟩ | refine ⟨rfl, _, rfl, ?_⟩)
        refine ⟨.inl ⟨by omega, by omega⟩, ?_⟩
        exact q
      · rw [if_neg e] at q
        repeat (first | refine ⟨_, rfl, ?_⟩ | refine ⟨(by show (0 : Int) < _; decide), ?_⟩ | refine ⟨⟨by decide, by decide⟩, ?_⟩ | refine ⟨.inr ⟨by decide, by decide⟩, ?_⟩ | refine ⟨.inl ⟨by decide, by decide⟩, ?_⟩ | refine ⟨⟨by decide, by decide, by decide⟩, ?_⟩ | refine ⟨_, _, rfl, rfl, ?_⟩ | refine ⟨rfl, _, rfl, ?_⟩)
        exact q
/-! the kinds: a value that stands already is moved on -/
def nxt (v : Int) : Int := v % 1000 + 1
def itn (v : Int) (j : Nat) : Int := (v - 1 + j) % 1000 + 1
theorem itn_zero {v : Int} (h1 : 1 ≤ v) (h2 : v ≤ 1000) : itn v 0 = v := by unfold itn; omega
theorem itn_succ (v : Int) (j : Nat) : itn v (j + 1) = nxt (itn v j) := by unfold itn nxt; omega
theorem itn_in (v : Int) (j : Nat) : 1 ≤ itn v j ∧ itn v j ≤ 1000 := by unfold itn; omega
theorem itn_inj {v : Int} {i j : Nat} (hi : i < 1000) (hj : j < 1000) (h : itn v i = itn v j) : i = j := by unfold itn at h; omega
theorem escape : ∀ (n : Nat) (ks : List Int) (f : Nat → Int), ks.length = n → (∀ i j, i ≤ n → j ≤ n → f i = f j → i = j) → ∃ j, j ≤ n ∧ f j ∉ ks
  | 0, ks, f, hl, _ => ⟨0, Nat.le_refl _, by rw [List.length_eq_zero_iff.mp hl]; simp⟩
  | n + 1, ks, f, hl, hf => by
    by_cases h : f 0 ∈ ks
    · obtain ⟨j, hj, hn⟩ := escape n (ks.erase (f 0)) (fun i => f (i + 1)) (by rw [List.length_erase_of_mem h]; omega) fun i j hi hj e => by
        have := hf (i + 1) (j + 1) (by omega) (by omega) e
        omega
      refine ⟨j + 1, by omega, fun z => hn ?_⟩
      refine (List.mem_erase_of_ne fun e => ?_).mpr z
      have := hf (j + 1) 0 (by omega) (by omega) e
      omega
    · exact ⟨0, Nat.zero_le _, h⟩
theorem free_at {ks : List Int} (v : Int) (h : ks.length < 1000) : ∃ j, itn v j ∉ ks := by
  obtain ⟨j, _, hn⟩ := escape ks.length ks (itn v) rfl fun i j hi hj e => itn_inj (by omega) (by omega) e
  exact ⟨j, hn⟩
theorem least {p : Nat → Prop} (h : ∃ j, p j) : ∃ j, p j ∧ ∀ i, i < j → ¬ p i := by
  obtain ⟨j, hj⟩ := h
  induction j using Nat.strongRecOn with
  | _ j ih =>
    by_cases z : ∃ i, i < j ∧ p i
    · obtain ⟨i, hi, hp⟩ := z
      exact ih i hi hp
    · exact ⟨j, hj, fun i hi hp => z ⟨i, hi, hp⟩⟩
def dkv (ks : List Int) : List (Key × V) := ks.map fun k => (Sum.inl k, V.bl true)
theorem dkv_none {ks : List Int} {k : Int} (h : k ∉ ks) : valV (dkv ks) (Sum.inl k) = none := by
  cases e : valV (dkv ks) (Sum.inl k) with
  | none => rfl
  | some v =>
    have := valV_in e
    unfold dkv at this
    rw [List.map_map] at this
    obtain ⟨x, hx, ex⟩ := List.mem_map.mp this
    cases ex
    exact absurd hx h
theorem dkv_some {ks : List Int} {k : Int} (h : k ∈ ks) : ∃ v, valV (dkv ks) (Sum.inl k) = some v := by
  cases e : valV (dkv ks) (Sum.inl k) with
  | some v => exact ⟨v, rfl⟩
  | none =>
    refine absurd ?_ (valV_not e)
    unfold dkv
    rw [List.map_map]
    exact List.mem_map.mpr ⟨k, h, rfl⟩
theorem dkv_put {ks : List Int} {k : Int} (h : k ∉ ks) : putK (dkv ks) (Sum.inl k) (V.bl true) = dkv (ks ++ [k]) := by
  rw [putK_new _ (dkv_none h)]
  unfold dkv
  rw [List.map_append]
  rfl
def spPairs (K : PySem.W.Frag) : Sp := fun vs H Q _ => ∃ (a : Addr) (ns : List Int), vs = [.ref a] ∧ SqL K H a (ns.map V.int) ∧
  ∀ p xs ps H2, Ex H H2 → H p = none → H2 p = some (.lst xs) → Prs H2 xs ps → Drawn ps → 1 ≤ ps.length → ps.length ≤ 10 → Q (.ref p) H2
theorem ok_pairs (T : Tx K mg) : FnOk P w K mg base CX0 3 T.a__law_pairs T.d__law_pairs P__law_pairs (spPairs K) := by
  have G__law_cell_at := ok_cell_at (P := P) (w := w) (base := base) T
  have G__law_value := ok_value (P := P) (w := w) (base := base) T
  have G__law_count := ok_count (P := P) (w := w) (base := base) T
  refine T.f__law_pairs.ok sc__law_pairs (fun vs H Q E h => ?_) (fun cdv A outer s H vs Q E hr h => ?_)
  · obtain ⟨a, ns, rfl, _⟩ := h
    rfl
  · obtain ⟨a, ns, rfl, hS, q⟩ := h
    refine ⟨_, (pss_cons (ps_set (i := 1) sc__law_pairs.nd rfl (.inl rfl) (pe_call G__law_cell_at (hr.mono (by decide)) (by rfl) T.g__law_cell_at T.f__law_cell_at.kp T.p__law_cell_at .nil pass0 (pa_cons (pv 0) (pa_cons pe_int pa_nil))))
    (pss_cons (ps_set (i := 2) sc__law_pairs.nd rfl (.inl rfl) (pe_op op_add pe_int (pe_op op_mod (pv 1) pe_int)))
    (Evl.pss_cut (ps_if (pt_cmpR op_eq (pe_op op_mod (pe_op op_fdiv (pv 1) pe_int) pe_int) pe_int (nomark _))
      (pss_one (ps_set (i := 2) sc__law_pairs.nd rfl (.inl rfl) (pe_op op_add pe_int (pe_op op_mod (pe_op op_fdiv (pv 1) pe_int) pe_int))))
      pss_nil)
    (pss_cons (ps_set (i := 3) sc__law_pairs.nd rfl (.inl rfl) (pe_lst pa_nil))
    (pss_cons (ps_set (i := 4) sc__law_pairs.nd rfl (.inl rfl) pe_dnewK)
    (pss_cons (ps_for PassesOwn.never rfl (pi_range1 (by rfl) T.m_range (pa_cons (pv 2) pa_nil)) (pg_name (i := 5) sc__law_pairs.nd rfl (.inl rfl))
      (pss_cons (ps_set (i := 6) sc__law_pairs.nd rfl (.inl rfl) (pe_call G__law_value (hr.mono (by decide)) (by rfl) T.g__law_value T.f__law_value.kp T.p__law_value .nil pass0 (pa_cons (pe_call G__law_cell_at (hr.mono (by decide)) (by rfl) T.g__law_cell_at T.f__law_cell_at.kp T.p__law_cell_at .nil pass0 (pa_cons (pv 0) (pa_cons pe_int pa_nil))) (pa_cons (pe_op op_add (pv 5) pe_int) pa_nil))))
      (pss_cons (ps_while PassesOwn.never (pt_cmp (pc_din (hu_of hr) (pv 6) (pv 4)))
        (pss_one (ps_set (i := 6) sc__law_pairs.nd rfl (.inl rfl) (pe_op op_add (pe_op op_mod (pv 6) pe_int) pe_int))))
      (pss_cons (ps_dput (hu_of hr) (pv 4) (pv 6) pe_bl rfl)
      (pss_one (ps_expr (pe_bm PySem.F.plainAttrs_list PySem.F.slot_list_append PySem.F.type_list_append mt_append (pv 3) (pa_cons (pe_tup (pa_cons (pv 6) (pa_cons (pe_call G__law_count (hr.mono (by decide)) (by rfl) T.g__law_count T.f__law_count.kp T.p__law_count .nil pass0 (pa_cons (pe_call G__law_cell_at (hr.mono (by decide)) (by rfl) T.g__law_cell_at T.f__law_cell_at.kp T.p__law_cell_at .nil pass0 (pa_cons (pv 0) (pa_cons pe_int pa_nil))) (pa_cons (pe_op op_add (pv 5) pe_int) pa_nil))) pa_nil))) pa_nil))))))))
    (pss_one (ps_ret (pv 3))))))))), ?_⟩
    refine ⟨_, rfl, a, ns, 0, rfl, hS, ?_⟩
    repeat (first | refine ⟨_, rfl, ?_⟩ | refine ⟨(by show (0 : Int) < _; decide), ?_⟩ | refine ⟨⟨by decide, by decide⟩, ?_⟩ | refine ⟨.inr ⟨by decide, by decide⟩, ?_⟩ | refine ⟨.inl ⟨by decide, by decide⟩, ?_⟩ | refine ⟨⟨by decide, by decide, by decide⟩, ?_⟩ | refine ⟨_, _, rfl, rfl, ?_⟩ | refine ⟨rfl, _, rfl, ?_⟩)
    refine ⟨fun σ' H' => ∃ m : Int, 1 ≤ m ∧ m ≤ 10 ∧ σ' = [some (.ref a), some (.int (cell ns 0)), some (.int m), none, none, none, none] ∧ H' = H, ?_, ?_⟩
    · repeat (first | refine ⟨_, rfl, ?_⟩ | refine ⟨(by show (0 : Int) < _; decide), ?_⟩ | refine ⟨⟨by decide, by decide⟩, ?_⟩ | refine ⟨.inr ⟨by decide, by decide⟩, ?_⟩ | refine ⟨.inl ⟨by decide, by decide⟩, ?_⟩ | refine ⟨⟨by decide, by decide, by decide⟩, ?_⟩ | refine ⟨_, _, rfl, rfl, ?_⟩ | refine ⟨rfl, _, rfl, ?_⟩)
      first | refine iteVI (fun e => ?_) (fun e => ?_) | refine iteVN (fun e => ?_) (fun e => ?_) | refine iteD (fun e => ?_) (fun e => ?_) | refine iteDN (fun e => ?_) (fun e => ?_) | refine iteB (fun e => ?_) (fun e => ?_)
      · repeat (first | refine ⟨_, rfl, ?_⟩ | refine ⟨(by show (0 : Int) < _; decide), ?_⟩ | refine ⟨⟨by decide, by decide⟩, ?_⟩ | refine ⟨.inr ⟨by decide, by decide⟩, ?_⟩ | refine ⟨.inl ⟨by decide, by decide⟩, ?_⟩ | refine ⟨⟨by decide, by decide, by decide⟩, ?_⟩ | refine ⟨_, _, rfl, rfl, ?_⟩ | refine ⟨rfl, _, rfl, ?_⟩)
        exact ⟨_, by omega, by omega, rfl, rfl⟩
      · exact ⟨_, by omega, by omega, rfl, rfl⟩
    rintro σ' H' ⟨m, hm1, hm2, rfl, rfl⟩
    refine ⟨Nat.zero_le _, fun f hf d hd => ?_⟩
    have nfd : d ≠ f := fun e => by rw [e, upd_same] at hd; cases hd
    have hd' : H' d = none := by rw [upd_ne nfd] at hd; exact hd
    refine ⟨_, rfl, m, rfl, by omega, by omega, ?_⟩
    refine for_range (fun i σ H => ∃ xs ps y5 y6, σ = [some (.ref a), some (.int (cell ns 0)), some (.int m), some (.ref f), some (.ref d), y5, y6] ∧ Ex H' H ∧ H f = some (.lst xs) ∧ H d = some (.dK (dkv (ps.map (·.1)))) ∧ Prs H xs ps ∧ Drawn ps ∧ ps.length = i)
      ⟨[], [], none, none, rfl, Ex.mu (Ex.nw hf) hd', by rw [upd_ne nfd.symm, upd_same], by rw [upd_same]; rfl, .nil, ⟨by simp, by simp, by simp⟩, rfl⟩ ?_ ?_
    · rintro i σ H hi ⟨xs, ps, y5, y6, rfl, ex, ef, ed, hp, dr, hlen⟩
      have hi' : i < 10 := by omega
      -- _law_value_here = _law_value(..)
      refine ⟨_, rfl, a, ns, 1, rfl, ex.seq hS, ?_⟩
      repeat (first | refine ⟨_, rfl, ?_⟩ | refine ⟨(by show (0 : Int) < _; decide), ?_⟩ | refine ⟨⟨by decide, by decide⟩, ?_⟩ | refine ⟨.inr ⟨by decide, by decide⟩, ?_⟩ | refine ⟨.inl ⟨by decide, by decide⟩, ?_⟩ | refine ⟨⟨by decide, by decide, by decide⟩, ?_⟩ | refine ⟨_, _, rfl, rfl, ?_⟩ | refine ⟨rfl, _, rfl, ?_⟩)
      refine ⟨_, _, rfl, ⟨by omega, by omega⟩, fun H2 e2 => ?_⟩
      have ex2 : Ex H' H2 := Ex.tr ex e2
      have ef2 := e2 _ _ ef
      have ed2 := e2 _ _ ed
      have hp2 : Prs H2 xs ps := hp.ex e2
      have hv := value_in (cell ns 1) (0 + (i : Int) + 1)
      generalize hvv : value (cell ns 1) (0 + (i : Int) + 1) = v0 at hv
      obtain ⟨j, hj, hmin⟩ := least (free_at (ks := ps.map (·.1)) v0 (by rw [List.length_map]; omega))
      -- the while
      refine ⟨fun n σ H => ∃ k, k + n = j ∧ σ = [some (.ref a), some (.int (cell ns 0)), some (.int m), some (.ref f), some (.ref d), some (.int (0 + (i : Int))), some (.int (itn v0 k))] ∧ H = H2,
        ⟨j, 0, by omega, by rw [itn_zero hv.1 hv.2]; rfl, rfl⟩, ?_⟩
      rintro n σ H3 ⟨k, hk, rfl, rfl⟩
      refine ⟨_, rfl, _, rfl, d, _, rfl, DGet.k (k := Sum.inl (itn v0 k)) ed2, _, rfl, ?_⟩
      by_cases hn : n = 0
      · -- it is free
        have hkj : k = j := by omega
        subst hkj
        rw [dkv_none hj]
        refine iteF ?_
        -- _law_seen[v] = True
        refine ⟨_, rfl, _, rfl, d, _, rfl, DPut.k (k := Sum.inl (itn v0 k)) ed2 ?_, ?_⟩
        · unfold dkv
          rw [List.length_map, List.length_map]
          exact len63' (by omega)
        rw [dkv_put hj]
        have ef3 : (upd H3 d (.dK (dkv (ps.map (·.1) ++ [itn v0 k])))) f = some (.lst xs) := by rw [upd_ne nfd.symm]; exact ef2
        have ex3 : Ex H' (upd H3 d (.dK (dkv (ps.map (·.1) ++ [itn v0 k])))) := Ex.mu ex2 hd'
        have hp3 : Prs (upd H3 d (.dK (dkv (ps.map (·.1) ++ [itn v0 k])))) xs ps := hp2.up (by intro ys z; rw [ed2] at z; cases z)
        -- _law_found.append((v, _law_count(..)))
        refine ⟨_, rfl, .inl ⟨rfl, xs, .of ef3⟩, ?_⟩
        refine ⟨_, rfl, _, rfl, a, ns, 2, rfl, ex3.seq hS, ?_⟩
        repeat (first | refine ⟨_, rfl, ?_⟩ | refine ⟨(by show (0 : Int) < _; decide), ?_⟩ | refine ⟨⟨by decide, by decide⟩, ?_⟩ | refine ⟨.inr ⟨by decide, by decide⟩, ?_⟩ | refine ⟨.inl ⟨by decide, by decide⟩, ?_⟩ | refine ⟨⟨by decide, by decide, by decide⟩, ?_⟩ | refine ⟨_, _, rfl, rfl, ?_⟩ | refine ⟨rfl, _, rfl, ?_⟩)
        refine ⟨_, _, rfl, ⟨by omega, by omega⟩, ?_⟩
        refine ⟨len63 (by show 2 ≤ _; decide), fun t ht => ?_⟩
        have ntf : f ≠ t := ne_of_none ef3 ht
        have ntd : d ≠ t := ne_of_none upd_same ht
        refine ⟨f, xs, _, rfl, rfl, by rw [upd_ne ntf]; exact ef3, len63' (by rw [hp3.len]; omega), ?_⟩
        refine ⟨xs ++ [.ref t], ps ++ [(itn v0 k, count (cell ns 2) (0 + (i : Int) + 1))], _, _, rfl, Ex.mu (ex3.tr (Ex.nw ht)) hf, upd_same, ?_, ?_, ?_, by rw [List.length_append, hlen]; rfl⟩
        · rw [upd_ne nfd, upd_ne ntd, upd_same, List.map_append]
          rfl
        · refine Prs.up (by intro ys z; rw [upd_ne ntf, ef3] at z; cases z) ?_
          exact Prs.snoc (hp3.ex (Ex.nw ht)) ⟨t, rfl, upd_same⟩
        · have hc := count_in (cell ns 2) (0 + (i : Int) + 1)
          refine ⟨?_, fun p hp => ?_, fun p hp => ?_⟩
          · rw [List.map_append]
            exact nd_snoc dr.nd hj
          · rcases List.mem_append.mp hp with h | h
            · exact dr.val p h
            · rw [List.mem_singleton.mp h]; exact itn_in v0 k
          · rcases List.mem_append.mp hp with h | h
            · exact dr.cnt p h
            · rw [List.mem_singleton.mp h]; exact hc
      · have hin : itn v0 k ∈ ps.map (·.1) := by
          by_cases z : itn v0 k ∈ ps.map (·.1)
          · exact z
          · exact absurd z (hmin k (by omega))
        obtain ⟨v, ev⟩ := dkv_some hin
        rw [ev]
        refine iteT ⟨fun σ' H'' => ∃ n', n' < n ∧ ∃ k', k' + n' = j ∧ σ' = [some (.ref a), some (.int (cell ns 0)), some (.int m), some (.ref f), some (.ref d), some (.int (0 + (i : Int))), some (.int (itn v0 k'))] ∧ H'' = H3, fun _ _ z => z, ?_⟩
        repeat (first | refine ⟨_, rfl, ?_⟩ | refine ⟨(by show (0 : Int) < _; decide), ?_⟩ | refine ⟨⟨by decide, by decide⟩, ?_⟩ | refine ⟨.inr ⟨by decide, by decide⟩, ?_⟩ | refine ⟨.inl ⟨by decide, by decide⟩, ?_⟩ | refine ⟨⟨by decide, by decide, by decide⟩, ?_⟩ | refine ⟨_, _, rfl, rfl, ?_⟩ | refine ⟨rfl, _, rfl, ?_⟩)
        exact ⟨n - 1, by omega, k + 1, by omega, by rw [itn_succ]; rfl, rfl⟩
    · rintro σ H ⟨xs, ps, y5, y6, rfl, ex, ef, ed, hp, dr, hlen⟩
      refine ⟨_, rfl, q f xs ps H ex hf ef hp dr (by omega) (by omega)⟩
/-! ### list.count of a truth value -/
theorem vals_bl : ∀ {bs : List Bool} {us : List Value}, Vals (bs.map V.bl) us → us = bs.map Value.bool
  | [], _, .nil => rfl
  | b :: bs, _, .cons h r => by
    have e := vals_bl r
    rw [List.map_cons, e, show _ = Value.bool b from h]
def isB (k : Bool) : Value → Bool := fun v => decide (v = .bool k)
theorem isB_count (k : Bool) : ∀ bs : List Bool, (bs.map Value.bool).countP (isB k) = bs.count k
  | [] => rfl
  | b :: bs => by
    have ih := isB_count k bs
    rw [List.map_cons, List.countP_cons, List.count_cons, ih]
    cases b <;> cases k <;> rfl
def rCntB (K : PySem.W.Frag) : V → List V → Hp → VK → Prop := fun x xs H Q => ∃ (p : Addr) (bs : List Bool) (k : Bool), x = .ref p ∧ xs = [.bl k] ∧ SqL K H p (bs.map V.bl) ∧ Q (.int (bs.count k : Nat)) H
theorem mt_bcount {X : Cx} : MtR X "list.count" (rCntB X.K) := by
  intro pins s σ H x xs v us Q I ra ras h
  obtain ⟨p, bs, k, rfl, rfl, hs, q⟩ := h
  cases ra
  obtain ⟨u, rfl, re⟩ := ras.one
  cases (show u = Value.bool k from re)
  obtain ⟨zs, rz, ⟨⟨c0, d0, da, s0⟩, n, ho, hc, hn, hd⟩, hz⟩ := I.list hs
  simp only at hc hd
  subst hc hd
  cases vals_bl rz
  refine call_meets PySem.F.slot_list_count ⟨_, ho, rfl⟩ PySem.F.entry_list_count (PySem.F.args_list_count_2 _ _)
    (SeqAt.list_countAt p (bs.map Value.bool).toArray n d0 s0 (.bool k) (isB k)) ⟨ho, fun y hy => ?_, ?_⟩
  · obtain ⟨b, _, rfl⟩ := List.mem_map.mp (by simpa using hy : y ∈ bs.map Value.bool)
    have e : isB k (.bool b) = (b == k) := by cases b <;> cases k <;> rfl
    rw [e]
    exact SeqAt.EqAt.bool_bool b k
  · refine ⟨.int (bs.count k : Nat), H, I.tok _, ⟨s.toks, ?_⟩, q⟩
    show Value.int (((bs.map Value.bool).countP (isB k) : Nat) : Int) s.toks = Value.int ((bs.count k : Nat) : Int) s.toks
    rw [isB_count]
/-- counted in an except's suite: told by the K outside -/
theorem pe_countS {X : Cx} {b : Addr} {pn : List (Addr × Obj)} {o e : Expr} {es : List Expr} {to : TE} {t : TA} {apos cpos : Pos} (ho : PE (X.suite b pn) o to) (ha : PA (X.suite b pn) (e :: es) t)
    (h1 : attributeBase o "count" (X.suite b pn).env (eval o (X.suite b pn).env) = eval o (X.suite b pn).env := by rfl)
    (h2 : ((backTo cpos (starEach (e :: es) (X.suite b pn).env)).all (fun x => !x.1) && (backToKw cpos (keywordEach [] (X.suite b pn).env)).all (fun x => x.1.isSome)
      && decide ((e :: es).length + ([] : List Keyword).length + (if ([] : List Keyword).isEmpty then 0 else 1) < 30)) = true := by rfl)
    (h3 : (apos.endLine == cpos.line) = true := by rfl) (h4 : starEach (e :: es) (X.suite b pn).env = (false, eval e (X.suite b pn).env) :: starEach es (X.suite b pn).env := by rfl)
    (h5 : (backTo cpos (starEach es (X.suite b pn).env)).any (·.1) = false := by rfl) :
    PE (X.suite b pn) (.Call (.Attribute o "count" apos) (e :: es) [] cpos) (tBM X.K "list" (rCntB X.K) to t) :=
  pe_bm PySem.F.plainAttrs_list PySem.F.slot_list_count PySem.F.type_list_count mt_bcount ho ha h1 h2 h3 h4 h5
/-- appended in an except's suite -/
theorem pe_appendS {X : Cx} {b : Addr} {pn : List (Addr × Obj)} {o e : Expr} {es : List Expr} {to : TE} {t : TA} {r : V → List V → Hp → VK → Prop} {apos cpos : Pos} (hm : MtR (X.suite b pn) "list.append" r) (ho : PE (X.suite b pn) o to) (ha : PA (X.suite b pn) (e :: es) t)
    (h1 : attributeBase o "append" (X.suite b pn).env (eval o (X.suite b pn).env) = eval o (X.suite b pn).env := by rfl)
    (h2 : ((backTo cpos (starEach (e :: es) (X.suite b pn).env)).all (fun x => !x.1) && (backToKw cpos (keywordEach [] (X.suite b pn).env)).all (fun x => x.1.isSome)
      && decide ((e :: es).length + ([] : List Keyword).length + (if ([] : List Keyword).isEmpty then 0 else 1) < 30)) = true := by rfl)
    (h3 : (apos.endLine == cpos.line) = true := by rfl) (h4 : starEach (e :: es) (X.suite b pn).env = (false, eval e (X.suite b pn).env) :: starEach es (X.suite b pn).env := by rfl)
    (h5 : (backTo cpos (starEach es (X.suite b pn).env)).any (·.1) = false := by rfl) :
    PE (X.suite b pn) (.Call (.Attribute o "append" apos) (e :: es) [] cpos) (tBM X.K "list" r to t) :=
  pe_bm PySem.F.plainAttrs_list PySem.F.slot_list_append PySem.F.type_list_append hm ho ha h1 h2 h3 h4 h5
/-! ### the table, by itself: rows of fewest pieces -/
abbrev Cell := Option Int
def rAt (r : List Cell) (i : Nat) : Cell := r.getD i none
theorem rAt_lt {r : List Cell} {i : Nat} (h : i < r.length) : r[i]? = some (rAt r i) := by
  unfold rAt
  rw [List.getD_eq_getElem?_getD, List.getElem?_eq_getElem h]
  rfl
theorem rAt_map {f : Nat → Cell} {n i : Nat} (h : i < n) : rAt ((List.range n).map f) i = f i := by
  unfold rAt
  rw [List.getD_eq_getElem?_getD, List.getElem?_map, List.getElem?_range h]
  rfl
theorem row_ext {r : List Cell} {n : Nat} {f : Nat → Cell} (hl : r.length = n) (h : ∀ i, i < n → rAt r i = f i) : r = (List.range n).map f := by
  apply List.ext_getElem?
  intro i
  by_cases hi : i < n
  · rw [rAt_lt (by omega), h i hi, List.getElem?_map, List.getElem?_range hi]
    rfl
  · rw [List.getElem?_eq_none (by omega), List.getElem?_eq_none (by rw [List.length_map, List.length_range]; omega)]
/-- a place, given what stands there and what stands ahead by some pieces -/
def bund (o few : Cell) (s : Int) : Cell :=
  match few with
  | none => o
  | some x => match o with
    | none => some (x + s)
    | some y => if x + s < y then some (x + s) else some y
theorem bund_some {o : Cell} {x s : Int} : ∃ m, bund o (some x) s = some m ∧ m ≤ x + s := by
  cases o with
  | none => exact ⟨_, rfl, by omega⟩
  | some y =>
    by_cases h : x + s < y
    · exact ⟨x + s, if_pos h, by omega⟩
    · exact ⟨y, if_neg h, by omega⟩
theorem bund_le {few : Cell} {y s : Int} : ∃ m, bund (some y) few s = some m ∧ m ≤ y := by
  cases few with
  | none => exact ⟨_, rfl, by omega⟩
  | some x =>
    by_cases h : x + s < y
    · exact ⟨x + s, if_pos h, by omega⟩
    · exact ⟨y, if_neg h, by omega⟩
theorem bund_or {o few : Cell} {s m : Int} (h : bund o few s = some m) : o = some m ∨ ∃ x, few = some x ∧ m = x + s := by
  cases few with
  | none => exact .inl h
  | some x =>
    cases o with
    | none => exact .inr ⟨x, rfl, (Option.some.inj h).symm⟩
    | some y =>
      by_cases z : x + s < y
      · have e : bund (some y) (some x) s = some (x + s) := if_pos z
        rw [e] at h
        exact .inr ⟨x, rfl, (Option.some.inj h).symm⟩
      · have e : bund (some y) (some x) s = some y := if_neg z
        rw [e] at h
        exact .inl h
/-- o is the least over up to n pieces of v on top of the row r, at the place d -/
def Lst (r : List Cell) (v n d : Nat) (o : Cell) : Prop :=
  (∀ (j : Nat) (x : Int), j ≤ n → j * v ≤ d → rAt r (d - j * v) = some x → ∃ m, o = some m ∧ m ≤ x + j) ∧
  (∀ m, o = some m → ∃ (j : Nat) (x : Int), j ≤ n ∧ j * v ≤ d ∧ rAt r (d - j * v) = some x ∧ m = x + j)
theorem Lst.uniq {r : List Cell} {v n d : Nat} {o p : Cell} (h : Lst r v n d o) (k : Lst r v n d p) : o = p := by
  obtain ⟨h1, h2⟩ := h
  obtain ⟨k1, k2⟩ := k
  cases o with
  | none =>
    cases p with
    | none => rfl
    | some m =>
      obtain ⟨j, x, a, b, c, _⟩ := k2 m rfl
      obtain ⟨_, z, _⟩ := h1 j x a b c
      cases z
  | some m =>
    obtain ⟨j, x, a, b, c, e⟩ := h2 m rfl
    obtain ⟨q, rfl, le1⟩ := k1 j x a b c
    obtain ⟨j', x', a', b', c', e'⟩ := k2 q rfl
    obtain ⟨m', em, le2⟩ := h1 j' x' a' b' c'
    cases em
    have : m = q := by omega
    rw [this]
theorem Lst.cut {r : List Cell} {v n m d : Nat} {o : Cell} (h : Lst r v n d o) (hm : ∀ j, j * v ≤ d → (j ≤ n ↔ j ≤ m)) : Lst r v m d o :=
  ⟨fun j x a b c => h.1 j x ((hm j b).mpr a) b c, fun q e => let ⟨j, x, a, b, c, z⟩ := h.2 q e; ⟨j, x, (hm j b).mp a, b, c, z⟩⟩
theorem Lst.zero {r : List Cell} {v d : Nat} : Lst r v 0 d (rAt r d) := by
  refine ⟨fun j x a b c => ?_, fun m e => ⟨0, m, Nat.le_refl _, by omega, by simpa using e, by simp⟩⟩
  have hj : j = 0 := by omega
  subst hj
  exact ⟨x, by simpa using c, by simp⟩
/-- s pieces more at once, where s is one more than before at most -/
theorem Lst.more {r : List Cell} {v n d s : Nat} {o p : Cell} (h : Lst r v n d o) (hp : s * v ≤ d → Lst r v n (d - s * v) p) (hs : s ≤ n + 1) :
    Lst r v (n + s) d (if s * v ≤ d then bund o p s else o) := by
  by_cases hd : s * v ≤ d
  · rw [if_pos hd]
    obtain ⟨h1, h2⟩ := h
    obtain ⟨p1, p2⟩ := hp hd
    refine ⟨fun j x a b c => ?_, fun m e => ?_⟩
    · by_cases hj : j ≤ n
      · obtain ⟨m, rfl, le⟩ := h1 j x hj b c
        obtain ⟨q, e, le'⟩ := bund_le (few := p) (y := m) (s := s)
        exact ⟨q, e, by omega⟩
      · have e1 : (j - s) * v = j * v - s * v := Nat.sub_mul ..
        have e2 : s * v ≤ j * v := Nat.mul_le_mul_right _ (by omega)
        obtain ⟨m, rfl, le⟩ := p1 (j - s) x (by omega) (by omega) (by rw [show d - s * v - (j - s) * v = d - j * v by omega]; exact c)
        obtain ⟨q, e, le'⟩ := bund_some (o := o) (x := m) (s := s)
        exact ⟨q, e, by omega⟩
    · rcases bund_or e with rfl | ⟨y, rfl, rfl⟩
      · obtain ⟨j, x, a, b, c, z⟩ := h2 m rfl
        exact ⟨j, x, by omega, b, c, z⟩
      · obtain ⟨j, x, a, b, c, z⟩ := p2 y rfl
        have e1 : (j + s) * v = j * v + s * v := Nat.add_mul ..
        exact ⟨j + s, x, by omega, by omega, by rw [show d - (j + s) * v = d - s * v - j * v by omega]; exact c, by omega⟩
  · rw [if_neg hd]
    refine h.cut fun j hj => ⟨fun _ => by omega, fun hle => ?_⟩
    by_cases hjn : j ≤ n
    · exact hjn
    · exfalso
      have : s * v ≤ j * v := Nat.mul_le_mul_right _ (by omega)
      omega
/-- a bundle of s pieces worth a -/
def withBundle (r : List Cell) (a s : Nat) : List Cell := (List.range r.length).map fun d => if a ≤ d then bund (rAt r d) (rAt r (d - a)) s else rAt r d
theorem withBundle_len (r : List Cell) (a s : Nat) : (withBundle r a s).length = r.length := by
  unfold withBundle
  rw [List.length_map, List.length_range]
/-- each size is one more than what is ahead at most -/
def Steps : Nat → List Nat → Prop
  | _, [] => True
  | n, s :: r => s ≤ n + 1 ∧ Steps (n + s) r
theorem steps_snoc : ∀ {l : List Nat} {n s : Nat}, Steps n l → s ≤ n + l.sum + 1 → Steps n (l ++ [s])
  | [], n, s, _, h => ⟨by simpa using h, trivial⟩
  | a :: l, n, s, ⟨h1, h2⟩, h => ⟨h1, steps_snoc h2 (by rw [List.sum_cons] at h; omega)⟩
theorem fold_lst {r : List Cell} {v : Nat} : ∀ {l : List Nat} {n : Nat} {o : List Cell}, Steps n l → o.length = r.length → (∀ d, d < r.length → Lst r v n d (rAt o d)) →
    (l.foldl (fun o s => withBundle o (s * v) s) o).length = r.length ∧ ∀ d, d < r.length → Lst r v (n + l.sum) d (rAt (l.foldl (fun o s => withBundle o (s * v) s) o) d)
  | [], n, o, _, hl, h => ⟨hl, by simpa using h⟩
  | s :: l, n, o, ⟨hs, hst⟩, hl, h => by
    have h' : ∀ d, d < r.length → Lst r v (n + s) d (rAt (withBundle o (s * v) s) d) := by
      intro d hd
      unfold withBundle
      rw [rAt_map (by omega)]
      exact (h d hd).more (fun hle => h _ (by omega)) hs
    have := fold_lst (l := l) hst (by rw [withBundle_len, hl]) h'
    rw [List.foldl_cons, List.sum_cons]
    rw [show n + (s + l.sum) = n + s + l.sum by omega]
    exact this
/-- the least, count by count, as it is walked -/
def leastUp (r : List Cell) (v d : Nat) : Nat → Cell
  | 0 => none
  | i + 1 => bund (leastUp r v d i) (rAt r (d - i * v)) i
theorem leastUp_lst {r : List Cell} {v d : Nat} : ∀ {i : Nat}, i * v ≤ d → Lst r v i d (leastUp r v d (i + 1))
  | 0, _ => by
    have e : leastUp r v d 1 = rAt r d := by
      show bund none (rAt r (d - 0 * v)) ((0 : Nat) : Int) = rAt r d
      rw [Nat.zero_mul, Nat.sub_zero]
      cases rAt r d with
      | none => rfl
      | some x => show some (x + 0) = some x; rw [Int.add_zero]
    rw [e]
    exact Lst.zero
  | i + 1, h => by
    have h0 : i * v ≤ d := Nat.le_trans (Nat.mul_le_mul_right _ (by omega)) h
    obtain ⟨h1, h2⟩ := leastUp_lst (r := r) h0
    show Lst r v (i + 1) d (bund (leastUp r v d (i + 1)) (rAt r (d - (i + 1) * v)) ((i + 1 : Nat) : Int))
    refine ⟨fun j x a b c => ?_, fun m e => ?_⟩
    · by_cases hj : j ≤ i
      · obtain ⟨m, e, le⟩ := h1 j x hj b c
        rw [e]
        obtain ⟨q, e', le'⟩ := bund_le (few := rAt r (d - (i + 1) * v)) (y := m) (s := ((i + 1 : Nat) : Int))
        exact ⟨q, e', by omega⟩
      · have hj' : j = i + 1 := by omega
        subst hj'
        rw [c]
        exact bund_some
    · rcases bund_or e with z | ⟨y, z, rfl⟩
      · obtain ⟨j, x, a, b, c, z⟩ := h2 m z
        exact ⟨j, x, by omega, b, c, z⟩
      · exact ⟨i + 1, y, Nat.le_refl _, h, z, rfl⟩
def leastF (r : List Cell) (v c d : Nat) : Cell := leastUp r v d (min c (d / v) + 1)
theorem leastF_lst {r : List Cell} {v c d : Nat} (hv : 0 < v) : Lst r v c d (leastF r v c d) := by
  have h1 : min c (d / v) * v ≤ d := Nat.le_trans (Nat.mul_le_mul_right _ (Nat.min_le_right ..)) (Nat.div_mul_le_self ..)
  refine (leastUp_lst h1).cut fun j hj => ?_
  have : j ≤ d / v := (Nat.le_div_iff_mul_le hv).mpr hj
  omega
/-- the next row -/
def nextRow (r : List Cell) (v c : Nat) : List Cell := (List.range r.length).map (leastF r v c)
theorem nextRow_len (r : List Cell) (v c : Nat) : (nextRow r v c).length = r.length := by
  unfold nextRow
  rw [List.length_map, List.length_range]
theorem fold_next {r : List Cell} {v c : Nat} {l : List Nat} (hv : 0 < v) (hst : Steps 0 l) (hsum : l.sum = min c ((r.length - 1) / v)) : l.foldl (fun o s => withBundle o (s * v) s) r = nextRow r v c := by
  obtain ⟨h1, h2⟩ := fold_lst (r := r) (v := v) hst rfl fun d _ => Lst.zero
  refine row_ext h1 fun d hd => ?_
  refine Lst.uniq ((h2 d hd).cut (m := c) fun j hj => ?_) (leastF_lst hv)
  have : j ≤ (r.length - 1) / v := (Nat.le_div_iff_mul_le hv).mpr (by omega)
  omega
/-- the rows of a till -/
def rowsOf (r : List Cell) : List (Int × Int) → List (List Cell)
  | [] => [r]
  | p :: ps => r :: rowsOf (nextRow r p.1.toNat p.2.toNat) ps
def row0 (n : Nat) : List Cell := some 0 :: List.replicate n none
theorem row0_len (n : Nat) : (row0 n).length = n + 1 := by simp [row0]
def lastRow (r : List Cell) : List (Int × Int) → List Cell
  | [] => r
  | p :: ps => lastRow (nextRow r p.1.toNat p.2.toNat) ps
theorem lastRow_snoc (r : List Cell) (p : Int × Int) : ∀ ps : List (Int × Int), lastRow r (ps ++ [p]) = nextRow (lastRow r ps) p.1.toNat p.2.toNat := by
  intro ps
  induction ps generalizing r with
  | nil => rfl
  | cons q ps ih => exact ih _
theorem rowsOf_snoc (r : List Cell) (p : Int × Int) : ∀ ps : List (Int × Int), rowsOf r (ps ++ [p]) = rowsOf r ps ++ [lastRow r (ps ++ [p])] := by
  intro ps
  induction ps generalizing r with
  | nil => rfl
  | cons q ps ih => show r :: rowsOf _ (ps ++ [p]) = r :: rowsOf _ ps ++ [lastRow _ (ps ++ [p])]; rw [ih]; rfl
theorem rowsOf_len (r : List Cell) (ps : List (Int × Int)) : (rowsOf r ps).length = ps.length + 1 := by
  induction ps generalizing r with
  | nil => rfl
  | cons q ps ih => show (rowsOf _ ps).length + 1 = _; rw [ih]; rfl
theorem rowsOf_at (r : List Cell) (ps : List (Int × Int)) : ∀ k, k ≤ ps.length → (rowsOf r ps)[k]? = some (lastRow r (ps.take k)) := by
  induction ps generalizing r with
  | nil => intro k hk; have : k = 0 := by simpa using hk
           subst this; rfl
  | cons q ps ih =>
    intro k hk
    cases k with
    | zero => rfl
    | succ k =>
      show (rowsOf _ ps)[k]? = some (lastRow _ (ps.take k))
      exact ih _ k (by simpa using hk)
theorem lastRow_len (r : List Cell) (ps : List (Int × Int)) : (lastRow r ps).length = r.length := by
  induction ps generalizing r with
  | nil => rfl
  | cons q ps ih => show (lastRow _ ps).length = _; rw [ih, nextRow_len]
/-! ### the way that is told -/
/-- the greatest number of pieces, up to g, that the row ahead goes with -/
def pickUp (r : List Cell) (v d : Nat) (m : Int) : Nat → Nat
  | 0 => 0
  | g + 1 => if rAt r (d - (g + 1) * v) = some (m - ((g + 1 : Nat) : Int)) then g + 1 else pickUp r v d m g
def pick (r : List Cell) (v c d : Nat) (m : Int) : Nat := pickUp r v d m (min c (d / v))
theorem pickUp_le (r : List Cell) (v d : Nat) (m : Int) : ∀ g, pickUp r v d m g ≤ g
  | 0 => Nat.le_refl _
  | g + 1 => by
    unfold pickUp
    split
    · exact Nat.le_refl _
    · exact Nat.le_succ_of_le (pickUp_le r v d m g)
theorem pickUp_ok {r : List Cell} {v d : Nat} {m : Int} : ∀ {g : Nat}, (∃ j, j ≤ g ∧ rAt r (d - j * v) = some (m - (j : Int))) → rAt r (d - pickUp r v d m g * v) = some (m - (pickUp r v d m g : Int)) ∧ ∀ j, pickUp r v d m g < j → j ≤ g → rAt r (d - j * v) ≠ some (m - (j : Int))
  | 0, ⟨j, hj, h⟩ => by
    obtain rfl : j = 0 := by omega
    exact ⟨h, fun j h1 h2 => by omega⟩
  | g + 1, ⟨j, hj, h⟩ => by
    unfold pickUp
    by_cases e : rAt r (d - (g + 1) * v) = some (m - ((g + 1 : Nat) : Int))
    · rw [if_pos e]
      exact ⟨e, fun j h1 h2 => by omega⟩
    · rw [if_neg e]
      have hj2 : j ≠ g + 1 := fun z => e (by rw [← z]; exact h)
      obtain ⟨h1, h2⟩ := pickUp_ok (g := g) ⟨j, by omega, h⟩
      refine ⟨h1, fun i hi hi2 => ?_⟩
      by_cases z : i = g + 1
      · rw [z]
        exact e
      · exact h2 i hi (by omega)
/-- what the table tells of the last place goes back by some pieces of the last kind -/
theorem back_one {r : List Cell} {v c d : Nat} {m : Int} (hv : 0 < v) (h : leastF r v c d = some m) : ∃ j, j ≤ min c (d / v) ∧ rAt r (d - j * v) = some (m - (j : Int)) := by
  obtain ⟨j, x, a, b, e, rfl⟩ := (leastF_lst hv).2 m h
  refine ⟨j, Nat.le_min.mpr ⟨a, (Nat.le_div_iff_mul_le hv).mpr b⟩, ?_⟩
  rw [e]
  congr 1
  omega
def cellI (o : Cell) : Int := o.getD 0
/-- the way, by the table, of the first k kinds for d -/
def given (r0 : List Cell) (ps : List (Int × Int)) : Nat → Nat → List (Int × Int)
  | 0, _ => []
  | k + 1, d =>
    let p := ps.getD k (0, 0)
    let g := pick (lastRow r0 (ps.take k)) p.1.toNat p.2.toNat d (cellI (rAt (lastRow r0 (ps.take (k + 1))) d))
    given r0 ps k (d - g * p.1.toNat) ++ (if 0 < g then [(p.1, (g : Int))] else [])
theorem given_succ (r0 : List Cell) (ps : List (Int × Int)) (k d : Nat) {p : Int × Int} (hp : ps[k]? = some p) {g : Nat} (hg : g = pick (lastRow r0 (ps.take k)) p.1.toNat p.2.toNat d (cellI (rAt (lastRow r0 (ps.take (k + 1))) d))) :
    given r0 ps (k + 1) d = given r0 ps k (d - g * p.1.toNat) ++ (if 0 < g then [(p.1, (g : Int))] else []) := by
  subst hg
  show given r0 ps k _ ++ _ = _
  rw [show ps.getD k (0, 0) = p by rw [List.getD_eq_getElem?_getD, hp]; rfl]
/-- a place that the table tells, goes on to one that it tells -/
theorem step_ok {r0 : List Cell} {ps : List (Int × Int)} {k d : Nat} {m : Int} {p : Int × Int} (hp : ps[k]? = some p) (hv : 1 ≤ p.1) (hd : d < r0.length) (h : rAt (lastRow r0 (ps.take (k + 1))) d = some m) {g : Nat}
    (hg : g = pick (lastRow r0 (ps.take k)) p.1.toNat p.2.toNat d m) :
    g ≤ p.2.toNat ∧ g * p.1.toNat ≤ d ∧ rAt (lastRow r0 (ps.take k)) (d - g * p.1.toNat) = some (m - (g : Int)) := by
  have hl : (lastRow r0 (ps.take k)).length = r0.length := lastRow_len ..
  have e : leastF (lastRow r0 (ps.take k)) p.1.toNat p.2.toNat d = some m := by
    rw [← h, List.take_add_one, hp]
    show _ = rAt (lastRow r0 (ps.take k ++ [p])) d
    rw [lastRow_snoc]
    exact (rAt_map (by rw [hl]; exact hd)).symm
  have hb := back_one (by omega) e
  have hle := pickUp_le (lastRow r0 (ps.take k)) p.1.toNat d m (min p.2.toNat (d / p.1.toNat))
  have hok := (pickUp_ok hb).1
  have hgg : g = pickUp (lastRow r0 (ps.take k)) p.1.toNat d m (min p.2.toNat (d / p.1.toNat)) := hg
  rw [← hgg] at hle hok
  refine ⟨by omega, ?_, hok⟩
  exact Nat.le_trans (Nat.mul_le_mul_right _ (by omega : g ≤ d / p.1.toNat)) (Nat.div_mul_le_self ..)
def worthP (l : List (Int × Int)) : Int := (l.map fun p => p.1 * p.2).sum
def manyP (l : List (Int × Int)) : Int := (l.map (·.2)).sum
theorem worthP_app (l k : List (Int × Int)) : worthP (l ++ k) = worthP l + worthP k := by
  unfold worthP
  rw [List.map_append, List.sum_append]
theorem manyP_app (l k : List (Int × Int)) : manyP (l ++ k) = manyP l + manyP k := by
  unfold manyP
  rw [List.map_append, List.sum_append]
theorem row0_some {n d : Nat} {m : Int} (h : rAt (row0 n) d = some m) : d = 0 ∧ m = 0 := by
  cases d with
  | zero =>
    have : some (0 : Int) = some m := h
    exact ⟨rfl, (Option.some.inj this).symm⟩
  | succ d =>
    have : (List.replicate n (none : Cell)).getD d none = some m := h
    rw [List.getD_eq_getElem?_getD, List.getElem?_replicate] at this
    split at this <;> cases this
/-- what the way is -/
theorem given_ok {n : Nat} {ps : List (Int × Int)} (hv : ∀ p ∈ ps, 1 ≤ p.1) : ∀ {k d : Nat} {m : Int}, k ≤ ps.length → d < n + 1 → rAt (lastRow (row0 n) (ps.take k)) d = some m →
    worthP (given (row0 n) ps k d) = (d : Int) ∧ manyP (given (row0 n) ps k d) = m ∧ (∀ q ∈ given (row0 n) ps k d, 1 ≤ q.2 ∧ ∃ c, (q.1, c) ∈ ps.take k ∧ q.2 ≤ c) ∧
    (ps.Pairwise (fun p q => p.1 < q.1) → (given (row0 n) ps k d).Pairwise fun p q => p.1 < q.1) ∧ (given (row0 n) ps k d).length ≤ k
  | 0, d, m, _, _, h => by
    obtain ⟨rfl, rfl⟩ := row0_some h
    exact ⟨rfl, rfl, by simp [given], fun _ => .nil, Nat.le_refl _⟩
  | k + 1, d, m, hk, hd, h => by
    have hp := List.getElem?_eq_getElem (show k < ps.length by omega)
    have hpm := List.getElem_mem (show k < ps.length by omega)
    generalize ps[k] = p at hp hpm
    have hv1 := hv p hpm
    obtain ⟨g1, g2, g3⟩ := step_ok hp hv1 (by rw [row0_len]; exact hd) h rfl
    rw [given_succ (row0 n) ps k d hp (g := pick (lastRow (row0 n) (ps.take k)) p.1.toNat p.2.toNat d m) (by rw [h]; rfl)]
    generalize pick (lastRow (row0 n) (ps.take k)) p.1.toNat p.2.toNat d m = g at g1 g2 g3
    obtain ⟨i1, i2, i3, i4, i5⟩ := given_ok hv (k := k) (by omega) (by omega) g3
    have tk : ps.take (k + 1) = ps.take k ++ [p] := by
      rw [List.take_add_one, hp]
      rfl
    by_cases hg : 0 < g
    · rw [if_pos hg]
      refine ⟨?_, ?_, ?_, ?_, ?_⟩
      · rw [worthP_app, i1]
        show ((d - g * p.1.toNat : Nat) : Int) + (p.1 * (g : Int) + 0) = d
        have e : ((g * p.1.toNat : Nat) : Int) = (g : Int) * p.1 := by
          rw [Int.natCast_mul, Int.toNat_of_nonneg (by omega)]
        rw [Int.mul_comm p.1]
        omega
      · rw [manyP_app, i2]
        show m - (g : Int) + ((g : Int) + 0) = m
        omega
      · intro q hq
        rcases List.mem_append.mp hq with z | z
        · obtain ⟨a, c, b, b'⟩ := i3 q z
          exact ⟨a, c, by rw [tk]; exact List.mem_append.mpr (.inl b), b'⟩
        · rw [List.mem_singleton.mp z]
          exact ⟨by show (1 : Int) ≤ g; omega, p.2, by rw [tk]; exact List.mem_append.mpr (.inr (List.mem_singleton.mpr rfl)), by show (g : Int) ≤ p.2; omega⟩
      · intro hr
        rw [List.pairwise_append]
        refine ⟨i4 hr, List.pairwise_singleton .., fun a ha b hb => ?_⟩
        rw [List.mem_singleton.mp hb]
        obtain ⟨_, c, hc, _⟩ := i3 a ha
        have hpw : (ps.take k ++ [p]).Pairwise fun p q => p.1 < q.1 := by
          rw [← tk]
          exact hr.sublist (List.take_sublist ..)
        exact (List.pairwise_append.mp hpw).2.2 _ hc p (List.mem_singleton.mpr rfl)
      · rw [List.length_append]
        show _ + 1 ≤ k + 1
        omega
    · rw [if_neg hg, List.append_nil]
      have g0 : g = 0 := by omega
      subst g0
      refine ⟨by rw [i1]; omega, by rw [i2]; simp, fun q hq => ?_, i4, by omega⟩
      obtain ⟨a, c, b, b'⟩ := i3 q hq
      exact ⟨a, c, by rw [tk]; exact List.mem_append.mpr (.inl b), b'⟩
/-! ### the table, as it is built -/
/-! ### rows as lists -/
def vO : Cell → V
  | none => .non
  | some i => .int i
theorem vO_at {r : List Cell} {i : Nat} (h : i < r.length) : (r.map vO)[i]? = some (vO (rAt r i)) := by
  rw [List.getElem?_map, rAt_lt h]
  rfl
def Row (K : PySem.W.Frag) (H : Hp) (a : Addr) (r : List Cell) : Prop := SqL K H a (r.map vO)
/-- the rows, each a list of its own -/
def RowsAt (H : Hp) : List Addr → List (List Cell) → Prop := Paired fun a r => H a = some (.lst (r.map vO))
theorem RowsAt.ex {H H' : Hp} (e : Ex H H') : ∀ {as : List Addr} {rs : List (List Cell)}, RowsAt H as rs → RowsAt H' as rs
  | _, _, .nil => .nil
  | _, _, .cons h r => .cons (e _ _ h) (RowsAt.ex e r)
theorem RowsAt.len {H : Hp} {as : List Addr} {rs : List (List Cell)} (h : RowsAt H as rs) : as.length = rs.length := Paired.length h
theorem RowsAt.snoc {H : Hp} : ∀ {as : List Addr} {rs : List (List Cell)} {a : Addr} {r : List Cell}, RowsAt H as rs → H a = some (.lst (r.map vO)) → RowsAt H (as ++ [a]) (rs ++ [r])
  | _, _, _, _, .nil, h => .cons h .nil
  | _, _, _, _, .cons b r, h => .cons b (RowsAt.snoc r h)
theorem RowsAt.get {H : Hp} : ∀ {as : List Addr} {rs : List (List Cell)} {i : Nat} {r : List Cell}, RowsAt H as rs → rs[i]? = some r → ∃ a, as[i]? = some a ∧ H a = some (.lst (r.map vO))
  | _, _, i, _, .nil, e => by simp at e
  | _, _, 0, _, .cons h _, e => by simp at e; subst e; exact ⟨_, by simp, h⟩
  | _, _, i + 1, _, .cons _ r, e => by
    obtain ⟨a, h1, h2⟩ := RowsAt.get (i := i) r (by simpa using e)
    exact ⟨a, by simpa using h1, h2⟩
theorem RowsAt.getA {H : Hp} : ∀ {as : List Addr} {rs : List (List Cell)} {i : Nat} {a : Addr}, RowsAt H as rs → as[i]? = some a → ∃ r, rs[i]? = some r ∧ H a = some (.lst (r.map vO))
  | _, _, i, _, .nil, e => by simp at e
  | _, _, 0, _, .cons h _, e => by simp at e; subst e; exact ⟨_, by simp, h⟩
  | _, _, i + 1, _, .cons _ r, e => by
    obtain ⟨x, h1, h2⟩ := RowsAt.getA (i := i) r (by simpa using e)
    exact ⟨x, by simpa using h1, h2⟩
theorem RowsAt.up {H : Hp} {f : Addr} {o : HO} : ∀ {as : List Addr} {rs : List (List Cell)}, f ∉ as → RowsAt H as rs → RowsAt (upd H f o) as rs
  | _, _, _, .nil => .nil
  | _, _, hf, .cons h r => .cons (by rw [upd_ne fun e => hf (by rw [← e]; exact List.mem_cons_self)]; exact h) (RowsAt.up (fun z => hf (List.mem_cons_of_mem _ z)) r)
theorem RowsAt.mem {H : Hp} : ∀ {as : List Addr} {rs : List (List Cell)} {x : Addr}, RowsAt H as rs → x ∈ as → ∃ o, H x = some o
  | a :: as, _, x, .cons h r, hx => by
    rcases List.mem_cons.mp hx with e | e
    · exact ⟨_, e ▸ h⟩
    · exact RowsAt.mem r e
/-- the table: new lists -/
def NewRows (H : Hp) (rs : List (List Cell)) (Q : VK) : Prop := ∀ R as H2, Ex H H2 → (∀ a ∈ R :: as, H a = none) → (R :: as).Nodup → H2 R = some (.lst (as.map V.ref)) → RowsAt H2 as rs → Q (.ref R) H2
theorem at_row {H : Hp} {as : List Addr} {rs : List (List Cell)} {i : Int} {k : Nat} {r : List Cell} (h : RowsAt H as rs) (hi : i = (k : Int)) (e : rs[k]? = some r) : ∃ a, atI (as.map V.ref) i = some (.ref a) ∧ as[k]? = some a ∧ H a = some (.lst (r.map vO)) := by
  obtain ⟨a, h1, h2⟩ := h.get e
  refine ⟨a, at_of hi ?_, h1, h2⟩
  rw [List.getElem?_map, h1]
  rfl
/-- the bundle, as far as a place -/
def wbUp (r : List Cell) (A s m : Nat) : List Cell := (List.range r.length).map fun d => if A ≤ d ∧ d < m then bund (rAt r d) (rAt r (d - A)) s else rAt r d
theorem wbUp_len (r : List Cell) (A s m : Nat) : (wbUp r A s m).length = r.length := by
  show ((List.range r.length).map _).length = _
  rw [List.length_map, List.length_range]
theorem wbUp_start (r : List Cell) (A s : Nat) : wbUp r A s A = r := by
  refine (row_ext rfl fun i hi => ?_).symm
  rw [if_neg (by omega)]
theorem wbUp_end {r : List Cell} {A s m : Nat} (h : r.length ≤ m) : wbUp r A s m = withBundle r A s := by
  refine row_ext (wbUp_len ..) fun i hi => ?_
  rw [show rAt (wbUp r A s m) i = _ from rAt_map hi]
  by_cases ha : A ≤ i
  · rw [if_pos ha, if_pos ⟨ha, by omega⟩]
  · rw [if_neg ha, if_neg fun z => ha z.1]
theorem wbUp_at {r : List Cell} {A s m : Nat} (h : m < r.length) : rAt (wbUp r A s m) m = rAt r m := by
  rw [show rAt (wbUp r A s m) m = _ from rAt_map h, if_neg (by omega)]
theorem set_map {r : List Cell} {m : Nat} {c : Cell} : (r.map vO).set m (vO c) = (r.set m c).map vO := by
  rw [List.map_set]
theorem wbUp_set {r : List Cell} {A s m : Nat} {c : Cell} (hm : m < r.length) (ha : A ≤ m) (hc : c = bund (rAt r m) (rAt r (m - A)) s) : (wbUp r A s m).set m c = wbUp r A s (m + 1) := by
  apply List.ext_getElem?
  intro i
  by_cases hi : i < r.length
  · rw [rAt_lt (r := wbUp r A s (m + 1)) (by rw [wbUp_len]; exact hi), show rAt (wbUp r A s (m + 1)) i = _ from rAt_map hi]
    by_cases e : i = m
    · subst e
      rw [List.getElem?_set_self (by rw [wbUp_len]; exact hi), if_pos ⟨ha, by omega⟩, hc]
    · rw [List.getElem?_set_ne (by omega), rAt_lt (by rw [wbUp_len]; exact hi), show rAt (wbUp r A s m) i = _ from rAt_map hi]
      by_cases z : A ≤ i ∧ i < m
      · rw [if_pos z, if_pos ⟨z.1, by omega⟩]
      · rw [if_neg z, if_neg (by omega)]
  · rw [List.getElem?_eq_none (by rw [List.length_set, wbUp_len]; omega), List.getElem?_eq_none (by rw [wbUp_len]; omega)]
theorem wbUp_keep {r : List Cell} {A s m : Nat} (hm : m < r.length) (h : rAt r m = bund (rAt r m) (rAt r (m - A)) s) : wbUp r A s (m + 1) = wbUp r A s m := by
  refine row_ext (n := r.length) (wbUp_len ..) fun i hi => ?_
  rw [show rAt (wbUp r A s (m + 1)) i = _ from rAt_map hi]
  by_cases e : i = m
  · subst e
    rw [if_neg (by omega : ¬ (A ≤ i ∧ i < i))]
    split
    · exact h.symm
    · rfl
  · by_cases z : A ≤ i ∧ i < m
    · rw [if_pos z, if_pos ⟨z.1, by omega⟩]
    · rw [if_neg z, if_neg (by omega)]
/-- a new row -/
def NewRow (H : Hp) (r : List Cell) (Q : VK) : Prop := ∀ p H2, Ex H H2 → H p = none → H2 p = some (.lst (r.map vO)) → Q (.ref p) H2
def spBundle (K : PySem.W.Frag) : Sp := fun vs H Q _ => ∃ (a : Addr) (r : List Cell) (A s : Nat), vs = [.ref a, .int (A : Int), .int (s : Int)] ∧ Row K H a r ∧ r.length ≤ 2000 ∧ A ≤ 1000000 ∧ NewRow H (withBundle r A s) Q
theorem ok_with_bundle (T : Tx K mg) : FnOk P w K mg base CX0 1 T.a__with_bundle T.d__with_bundle P__with_bundle (spBundle K) := by
  refine T.f__with_bundle.ok sc__with_bundle (fun vs H Q E h => ?_) (fun cdv A outer s H vs Q E hr h => ?_)
  · obtain ⟨a, r, B, s, rfl, _⟩ := h
    rfl
  · obtain ⟨a, r, B, s, rfl, hS, hl, hB, q⟩ := h
    refine ⟨_, (pss_cons (ps_set (i := 3) sc__with_bundle.nd rfl (.inl rfl) (pe_callTy call_list_of (by rfl) T.m_list (by decide +kernel) (pa_cons (pv 0) pa_nil)))
    (pss_cons (ps_for PassesOwn.never rfl (pi_range2 (by rfl) T.m_range (pa_cons (pv 1) (pa_cons (pe_callB call_len_seq (by rfl) T.m_len (by decide +kernel) (pa_cons (pv 0) pa_nil)) pa_nil))) (pg_name (i := 4) sc__with_bundle.nd rfl (.inl rfl))
      (pss_cons (ps_set (i := 5) sc__with_bundle.nd rfl (.inl rfl) (pe_ix ix_list (pv 0) (pe_op op_sub (pv 4) (pv 1)) (fun _ _ => rfl)))
      (pss_one (ps_if (PW.pt (pw_and (pt_cmpR op_notN (pv 5) pe_non (nomark _)) (pw_and1 (PW.pt (pw_or (pt_cmpR op_isN (pe_ix ix_list (pv 3) (pv 4) (fun _ _ => rfl)) pe_non (nomark _)) (pw_or1 (pt_cmpR op_lt (pe_op op_add (pv 5) (pv 2)) (pe_ix ix_list (pv 3) (pv 4) (fun _ _ => rfl)) (nomark _))))))))
        (pss_one (ps_asg (pe_op op_add (pv 5) (pv 2)) (pg_sub (pv 3) (pv 4) set_list)))
        pss_nil))))
    (pss_one (ps_ret (pv 3))))), ?_⟩
    have hS' : SqL K H a (r.map vO) := hS
    refine ⟨_, rfl, a, _, rfl, .inl hS', fun l hl0 => ?_⟩
    have hrl : (r.map vO).length = r.length := List.length_map _
    have nal : ∀ ys, H a = some (.lst ys) → a ≠ l := fun ys z => ne_of_none z hl0
    refine ⟨_, rfl, _, rfl, a, _, rfl, .inl ((Ex.nw hl0).seq hS'), _, _, rfl, ⟨by omega, by omega, by omega, by omega⟩, ?_⟩
    refine for_range (fun i σ H' => ∃ y4 y5, σ = [some (.ref a), some (.int (B : Int)), some (.int (s : Int)), some (.ref l), y4, y5] ∧ Ex H H' ∧ H' l = some (.lst ((wbUp r B s (B + i)).map vO)))
      ⟨_, _, rfl, Ex.nw hl0, by rw [Nat.add_zero, wbUp_start]; exact upd_same⟩ ?_ ?_
    · rintro i σ H1 hi ⟨y4, y5, rfl, ex, el⟩
      have hlt : B + i < r.length := by omega
      have a1 : atI (r.map vO) ((B : Int) + (i : Int) - (B : Int)) = some (vO (rAt r i)) := at_of (j := i) (by omega) (vO_at (by omega))
      have a2 : atI ((wbUp r B s (B + i)).map vO) ((B : Int) + (i : Int)) = some (vO (rAt r (B + i))) := at_of (j := B + i) (by omega) (by
        rw [vO_at (by rw [wbUp_len]; exact hlt), wbUp_at hlt])
      have sub : B + i - B = i := by omega
      refine ⟨_, rfl, _, rfl, _, rfl, _, _, rfl, rfl, a, _, _, _, rfl, rfl, ex.seq hS', a1, ?_⟩
      have keep : bund (rAt r (B + i)) (rAt r i) (s : Int) = rAt r (B + i) → wbUp r B s (B + (i + 1)) = wbUp r B s (B + i) := fun z => wbUp_keep hlt (by
        show rAt r (B + i) = bund (rAt r (B + i)) (rAt r (B + i - B)) s
        rw [sub]
        exact z.symm)
      have put : ∀ {x : Int} {o : Cell}, rAt r i = some x → rAt r (B + i) = o → bund o (some x) (s : Int) = some (x + (s : Int)) → ((wbUp r B s (B + i)).map vO).set (B + i) (.int (x + (s : Int))) = (wbUp r B s (B + (i + 1))).map vO := by
        intro x o h1 h2 h3
        rw [show V.int (x + (s : Int)) = vO (some (x + (s : Int))) from rfl, set_map]
        congr 1
        refine wbUp_set hlt (by omega) ?_
        rw [sub, h1, h2, h3]
      have hix : ixN ((wbUp r B s (B + i)).map vO).length ((B : Int) + (i : Int)) = some (B + i) := by
        rw [show ((B : Int) + (i : Int)) = ((B + i : Nat) : Int) from rfl]
        exact Evl.ixN_nat (by rw [List.length_map, wbUp_len]; exact hlt)
      cases hx : rAt r i with
      | none =>
        refine ⟨_, rfl, rfl, _, rfl, iteDN (fun z => absurd rfl z) (fun _ => iteF ?_)⟩
        exact ⟨_, _, rfl, ex, by rw [keep (by rw [hx]; rfl)]; exact el⟩
      | some x =>
        refine ⟨_, rfl, rfl, _, rfl, iteDN (fun _ => ?_) (fun z => nomatch z)⟩
        cases hy : rAt r (B + i) with
        | none =>
          rw [hy] at a2
          refine ⟨_, rfl, _, rfl, l, _, _, _, rfl, rfl, .of el, a2, rfl, _, rfl, iteD (fun _ => iteT ?_) (fun z => absurd rfl z)⟩
          refine ⟨_, rfl, _, rfl, _, _, rfl, rfl, _, rfl, _, rfl, l, _, _, B + i, rfl, rfl, el, hix, _, _, rfl, Ex.mu ex hl0, ?_⟩
          rw [upd_same, put hx hy rfl]
        | some y =>
          rw [hy] at a2
          refine ⟨_, rfl, _, rfl, l, _, _, _, rfl, rfl, .of el, a2, rfl, _, rfl, iteD (fun z => nomatch z) (fun _ => ?_)⟩
          refine ⟨_, rfl, _, rfl, _, _, rfl, rfl, _, rfl, _, rfl, l, _, _, _, rfl, rfl, .of el, a2, _, _, rfl, rfl, _, rfl, iteD (fun e => ?_) (fun e => ?_)⟩
          · refine ⟨_, rfl, _, rfl, _, _, rfl, rfl, _, rfl, _, rfl, l, _, _, B + i, rfl, rfl, el, hix, _, _, rfl, Ex.mu ex hl0, ?_⟩
            rw [upd_same, put hx hy (if_pos e)]
          · refine ⟨_, _, rfl, ex, ?_⟩
            rw [keep (by rw [hx, hy]; exact if_neg e)]
            exact el
    · rintro σ H1 ⟨y4, y5, rfl, ex, el⟩
      rw [wbUp_end (by omega)] at el
      exact ⟨_, rfl, q l H1 ex hl0 el⟩
/-- the bundles -/
def spBundles : Sp := fun vs H Q _ => ∃ n : Nat, vs = [.int (n : Int)] ∧ n ≤ 100000 ∧ ∀ p ss H2, Ex H H2 → H p = none → H2 p = some (.lst (ss.map fun k : Nat => V.int (k : Int))) → Steps 0 ss → ss.sum = n → ss.length ≤ n → Q (.ref p) H2
theorem ok_bundles (T : Tx K mg) : FnOk P w K mg base CX0 1 T.a__bundles T.d__bundles P__bundles spBundles := by
  refine T.f__bundles.ok sc__bundles (fun vs H Q E h => ?_) (fun cdv A outer s H vs Q E hr h => ?_)
  · obtain ⟨n, rfl, _⟩ := h
    rfl
  · obtain ⟨n, rfl, hn, q⟩ := h
    refine ⟨_, (pss_cons (ps_set (i := 1) sc__bundles.nd rfl (.inl rfl) (pe_lst pa_nil))
    (pss_cons (ps_set (i := 2) sc__bundles.nd rfl (.inl rfl) pe_int)
    (pss_cons (ps_while PassesOwn.never (pt_cmpR op_gt (pv 0) pe_int (nomark _))
      (pss_cons (ps_set (i := 3) sc__bundles.nd rfl (.inl rfl) (pe_callB (call_min2 rfl) (by rfl) T.m_min (by decide +kernel) (pa_cons (pv 2) (pa_cons (pv 0) pa_nil))))
      (pss_cons (ps_expr (pe_bm PySem.F.plainAttrs_list PySem.F.slot_list_append PySem.F.type_list_append mt_append (pv 1) (pa_cons (pv 3) pa_nil)))
      (pss_cons (ps_aug (i := 0) sc__bundles.nd rfl (.inl rfl) (pv 3) ip_sub)
      (pss_one (ps_aug (i := 2) sc__bundles.nd rfl (.inl rfl) pe_int ip_mulR))))))
    (pss_one (ps_ret (pv 1)))))), ?_⟩
    refine ⟨Nat.zero_le _, fun l hl0 => ?_⟩
    refine ⟨fun m σ H' => ∃ (ss : List Nat) (z : Nat) (y3 : Option V), σ = [some (.int (m : Int)), some (.ref l), some (.int (z : Int)), y3] ∧ Ex H H' ∧ H' l = some (.lst (ss.map fun k : Nat => V.int (k : Int))) ∧ Steps 0 ss ∧ ss.sum + m = n ∧ ss.length ≤ ss.sum ∧ 1 ≤ z ∧ (m = 0 ∨ z = ss.sum + 1),
      ⟨n, [], 1, none, rfl, Ex.nw hl0, upd_same, trivial, by simp, by simp, Nat.le_refl _, .inr (by simp)⟩, ?_⟩
    rintro m σ H' ⟨ss, z, y3, rfl, ex, el, hst, hsum, hlen, hz, hmz⟩
    refine ⟨_, rfl, _, _, rfl, rfl, _, rfl, iteD (fun e => ?_) (fun e => ?_)⟩
    · have hm : 0 < m := by omega
      obtain ⟨t, ht, ht1, ht2, ht3⟩ : ∃ t : Nat, (if (m : Int) < (z : Int) then (m : Int) else (z : Int)) = (t : Int) ∧ 1 ≤ t ∧ t ≤ m ∧ t ≤ z ∧ (t = m ∨ t = z) := by
        by_cases h : (m : Int) < (z : Int)
        · exact ⟨m, if_pos h, by omega, by omega, by omega, .inl rfl⟩
        · exact ⟨z, if_neg h, hz, by omega, by omega, .inr rfl⟩
      refine ⟨fun σ' H2 => ∃ m', m' < m ∧ ∃ (ss : List Nat) (z : Nat) (y3 : Option V), σ' = [some (.int (m' : Int)), some (.ref l), some (.int (z : Int)), y3] ∧ Ex H H2 ∧ H2 l = some (.lst (ss.map fun k : Nat => V.int (k : Int))) ∧ Steps 0 ss ∧ ss.sum + m' = n ∧ ss.length ≤ ss.sum ∧ 1 ≤ z ∧ (m' = 0 ∨ z = ss.sum + 1), fun _ _ z => z, ?_⟩
      refine ⟨_, rfl, _, rfl, _, _, rfl, ?_⟩
      rw [ht]
      have hl2 : (ss ++ [t]).map (fun k : Nat => V.int (k : Int)) = ss.map (fun k : Nat => V.int (k : Int)) ++ [V.int (t : Int)] := by rw [List.map_append]; rfl
      have hs2 : (ss ++ [t]).sum = ss.sum + t := by rw [List.sum_append]; simp
      refine ⟨_, rfl, .inl ⟨rfl, _, .of el⟩, _, rfl, l, _, _, rfl, rfl, el, len63' (by rw [List.length_map]; omega), ?_⟩
      refine ⟨_, rfl, _, rfl, _, _, rfl, rfl, ?_⟩
      refine ⟨_, rfl, _, _, rfl, rfl, .inr ⟨by decide, by decide⟩, ?_⟩
      refine ⟨m - t, by omega, ss ++ [t], z * 2, some (.int (t : Int)), ?_, Ex.mu ex hl0, ?_, steps_snoc hst (by omega), by omega, by rw [List.length_append, hs2]; simp; omega, by omega, by omega⟩
      · show [some (V.int ((m : Int) - (t : Int))), some (.ref l), some (.int ((z : Int) * 2)), some (.int (t : Int))] = _
        rw [show (m : Int) - (t : Int) = ((m - t : Nat) : Int) by omega, show (z : Int) * 2 = ((z * 2 : Nat) : Int) by omega]
      · rw [hl2]
        exact upd_same
    · exact ⟨_, rfl, q l ss H' ex hl0 el hst (by omega) (by omega)⟩
theorem le_sum : ∀ {l : List Nat} {x : Nat}, x ∈ l → x ≤ l.sum
  | a :: l, x, h => by
    rw [List.sum_cons]
    rcases List.mem_cons.mp h with e | e
    · omega
    · have := le_sum e
      omega
theorem fold_len (r : List Cell) (v : Nat) : ∀ (l : List Nat), (l.foldl (fun o s => withBundle o (s * v) s) r).length = r.length := by
  intro l
  induction l generalizing r with
  | nil => rfl
  | cons s l ih => rw [List.foldl_cons, ih, withBundle_len]
/-- a kind more -/
def spKind (K : PySem.W.Frag) : Sp := fun vs H Q _ => ∃ (a : Addr) (r : List Cell) (v c : Nat), vs = [.ref a, .int (v : Int), .int (c : Int)] ∧ Row K H a r ∧ 1 ≤ r.length ∧ r.length ≤ 2000 ∧ 1 ≤ v ∧ v ≤ 100000 ∧ NewRow H (nextRow r v c) Q
theorem ok_with_kind (T : Tx K mg) : FnOk P w K mg base CX0 2 T.a_with_kind T.d_with_kind P_with_kind (spKind K) := by
  have G__bundles := ok_bundles (P := P) (w := w) (base := base) T
  have G__with_bundle := ok_with_bundle (P := P) (w := w) (base := base) T
  refine T.f_with_kind.ok sc_with_kind (fun vs H Q E h => ?_) (fun cdv A outer s H vs Q E hr h => ?_)
  · obtain ⟨a, r, v, c, rfl, _⟩ := h
    rfl
  · obtain ⟨a, r, v, c, rfl, hS, hl1, hl, hv1, hv2, q⟩ := h
    refine ⟨_, (pss_cons (ps_set (i := 3) sc_with_kind.nd rfl (.inl rfl) (pe_callTy call_list_of (by rfl) T.m_list (by decide +kernel) (pa_cons (pv 0) pa_nil)))
    (pss_cons (ps_set (i := 4) sc_with_kind.nd rfl (.inl rfl) (pe_callB (call_min2 rfl) (by rfl) T.m_min (by decide +kernel) (pa_cons (pv 2) (pa_cons (pe_op op_fdiv (pe_op op_sub (pe_callB call_len_seq (by rfl) T.m_len (by decide +kernel) (pa_cons (pv 0) pa_nil)) pe_int) (pv 1)) pa_nil))))
    (pss_cons (ps_for PassesOwn.never rfl (pi_list (pe_call G__bundles (hr.mono (by decide)) (by rfl) T.g__bundles T.f__bundles.kp T.p__bundles .nil pass0 (pa_cons (pv 4) pa_nil))) (pg_name (i := 5) sc_with_kind.nd rfl (.inl rfl))
      (pss_one (ps_set (i := 3) sc_with_kind.nd rfl (.inl rfl) (pe_call G__with_bundle (hr.mono (by decide)) (by rfl) T.g__with_bundle T.f__with_bundle.kp T.p__with_bundle .nil pass0 (pa_cons (pv 3) (pa_cons (pe_op op_mul (pv 5) (pv 1)) (pa_cons (pv 5) pa_nil)))))))
    (pss_one (ps_ret (pv 3)))))), ?_⟩
    have hS' : SqL K H a (r.map vO) := hS
    have hrl : (r.map vO).length = r.length := List.length_map _
    refine ⟨_, rfl, a, _, rfl, .inl hS', fun l hl0 => ?_⟩
    (generalize hh : upd H l _ = H1; have e1 : Ex H H1 := (by rw [← hh]; exact Ex.nw hl0); have cl := (show H1 l = some _ by rw [← hh]; exact upd_same); clear hh)
    obtain ⟨n, hn, hnn⟩ : ∃ n : Nat, (if (((r.map vO).length : Int) - 1) / (v : Int) < (c : Int) then (((r.map vO).length : Int) - 1) / (v : Int) else (c : Int)) = (n : Int) ∧ n = min c ((r.length - 1) / v) := by
      rw [hrl, show ((r.length : Int) - 1) / (v : Int) = (((r.length - 1) / v : Nat) : Int) by
        rw [Int.natCast_ediv]
        congr 1
        omega]
      by_cases h : (((r.length - 1) / v : Nat) : Int) < (c : Int)
      · exact ⟨(r.length - 1) / v, if_pos h, by omega⟩
      · exact ⟨c, if_neg h, by omega⟩
    have hn2 : n ≤ 2000 := by
      have : (r.length - 1) / v ≤ r.length - 1 := Nat.div_le_self ..
      omega
    refine ⟨_, rfl, _, rfl, a, _, rfl, .inl (e1.seq hS'), _, _, rfl, rfl, _, rfl, _, _, rfl, rfl, ⟨by omega, by omega⟩, _, _, rfl, ?_⟩
    rw [hn]
    refine ⟨_, rfl, n, rfl, by omega, fun p ss H2 e2 hp ep hst hsum hlen => ?_⟩
    refine ⟨p, rfl, ⟨_, .of ep⟩, for_list (xs := ss.map fun k : Nat => V.int (k : Int)) (fun i σ H' => ∃ o y5, σ = [some (.ref a), some (.int (v : Int)), some (.int (c : Int)), some (.ref o), some (.int (n : Int)), y5] ∧ Ex H2 H' ∧ H o = none ∧ H' o = some (.lst (((ss.take i).foldl (fun o s => withBundle o (s * v) s) r).map vO)))
      ⟨l, _, rfl, Ex.rfl', hl0, e2 _ _ cl⟩ (fun i σ H' _ h => by obtain ⟨_, _, _, e, _⟩ := h; exact .of (e _ _ ep)) ?_ ?_⟩
    · rintro i x σ H3 hx ⟨o, y5, rfl, ex, ho, eo⟩
      rw [List.getElem?_map] at hx
      obtain ⟨s, hs, rfl⟩ := Option.map_eq_some_iff.mp hx
      have hsl : s ≤ n := by
        rw [← hsum]
        exact le_sum (List.mem_of_getElem? hs)
      have hsv : s * v ≤ r.length - 1 := by
        have h1 : n * v ≤ r.length - 1 := by
          rw [hnn]
          exact Nat.le_trans (Nat.mul_le_mul_right _ (Nat.min_le_right ..)) (Nat.div_mul_le_self ..)
        exact Nat.le_trans (Nat.mul_le_mul_right _ hsl) h1
      have hfl : ((ss.take i).foldl (fun o s => withBundle o (s * v) s) r).length = r.length := fold_len ..
      refine ⟨_, rfl, _, rfl, _, rfl, _, _, rfl, rfl, .inr ⟨by omega, by omega⟩, _, rfl, o, _, s * v, s, congrArg (fun z => [V.ref o, V.int z, V.int (s : Int)]) (Int.natCast_mul ..).symm, .of eo, by omega, by omega, fun p' H4 e4 hp' ep' => ?_⟩
      refine ⟨p', _, rfl, ex.tr e4, none_back ((e1.tr e2).tr ex) hp', ?_⟩
      rw [List.take_add_one, hs, List.foldl_append]
      exact ep'
    · rintro σ H3 ⟨o, y5, rfl, ex, ho, eo⟩
      rw [List.take_of_length_le (by rw [List.length_map]; exact Nat.le_refl _), fold_next (v := v) (c := c) (by omega) hst (by omega)] at eo
      exact ⟨_, rfl, q o H3 ((e1.tr e2).tr ex) ho eo⟩
def spCheck (lo hi : Int) (cN : Addr) : Sp := fun vs H Q E => ∃ v : Int, vs = [.int v] ∧ ((lo ≤ v ∧ v ≤ hi) → Q .non H) ∧ (¬ (lo ≤ v ∧ v ≤ hi) → E (.ref cN) none H)
theorem ok_check_sum (T : Tx K mg) : FnOk P w K mg base (L2.CX P w) 1 T.a_check_sum T.d_check_sum P_check_sum (spCheck 0 1000 T.c_NoSum) := by
  refine T.f_check_sum.okX sc_check_sum (fun vs H Q E h => ?_) (fun cdv A outer s H vs Q E hr h => ?_)
  · obtain ⟨v, rfl, _⟩ := h
    rfl
  · obtain ⟨v, rfl, q1, q2⟩ := h
    refine ⟨_, (pss_one (ps_if (pt_not (pt_chain op_le op_le pe_int (pv 0) (pe_glob (v := .int 1000) (by rfl) T.w_MOST_SUM.choose_spec ⟨_, rfl⟩)))
      (pss_one (ps_raise rfl (takes_of rfl rfl rfl rfl) (pmk_own PySem.F.excBase_ValueError T.x_NoSum T.g_NoSum T.k_NoSum (raises_own T.b_NoSum T.t_NoSum) rfl)))
      pss_nil)), ?_⟩
    repeat (first | refine ⟨_, rfl, ?_⟩ | refine ⟨(by show (0 : Int) < _; decide), ?_⟩ | refine ⟨⟨by decide, by decide⟩, ?_⟩ | refine ⟨.inr ⟨by decide, by decide⟩, ?_⟩ | refine ⟨.inl ⟨by decide, by decide⟩, ?_⟩ | refine ⟨⟨by decide, by decide, by decide⟩, ?_⟩ | refine ⟨_, _, rfl, rfl, ?_⟩ | refine ⟨rfl, _, rfl, ?_⟩)
    first | refine iteVI (fun e => ?_) (fun e => ?_) | refine iteVN (fun e => ?_) (fun e => ?_) | refine iteD (fun e => ?_) (fun e => ?_) | refine iteDN (fun e => ?_) (fun e => ?_) | refine iteB (fun e => ?_) (fun e => ?_)
    · repeat (first | refine ⟨_, rfl, ?_⟩ | refine ⟨(by show (0 : Int) < _; decide), ?_⟩ | refine ⟨⟨by decide, by decide⟩, ?_⟩ | refine ⟨.inr ⟨by decide, by decide⟩, ?_⟩ | refine ⟨.inl ⟨by decide, by decide⟩, ?_⟩ | refine ⟨⟨by decide, by decide, by decide⟩, ?_⟩ | refine ⟨_, _, rfl, rfl, ?_⟩ | refine ⟨rfl, _, rfl, ?_⟩)
      first | refine iteVI (fun e' => ?_) (fun e' => ?_) | refine iteVN (fun e' => ?_) (fun e' => ?_) | refine iteD (fun e' => ?_) (fun e' => ?_) | refine iteDN (fun e' => ?_) (fun e' => ?_) | refine iteB (fun e' => ?_) (fun e' => ?_)
      · exact q2 fun z => e' z.2
      · exact q1 ⟨e, e'⟩
    · exact ⟨_, rfl, iteT (q2 fun z => e z.1)⟩
theorem row0_map (n : Nat) : [V.int 0] ++ (List.replicate n [V.non]).flatten = (row0 n).map vO := by
  show V.int 0 :: (List.replicate n [V.non]).flatten = V.int 0 :: (List.replicate n (none : Cell)).map vO
  congr 1
  induction n with
  | zero => rfl
  | succ n ih =>
    rw [List.replicate_succ, List.replicate_succ, List.flatten_cons, List.map_cons, ih]
    rfl
def spTable (K : PySem.W.Frag) (cN : Addr) : Sp := fun vs H Q E => ∃ (a : Addr) (ps : List (Int × Int)) (m : Int), vs = [.ref a, .int m] ∧ Till K H a ps ∧ ps.length ≤ 1000 ∧ (∀ p ∈ ps, 1 ≤ p.1 ∧ p.1 ≤ 1000 ∧ 0 ≤ p.2) ∧
  ((0 ≤ m ∧ m ≤ 1000) → NewRows H (rowsOf (row0 m.toNat) ps) Q) ∧ (¬ (0 ≤ m ∧ m ≤ 1000) → E (.ref cN) none H)
theorem ok_table (T : Tx K mg) : FnOk P w K mg base (L2.CX P w) 3 T.a_table T.d_table P_table (spTable K T.c_NoSum) := by
  have G_check_sum := ok_check_sum (P := P) (w := w) (base := base) T
  have G_with_kind := ok_with_kind (P := P) (w := w) (base := base) T
  refine T.f_table.okX sc_table (fun vs H Q E h => ?_) (fun cdv A outer s H vs Q E hr h => ?_)
  · obtain ⟨a, ps, m, rfl, _⟩ := h
    rfl
  · obtain ⟨a, ps, m, rfl, ⟨xs, hS, hp⟩, hl, hv, q1, q2⟩ := h
    refine ⟨_, (pss_cons (ps_expr (pe_call G_check_sum (hr.mono (by decide)) (by rfl) T.g_check_sum T.f_check_sum.kp T.p_check_sum .nil (passes_call (takes_of rfl rfl rfl rfl) fun _ _ _ _ h => h) (pa_cons (pv 1) pa_nil)))
    (pss_cons (ps_set (i := 2) sc_table.nd rfl (.inl rfl) (pe_op op_cat (pe_lst (pa_cons pe_int pa_nil)) (pe_op op_rep (pe_lst (pa_cons pe_non pa_nil)) (pv 1))))
    (pss_cons (ps_set (i := 3) sc_table.nd rfl (.inl rfl) (pe_lst (pa_cons (pv 2) pa_nil)))
    (pss_cons (ps_for (passes_of rfl) rfl (pi_list (pv 0)) (pg_tup rfl (pgs_cons (pg_name (i := 4) sc_table.nd rfl (.inl rfl)) (pgs_cons (pg_name (i := 5) sc_table.nd rfl (.inl rfl)) pgs_nil)))
      (pss_cons (ps_set (i := 2) sc_table.nd rfl (.inl rfl) (pe_call G_with_kind (hr.mono (by decide)) (by rfl) T.g_with_kind T.f_with_kind.kp T.p_with_kind .nil pass0 (pa_cons (pv 2) (pa_cons (pv 4) (pa_cons (pv 5) pa_nil)))))
      (pss_one (ps_expr (pe_bm PySem.F.plainAttrs_list PySem.F.slot_list_append PySem.F.type_list_append mt_append (pv 3) (pa_cons (pv 2) pa_nil))))))
    (pss_one (ps_ret (pv 3))))))), ?_⟩
    refine ⟨_, rfl, m, rfl, fun hm => ?_, q2⟩
    obtain ⟨n, rfl⟩ : ∃ n : Nat, m = (n : Int) := ⟨m.toNat, (Int.toNat_of_nonneg hm.1).symm⟩
    have hn : n ≤ 1000 := by omega
    rw [Int.toNat_natCast] at q1
    refine ⟨len63 (by show 1 ≤ _; decide), fun l1 hl1 => ?_⟩
    (generalize hh : upd H l1 _ = H1; have e1 : Ex H H1 := (by rw [← hh]; exact Ex.nw hl1); have c1 := (show H1 l1 = some _ by rw [← hh]; exact upd_same); clear hh)
    refine ⟨len63 (by show 1 ≤ _; decide), fun l2 hl2 => ?_⟩
    (generalize hh : upd H1 l2 _ = H2; have e2 : Ex H1 H2 := (by rw [← hh]; exact Ex.nw hl2); have c2 := (show H2 l2 = some _ by rw [← hh]; exact upd_same); clear hh)
    refine ⟨_, rfl, l2, _, _, rfl, rfl, c2, by omega, by omega, len63 (by rw [Int.toNat_natCast]; show 1 * n ≤ _; omega), fun l3 hl3 => ?_⟩
    rw [Int.toNat_natCast]
    (generalize hh : upd H2 l3 _ = H3; have e3 : Ex H2 H3 := (by rw [← hh]; exact Ex.nw hl3); have c3 := (show H3 l3 = some _ by rw [← hh]; exact upd_same); clear hh)
    refine ⟨l1, l3, _, _, rfl, rfl, e3 _ _ (e2 _ _ c1), c3, len63 (by simp; omega), fun l4 hl4 => ?_⟩
    rw [row0_map]
    (generalize hh : upd H3 l4 _ = H4; have e4 : Ex H3 H4 := (by rw [← hh]; exact Ex.nw hl4); have c4 := (show H4 l4 = some _ by rw [← hh]; exact upd_same); clear hh)
    have ex4 := ((e1.tr e2).tr e3).tr e4
    have hl40 : H l4 = none := none_back ((e1.tr e2).tr e3) hl4
    refine ⟨_, rfl, len63 (by show 1 ≤ _; decide), fun R hR => ?_⟩
    have hR0 : H R = none := none_back ex4 hR
    have n4R : l4 ≠ R := ne_of_none c4 hR
    refine ⟨_, rfl, a, rfl, ⟨xs, (ex4.tr (Ex.nw hR)).seq hS⟩, for_list (xs := xs) (fun i σ H' => ∃ as b y4 y5, σ = [some (.ref a), some (.int (n : Int)), some (.ref b), some (.ref R), y4, y5] ∧ Ex H H' ∧ (∀ x ∈ R :: as, H x = none) ∧ (R :: as).Nodup ∧
        H' R = some (.lst (as.map V.ref)) ∧ RowsAt H' as (rowsOf (row0 n) (ps.take i)) ∧ H' b = some (.lst ((lastRow (row0 n) (ps.take i)).map vO)))
      ⟨[l4], l4, _, _, rfl, ex4.tr (Ex.nw hR), ?_, ?_, upd_same, .cons ((Ex.nw hR) _ _ c4) .nil, (Ex.nw hR) _ _ c4⟩ (fun i σ H' _ h => by
        obtain ⟨_, _, _, _, _, e, _⟩ := h
        exact e.seq hS) ?_ ?_⟩
    · intro x hx
      rcases List.mem_cons.mp hx with e | e
      · exact e ▸ hR0
      · rw [List.mem_singleton.mp e]
        exact hl40
    · rw [List.nodup_cons, List.mem_singleton]
      exact ⟨fun e => n4R e.symm, List.nodup_cons.mpr ⟨by simp, List.nodup_nil⟩⟩
    · rintro i x σ H5 hx ⟨as, b, y4, y5, rfl, ex, hfr, hnd, eR, hrows, eb⟩
      obtain ⟨p, t, h1, rfl, h3⟩ := Prs.get hp hx
      have hpm := hv p (List.mem_of_getElem? h1)
      have hi : i < ps.length := (List.getElem?_eq_some_iff.mp h1).1
      have hll : (lastRow (row0 n) (ps.take i)).length = n + 1 := by rw [lastRow_len, row0_len]
      refine ⟨t, _, rfl, .of (ex _ _ h3), rfl, _, _, rfl, _, _, rfl, rfl, ?_⟩
      refine ⟨_, rfl, _, rfl, _, rfl, b, _, p.1.toNat, p.2.toNat, by rw [Int.toNat_of_nonneg (by omega), Int.toNat_of_nonneg (by omega)]; rfl, .of eb, by omega, by omega, by omega, by omega, fun p' H6 e6 hp' ep' => ?_⟩
      rw [← lastRow_snoc, ← take_snoc h1] at ep'
      have hal := hrows.len
      rw [rowsOf_len, List.length_take] at hal
      refine ⟨_, rfl, .inl ⟨rfl, _, .of (e6 _ _ eR)⟩, _, rfl, R, _, _, rfl, rfl, e6 _ _ eR, len63' (by rw [List.length_map]; omega), ?_⟩
      have hRa : R ∉ as := (List.nodup_cons.mp hnd).1
      have hpR : p' ≠ R := (ne_of_none eR hp').symm
      have hpa : p' ∉ as := fun z => by
        obtain ⟨o, ho⟩ := hrows.mem z
        rw [ho] at hp'
        cases hp'
      refine ⟨as ++ [p'], p', _, _, rfl, Ex.mu (ex.tr e6) hR0, ?_, ?_, ?_, ?_, ?_⟩
      · intro x hx
        rcases List.mem_cons.mp hx with e | e
        · exact e ▸ hR0
        · rcases List.mem_append.mp e with e | e
          · exact hfr x (List.mem_cons_of_mem _ e)
          · rw [List.mem_singleton.mp e]
            exact none_back ex hp'
      · rw [← List.cons_append]
        refine nd_snoc hnd fun z => ?_
        rcases List.mem_cons.mp z with e | e
        · exact hpR e
        · exact hpa e
      · rw [upd_same, List.map_append]
        rfl
      · rw [take_snoc h1, rowsOf_snoc, ← take_snoc h1]
        exact RowsAt.snoc ((hrows.ex e6).up hRa) (by rw [upd_ne hpR]; exact ep')
      · rw [upd_ne hpR]
        exact ep'
    · rintro σ H5 ⟨as, b, y4, y5, rfl, ex, hfr, hnd, eR, hrows, eb⟩
      rw [List.take_of_length_le (by rw [hp.len]; exact Nat.le_refl _)] at hrows
      exact ⟨_, rfl, q1 hm R as H5 ex hfr hnd eR hrows⟩
theorem at_last {H : Hp} {as : List Addr} {r0 : List Cell} {ps : List (Int × Int)} (h : RowsAt H as (rowsOf r0 ps)) : ∃ a, atI (as.map V.ref) (-1) = some (.ref a) ∧ as[ps.length]? = some a ∧ H a = some (.lst ((lastRow r0 ps).map vO)) := by
  obtain ⟨a, h1, h2⟩ := h.get (rowsOf_at _ _ ps.length (Nat.le_refl _))
  rw [List.take_length] at h2
  refine ⟨a, ?_, h1, h2⟩
  have hal : (as.map V.ref).length = ps.length + 1 := by rw [List.length_map, h.len, rowsOf_len]
  unfold atI
  rw [show ixN (as.map V.ref).length (-1) = some ps.length by
    unfold ixN
    rw [if_neg (by omega), if_pos (by omega)]
    congr 1
    omega]
  show (as.map V.ref)[ps.length]? = _
  rw [List.getElem?_map, h1]
  rfl
/-! ### the fewest pieces -/
/-! ### places and pairs, told again -/
theorem vO_scal (o : Cell) (i : Int) : scal (vO o) (.int i) = true := by cases o <;> rfl
theorem vO_int {o : Cell} {i : Int} : vO o = .int i ↔ o = some i := by
  cases o with
  | none => exact ⟨(fun h => nomatch h), (fun h => nomatch h)⟩
  | some j => exact ⟨fun h => congrArg some (V.int.inj h), fun h => congrArg V.int (Option.some.inj h)⟩
theorem Prs.rev {H : Hp} : ∀ {xs : List V} {ps : List (Int × Int)}, Prs H xs ps → Prs H xs.reverse ps.reverse
  | _, _, .nil => .nil
  | _, _, .cons h r => by
    rw [List.reverse_cons, List.reverse_cons]
    exact Prs.snoc (Prs.rev r) h
def spMostGiven (K : PySem.W.Frag) : Sp := fun vs H Q _ => ∃ (a : Addr) (r : List Cell) (d v c : Nat) (m : Int), vs = [.ref a, .int (d : Int), .int m, .int (v : Int), .int (c : Int)] ∧ Row K H a r ∧ d < r.length ∧ d ≤ 100000 ∧ 1 ≤ v ∧ v ≤ 100000 ∧ Q (.int (pick r v c d m : Nat)) H
theorem ok_most_given (T : Tx K mg) : FnOk P w K mg base CX0 1 T.a__most_given T.d__most_given P__most_given (spMostGiven K) := by
  refine T.f__most_given.ok sc__most_given (fun vs H Q E h => ?_) (fun cdv A outer s H vs Q E hr h => ?_)
  · obtain ⟨a, r, d, v, c, m, rfl, _⟩ := h
    rfl
  · obtain ⟨a, r, d, v, c, m, rfl, hS, hd, hd2, hv1, hv2, q⟩ := h
    refine ⟨_, (pss_cons (ps_for PassesOwn.never rfl (pi_range3 (by rfl) T.m_range (pa_cons (pe_callB (call_min2 rfl) (by rfl) T.m_min (by decide +kernel) (pa_cons (pv 4) (pa_cons (pe_op op_fdiv (pv 1) (pv 3)) pa_nil))) (pa_cons pe_int (pa_cons (pe_un un_neg pe_int) pa_nil)))) (pg_name (i := 5) sc__most_given.nd rfl (.inl rfl))
      (pss_one (ps_if (pt_cmpR op_eq (pe_ix ix_list (pv 0) (pe_op op_sub (pv 1) (pe_op op_mul (pv 5) (pv 3))) (fun _ _ => rfl)) (pe_op op_sub (pv 2) (pv 5)) (nomark _))
        (pss_one (ps_ret (pv 5)))
        pss_nil)))
    (pss_one (ps_ret pe_int))), ?_⟩
    have hS' : SqL K H a (r.map vO) := hS
    obtain ⟨n, hn, hnn⟩ : ∃ n : Nat, (if (d : Int) / (v : Int) < (c : Int) then (d : Int) / (v : Int) else (c : Int)) = (n : Int) ∧ n = min c (d / v) := by
      rw [← Int.natCast_ediv]
      by_cases h : ((d / v : Nat) : Int) < (c : Int)
      · exact ⟨d / v, if_pos h, by omega⟩
      · exact ⟨c, if_neg h, by omega⟩
    have hnd : n ≤ d := by
      have : d / v ≤ d := Nat.div_le_self ..
      omega
    have hnv : n * v ≤ d := by
      rw [hnn]
      exact Nat.le_trans (Nat.mul_le_mul_right _ (Nat.min_le_right ..)) (Nat.div_mul_le_self ..)
    unfold pick at q
    rw [← hnn] at q
    refine ⟨_, rfl, _, rfl, _, rfl, _, _, rfl, rfl, ⟨by omega, by omega⟩, _, _, rfl, ?_⟩
    rw [hn]
    refine ⟨_, rfl, _, _, _, n, rfl, .neg (by omega) (by omega) (by decide) (by decide), ?_⟩
    refine for_rangeC (fun i σ H' => ∃ y5, σ = [some (.ref a), some (.int (d : Int)), some (.int m), some (.int (v : Int)), some (.int (c : Int)), y5] ∧ H' = H ∧ pickUp r v d m n = pickUp r v d m (n - i)) ⟨_, rfl, rfl, rfl⟩ ?_ ?_
    · rintro i σ H' hi ⟨y5, rfl, rfl, hpk⟩
      obtain ⟨k, hk⟩ : ∃ k, n - i = k + 1 := ⟨n - i - 1, by omega⟩
      have eg : (n : Int) + (i : Int) * -1 = ((k + 1 : Nat) : Int) := by omega
      have hkv : (k + 1) * v ≤ d := Nat.le_trans (Nat.mul_le_mul_right _ (by omega : k + 1 ≤ n)) hnv
      rw [eg]
      rw [hk] at hpk
      have a1 : atI (r.map vO) ((d : Int) - ((k + 1 : Nat) : Int) * (v : Int)) = some (vO (rAt r (d - (k + 1) * v))) := at_of (j := d - (k + 1) * v) (by
        rw [← Int.natCast_mul]
        omega) (vO_at (by omega))
      refine ⟨_, rfl, _, rfl, _, rfl, _, rfl, _, _, rfl, rfl, .inr ⟨by omega, by omega⟩, _, _, rfl, rfl, a, _, _, _, rfl, rfl, hS', a1, ?_⟩
      refine ⟨_, rfl, _, rfl, _, _, rfl, rfl, vO_scal _ _, _, rfl, iteD (fun e => ?_) (fun e => ?_)⟩
      · have e' := vO_int.mp e
        refine ⟨_, rfl, ?_⟩
        rw [hpk, show pickUp r v d m (k + 1) = k + 1 from if_pos e'] at q
        exact q
      · refine ⟨_, rfl, rfl, ?_⟩
        rw [hpk, show n - (i + 1) = k by omega]
        exact if_neg fun z => e (vO_int.mpr z)
    · rintro σ H' ⟨y5, rfl, rfl, hpk⟩
      rw [hpk, Nat.sub_self] at q
      exact q
def spFewest (K : PySem.W.Frag) (cN cC : Addr) : Sp := fun vs H Q E => ∃ (a : Addr) (ps : List (Int × Int)) (m : Int), vs = [.ref a, .int m] ∧ Till K H a ps ∧ ps.length ≤ 1000 ∧ (∀ p ∈ ps, 1 ≤ p.1 ∧ p.1 ≤ 1000 ∧ 0 ≤ p.2) ∧
  (¬ (0 ≤ m ∧ m ≤ 1000) → E (.ref cN) none H) ∧
  ((0 ≤ m ∧ m ≤ 1000) → rAt (lastRow (row0 m.toNat) ps) m.toNat = none → ∀ H2, Ex H H2 → E (.ref cC) none H2) ∧
  ((0 ≤ m ∧ m ≤ 1000) → rAt (lastRow (row0 m.toNat) ps) m.toNat ≠ none → ∀ p xs H2, Ex H H2 → H p = none → H2 p = some (.lst xs) → Prs H2 xs (given (row0 m.toNat) ps ps.length m.toNat) → Q (.ref p) H2)
theorem ok_fewest (T : Tx K mg) : FnOk P w K mg base (L2.CX P w) 4 T.a_fewest T.d_fewest P_fewest (spFewest K T.c_NoSum T.c_NoChange) := by
  have G_table := ok_table (P := P) (w := w) (base := base) T
  have G__most_given := ok_most_given (P := P) (w := w) (base := base) T
  refine T.f_fewest.okX sc_fewest (fun vs H Q E h => ?_) (fun cdv A outer s H vs Q E hr h => ?_)
  · obtain ⟨a, ps, m, rfl, _⟩ := h
    rfl
  · obtain ⟨a, ps, m, rfl, ⟨xs, hS, hp⟩, hl, hv, q1, q2, q3⟩ := h
    refine ⟨_, (pss_cons (ps_set (i := 2) sc_fewest.nd rfl (.inl rfl) (pe_call G_table (hr.mono (by decide)) (by rfl) T.g_table T.f_table.kp T.p_table .nil (passes_call (takes_of rfl rfl rfl rfl) fun _ _ _ _ h => h) (pa_cons (pv 0) (pa_cons (pv 1) pa_nil))))
    (pss_cons (ps_if (pt_cmpR op_isN (pe_ix ix_list (pe_ix ix_list (pv 2) (pe_un un_neg pe_int) (fun _ _ => rfl)) (pv 1) (fun _ _ => rfl)) pe_non (nomark _))
      (pss_one (ps_raise rfl (takes_of rfl rfl rfl rfl) (pmk_own PySem.F.excBase_ValueError T.x_NoChange T.g_NoChange T.k_NoChange (raises_own T.b_NoChange T.t_NoChange) rfl)))
      pss_nil)
    (pss_cons (ps_set (i := 3) sc_fewest.nd rfl (.inl rfl) (pe_lst pa_nil))
    (pss_cons (ps_set (i := 4) sc_fewest.nd rfl (.inl rfl) (pv 1))
    (pss_cons (ps_for (passes_of rfl) rfl (pi_revR (by rfl) T.m_reversed (prg_1 (by rfl) T.m_range (pe_callB call_len_seq (by rfl) T.m_len (by decide +kernel) (pa_cons (pv 0) pa_nil)))) (pg_name (i := 5) sc_fewest.nd rfl (.inl rfl))
      (pss_cons (ps_asg (pe_ix ix_list (pv 0) (pv 5) (fun _ _ => rfl)) (pg_tup rfl (pgs_cons (pg_name (i := 6) sc_fewest.nd rfl (.inl rfl)) (pgs_cons (pg_name (i := 7) sc_fewest.nd rfl (.inl rfl)) pgs_nil))))
      (pss_cons (ps_set (i := 8) sc_fewest.nd rfl (.inl rfl) (pe_call G__most_given (hr.mono (by decide)) (by rfl) T.g__most_given T.f__most_given.kp T.p__most_given .nil pass0 (pa_cons (pe_ix ix_list (pv 2) (pv 5) (fun _ _ => rfl)) (pa_cons (pv 4) (pa_cons (pe_ix ix_list (pe_ix ix_list (pv 2) (pe_op op_add (pv 5) pe_int) (fun _ _ => rfl)) (pv 4) (fun _ _ => rfl)) (pa_cons (pv 6) (pa_cons (pv 7) pa_nil)))))))
      (pss_one (ps_if (pt_cmpR op_gt (pv 8) pe_int (nomark _))
        (pss_cons (ps_expr (pe_bm PySem.F.plainAttrs_list PySem.F.slot_list_append PySem.F.type_list_append mt_append (pv 3) (pa_cons (pe_tup (pa_cons (pv 6) (pa_cons (pv 8) pa_nil))) pa_nil)))
        (pss_one (ps_aug (i := 4) sc_fewest.nd rfl (.inl rfl) (pe_op op_mul (pv 8) (pv 6)) ip_sub)))
        pss_nil)))))
    (pss_one (ps_ret (pe_revL (pv 3))))))))), ?_⟩
    refine ⟨_, rfl, _, rfl, a, ps, m, rfl, ⟨xs, hS, hp⟩, hl, hv, fun hm => ?_, q1⟩
    obtain ⟨n, rfl⟩ : ∃ n : Nat, m = (n : Int) := ⟨m.toNat, (Int.toNat_of_nonneg hm.1).symm⟩
    have hn : n ≤ 1000 := by omega
    rw [Int.toNat_natCast] at q2 q3 ⊢
    intro R as H2 e2 hfr hnd eR hrows
    obtain ⟨z, iz, _, ez⟩ := at_last hrows
    have hll : ∀ j, (lastRow (row0 n) (ps.take j)).length = n + 1 := fun j => by rw [lastRow_len, row0_len]
    have hlz := hll ps.length
    rw [List.take_length] at hlz
    refine ⟨_, rfl, _, rfl, R, _, _, .ref z, rfl, rfl, .of eR, iz, _, rfl, z, _, _, _, rfl, rfl, .of ez, at_of rfl (vO_at (by rw [hlz]; exact Nat.lt_succ_self n)), ?_⟩
    cases hc : rAt (lastRow (row0 n) ps) n with
    | none => exact ⟨rfl, _, rfl, iteD (fun _ => q2 hm hc _ e2) (fun y => absurd rfl y)⟩
    | some m =>
      refine ⟨rfl, _, rfl, iteD (fun y => nomatch y) (fun _ => ?_)⟩
      refine ⟨Nat.zero_le _, fun ch hch => ?_⟩
      have hch0 : H ch = none := none_back e2 hch
      have eR2 := (Ex.nw (o := .lst []) hch) _ _ eR
      have hg := given_ok (ps := ps) (n := n) (fun p hp => (hv p hp).1) (Nat.le_refl ps.length) (Nat.lt_succ_self n) (by rw [List.take_length]; exact hc)
      have hpl := hp.len
      refine ⟨_, rfl, ?_⟩
      refine ⟨_, rfl, a, xs, rfl, .inl (((e2.tr (Ex.nw hch))).seq hS), _, rfl, by omega, by omega, by omega, by omega, ?_⟩
      refine for_rangeC (fun i σ H' => ∃ (k left : Nat) (x : Int) (zs : List V) (acc : List (Int × Int)) (y5 y6 y7 y8 : Option V), k + i = ps.length ∧ σ = [some (.ref a), some (.int (n : Int)), some (.ref R), some (.ref ch), some (.int (left : Int)), y5, y6, y7, y8] ∧
        Ex H2 H' ∧ H' ch = some (.lst zs) ∧ Prs H' zs acc ∧ left ≤ n ∧ rAt (lastRow (row0 n) (ps.take k)) left = some x ∧ given (row0 n) ps ps.length n = given (row0 n) ps k left ++ acc.reverse ∧ acc.length ≤ i)
        ⟨ps.length, n, m, [], [], none, none, none, none, rfl, rfl, Ex.nw hch, upd_same, .nil, Nat.le_refl _, by rw [List.take_length]; exact hc, by simp, Nat.le_refl _⟩ ?_ ?_
      · rintro i σ H' hi ⟨k, left, x, zs, acc, y5, y6, y7, y8, hki, rfl, ex, ech, hacc, hle, hx, hgv, hal⟩
        have hi' : i < ps.length := by omega
        obtain ⟨j, rfl⟩ : ∃ j, k = j + 1 := ⟨k - 1, by omega⟩
        have ej : (0 : Int) + ((((xs.length : Int) - 0).toNat : Nat) : Int) - 1 + (i : Int) * -1 = (j : Int) := by omega
        rw [ej]
        have hj : j < ps.length := by omega
        obtain ⟨t, hx0, h3⟩ := Prs.getL hp (List.getElem?_eq_getElem hj)
        have hpj := List.getElem?_eq_getElem hj
        have hpv := hv _ (List.getElem_mem hj)
        generalize ps[j] = p at hpj h3 hpv
        have exH := e2.tr ex
        refine ⟨_, rfl, _, rfl, a, xs, _, _, rfl, rfl, exH.seq hS, at_of rfl hx0, t, _, rfl, .of (exH _ _ h3), rfl, _, _, rfl, _, _, rfl, rfl, ?_⟩
        have hrows' := hrows.ex ex
        obtain ⟨b, ib, _, eb⟩ := at_row hrows' (i := (j : Int)) (k := j) rfl (rowsOf_at _ _ j (by omega))
        obtain ⟨b1, ib1, _, eb1⟩ := at_row hrows' (i := (j : Int) + 1) (k := j + 1) rfl (rowsOf_at _ _ (j + 1) (by omega))
        have eR' := ex _ _ eR
        refine ⟨_, rfl, _, rfl, R, _, _, .ref b, rfl, rfl, .of eR', ib, _, rfl, ?_⟩
        refine ⟨_, rfl, _, rfl, _, _, rfl, rfl, R, _, _, .ref b1, rfl, rfl, .of eR', ib1, _, rfl, b1, _, _, _, rfl, rfl, .of eb1, at_of rfl (vO_at (by rw [hll]; omega)), _, rfl, _, rfl, ?_⟩
        rw [hx]
        obtain ⟨g1, g2, g3⟩ := step_ok hpj hpv.1 (by rw [row0_len]; omega) hx rfl
        have gs := given_succ (row0 n) ps j left hpj (g := pick (lastRow (row0 n) (ps.take j)) p.1.toNat p.2.toNat left x) (by rw [hx]; rfl)
        refine ⟨b, _, left, p.1.toNat, p.2.toNat, x, by rw [Int.toNat_of_nonneg (by omega), Int.toNat_of_nonneg (by omega)]; rfl, .of eb, by rw [hll]; omega, by omega, by omega, by omega, ?_⟩
        generalize pick (lastRow (row0 n) (ps.take j)) p.1.toNat p.2.toNat left x = g at g1 g2 g3 gs ⊢
        refine ⟨_, rfl, _, _, rfl, rfl, _, rfl, iteD (fun e => ?_) (fun e => ?_)⟩
        · have e' : 0 < g := by omega
          rw [if_pos e'] at gs
          refine ⟨_, rfl, .inl ⟨rfl, zs, .of ech⟩, _, rfl, _, rfl, len63 (by show 2 ≤ _; decide), fun t2 ht2 => ?_⟩
          have nct : ch ≠ t2 := ne_of_none ech ht2
          have ech' : (upd H' t2 (.tup [.int p.1, .int (g : Int)])) ch = some (.lst zs) := by rw [upd_ne nct]; exact ech
          refine ⟨ch, zs, _, rfl, rfl, ech', len63' (by rw [hacc.len]; omega), ?_⟩
          refine ⟨_, rfl, _, rfl, _, rfl, _, _, rfl, rfl, .inr ⟨by omega, by omega⟩, _, _, rfl, rfl, ?_⟩
          have el : (left : Int) - (g : Int) * p.1 = ((left - g * p.1.toNat : Nat) : Int) := by
            have : ((g * p.1.toNat : Nat) : Int) = (g : Int) * p.1 := by rw [Int.natCast_mul, Int.toNat_of_nonneg (by omega)]
            omega
          refine ⟨j, left - g * p.1.toNat, x - (g : Int), zs ++ [.ref t2], acc ++ [(p.1, (g : Int))], some (.int (j : Int)), some (.int p.1), some (.int p.2), some (.int (g : Int)), by omega, by rw [← el]; rfl, Ex.mu (ex.tr (Ex.nw ht2)) hch, upd_same, ?_, by omega, g3, ?_, by rw [List.length_append]; show _ + 1 ≤ _; omega⟩
          · refine Prs.up (by intro ys y; rw [ech'] at y; cases y) ?_
            exact Prs.snoc (hacc.ex (Ex.nw ht2)) ⟨t2, rfl, upd_same⟩
          · rw [hgv, gs, List.reverse_append, List.append_assoc]
            rfl
        · have e' : g = 0 := by omega
          subst e'
          rw [if_neg (Nat.lt_irrefl 0), List.append_nil, Nat.zero_mul, Nat.sub_zero] at gs
          rw [Nat.zero_mul, Nat.sub_zero] at g3
          exact ⟨j, left, _, zs, acc, _, _, _, _, by omega, rfl, ex, ech, hacc, hle, g3, by rw [hgv, gs], by omega⟩
      · rintro σ H' ⟨k, left, x, zs, acc, y5, y6, y7, y8, hki, rfl, ex, ech, hacc, hle, hx, hgv, hal⟩
        obtain rfl : k = 0 := by omega
        refine ⟨_, rfl, ch, zs, rfl, .of ech, fun p hp2 => ?_⟩
        refine q3 hm (by rw [hc]; exact fun z => nomatch z) p _ _ ((e2.tr ex).tr (Ex.nw hp2)) (none_back (e2.tr ex) hp2) upd_same ?_
        rw [hgv]
        exact (Prs.rev hacc).ex (Ex.nw hp2)
/-! ### count_of -/
/-- the first count of a kind -/
def countIn (ps : List (Int × Int)) (v : Int) : Option Int := ps.lookup v
theorem countIn_cons (p : Int × Int) (ps : List (Int × Int)) (v : Int) : countIn (p :: ps) v = if p.1 = v then some p.2 else countIn ps v := by
  unfold countIn
  rw [List.lookup_cons]
  by_cases h : p.1 = v
  · rw [if_pos h, show (v == p.1) = true by simp [h]]
  · rw [if_neg h, show (v == p.1) = false by simpa using fun e => h (Eq.symm e)]
theorem countIn_mem {ps : List (Int × Int)} {v c : Int} (h : countIn ps v = some c) : (v, c) ∈ ps := by
  induction ps with
  | nil => cases h
  | cons p ps ih =>
    rw [countIn_cons] at h
    by_cases e : p.1 = v
    · rw [if_pos e] at h
      have : p = (v, c) := by rw [← e, ← Option.some.inj h]
      rw [this]
      exact List.mem_cons_self
    · rw [if_neg e] at h
      exact List.mem_cons_of_mem _ (ih h)
theorem countIn_nd {ps : List (Int × Int)} {p : Int × Int} (nd : (ps.map (·.1)).Nodup) (hp : p ∈ ps) : countIn ps p.1 = some p.2 := by
  induction ps with
  | nil => cases hp
  | cons q ps ih =>
    rw [List.map_cons, List.nodup_cons] at nd
    rw [countIn_cons]
    rcases List.mem_cons.mp hp with e | e
    · rw [e, if_pos rfl]
    · rw [if_neg fun z => nd.1 (by rw [z]; exact List.mem_map.mpr ⟨p, e, rfl⟩)]
      exact ih nd.2 e
def spCountOf (K : PySem.W.Frag) (cN : Addr) : Sp := fun vs H Q E => ∃ (a : Addr) (ps : List (Int × Int)) (v : Int), vs = [.ref a, .int v] ∧ Till K H a ps ∧ (∀ c, countIn ps v = some c → Q (.int c) H) ∧ (countIn ps v = none → E (.ref cN) none H)
theorem ok_count_of (T : Tx K mg) : FnOk P w K mg base (L2.CX P w) 1 T.a_count_of T.d_count_of P_count_of (spCountOf K T.c_NoKind) := by
  refine T.f_count_of.okX sc_count_of (fun vs H Q E h => ?_) (fun cdv A outer s H vs Q E hr h => ?_)
  · obtain ⟨a, ps, v, rfl, _⟩ := h
    rfl
  · obtain ⟨a, ps, v, rfl, ⟨xs, hS, hp⟩, q1, q2⟩ := h
    refine ⟨_, (pss_cons (ps_for (passes_of rfl) rfl (pi_list (pv 0)) (pg_tup rfl (pgs_cons (pg_name (i := 2) sc_count_of.nd rfl (.inl rfl)) (pgs_cons (pg_name (i := 3) sc_count_of.nd rfl (.inl rfl)) pgs_nil)))
      (pss_one (ps_if (pt_cmpR op_eq (pv 2) (pv 1) (nomark _))
        (pss_one (ps_ret (pv 3)))
        pss_nil)))
    (pss_one (ps_raise rfl (takes_of rfl rfl rfl rfl) (pmk_own PySem.F.excBase_ValueError T.x_NoKind T.g_NoKind T.k_NoKind (raises_own T.b_NoKind T.t_NoKind) rfl)))), ?_⟩
    refine ⟨_, rfl, a, rfl, ⟨xs, hS⟩, for_list (xs := xs) (fun i σ H' => ∃ y2 y3, σ = [some (.ref a), some (.int v), y2, y3] ∧ H' = H ∧ countIn ps v = countIn (ps.drop i) v) ⟨_, _, rfl, rfl, rfl⟩ (fun i σ H' _ h => by obtain ⟨_, _, _, rfl, _⟩ := h; exact hS) ?_ ?_⟩
    · rintro i x σ H' hx ⟨y2, y3, rfl, rfl, hc⟩
      obtain ⟨p, t, h1, rfl, h3⟩ := Prs.get hp hx
      have hd : ps.drop i = p :: ps.drop (i + 1) := by
        obtain ⟨hi, e⟩ := List.getElem?_eq_some_iff.mp h1
        rw [List.drop_eq_getElem_cons hi, e]
      rw [hd, countIn_cons] at hc
      refine ⟨t, _, rfl, .of h3, rfl, _, _, rfl, _, _, rfl, rfl, ?_⟩
      repeat (first | refine ⟨_, rfl, ?_⟩ | refine ⟨(by show (0 : Int) < _; decide), ?_⟩ | refine ⟨⟨by decide, by decide⟩, ?_⟩ | refine ⟨.inr ⟨by decide, by decide⟩, ?_⟩ | refine ⟨.inl ⟨by decide, by decide⟩, ?_⟩ | refine ⟨⟨by decide, by decide, by decide⟩, ?_⟩ | refine ⟨_, _, rfl, rfl, ?_⟩ | refine ⟨rfl, _, rfl, ?_⟩)
      first | refine iteVI (fun e => ?_) (fun e => ?_) | refine iteVN (fun e => ?_) (fun e => ?_) | refine iteD (fun e => ?_) (fun e => ?_) | refine iteDN (fun e => ?_) (fun e => ?_) | refine iteB (fun e => ?_) (fun e => ?_)
      · rw [if_pos e] at hc
        repeat (first | refine ⟨_, rfl, ?_⟩ | refine ⟨(by show (0 : Int) < _; decide), ?_⟩ | refine ⟨⟨by decide, by decide⟩, ?_⟩ | refine ⟨.inr ⟨by decide, by decide⟩, ?_⟩ | refine ⟨.inl ⟨by decide, by decide⟩, ?_⟩ | refine ⟨⟨by decide, by decide, by decide⟩, ?_⟩ | refine ⟨_, _, rfl, rfl, ?_⟩ | refine ⟨rfl, _, rfl, ?_⟩)
        exact q1 _ hc
      · rw [if_neg e] at hc
        exact ⟨_, _, rfl, rfl, hc⟩
    · rintro σ H' ⟨y2, y3, rfl, rfl, hc⟩
      rw [List.drop_of_length_le (by rw [hp.len]; exact Nat.le_refl _)] at hc
      exact q2 hc
/-! ### what a deed does, by itself -/
def there (ps : List (Int × Int)) (v : Int) : Int := (countIn ps v).getD (-1)
def addC (ps : List (Int × Int)) (v d : Int) : List (Int × Int) := ps.map fun p => if p.1 = v then (p.1, p.2 + d) else p
def dueK (ps : List (Int × Int)) (w v c : Int) : Str :=
  if w < 2 then (if there ps v < 0 then "kind" else if c < 0 ∨ c > 1000000000 ∨ (w = 0 ∧ there ps v + c > 1000000000) then "count" else if w = 1 ∧ c > there ps v then "few" else "")
  else if w = 2 then (if v < 1 ∨ v > 1000 then "kind" else if 0 ≤ there ps v then "twice" else if ps.length = 10 then "till" else "")
  else (if there ps v < 0 then "kind" else if there ps v > 0 then "held" else if ps.length = 1 then "till" else "")
/-- the till behind -/
def Behind (ps : List (Int × Int)) (w v c : Int) (qs : List (Int × Int)) : Prop :=
  (w = 0 ∧ qs = addC ps v c) ∨ (w = 1 ∧ qs = addC ps v (-c)) ∨ (w = 2 ∧ Rising qs ∧ qs.Perm (ps ++ [(v, 0)])) ∨ (w = 3 ∧ qs = ps.filter fun p => decide (p.1 ≠ v))
theorem rising_uniq : ∀ {ps qs : List (Int × Int)}, Rising ps → Rising qs → ps.Perm qs → ps = qs
  | [], qs, _, _, h => (h.symm.eq_nil).symm
  | p :: ps, [], _, _, h => absurd h.eq_nil (by simp)
  | p :: ps, q :: qs, h1, h2, h => by
    obtain ⟨a1, a2⟩ := List.pairwise_cons.mp h1
    obtain ⟨b1, b2⟩ := List.pairwise_cons.mp h2
    have e : p = q := by
      rcases List.mem_cons.mp (h.mem_iff.mp List.mem_cons_self) with e | e
      · exact e
      · rcases List.mem_cons.mp (h.mem_iff.mpr List.mem_cons_self) with e' | e'
        · exact e'.symm
        · have := b1 p e
          have := a1 q e'
          omega
    subst e
    rw [rising_uniq a2 b2 ((List.perm_cons _).mp h)]
theorem Behind.uniq {ps : List (Int × Int)} {w v c : Int} {qs rs : List (Int × Int)} (h : Behind ps w v c qs) (k : Behind ps w v c rs) : qs = rs := by
  rcases h with ⟨a, b⟩ | ⟨a, b⟩ | ⟨a, b, d⟩ | ⟨a, b⟩ <;> rcases k with ⟨a', b'⟩ | ⟨a', b'⟩ | ⟨a', b', d'⟩ | ⟨a', b'⟩ <;> first | (subst a; exact absurd a' (by decide)) | rw [b, b'] | exact rising_uniq b b' (d.trans d'.symm)
theorem setC_eq {ps : List (Int × Int)} {v t n : Int} (nd : (ps.map (·.1)).Nodup) (h : countIn ps v = some t) : ps.map (fun p => (p.1, if p.1 = v then n else p.2)) = addC ps v (n - t) := by
  unfold addC
  refine List.map_congr_left fun p hp => ?_
  by_cases e : p.1 = v
  · rw [if_pos e, if_pos e]
    have := countIn_nd nd hp
    rw [e, h] at this
    rw [← Option.some.inj this]
    congr 1
    omega
  · rw [if_neg e, if_neg e]
/-- a till that is one -/
structure Tl (ps : List (Int × Int)) : Prop where
  ris : Rising ps
  val : ∀ p ∈ ps, 1 ≤ p.1 ∧ p.1 ≤ 1000
  cnt : ∀ p ∈ ps, 0 ≤ p.2 ∧ p.2 ≤ 1000000000
  len : 1 ≤ ps.length ∧ ps.length ≤ 10
theorem Tl.nd {ps : List (Int × Int)} (h : Tl ps) : (ps.map (·.1)).Nodup := rising_nd h.ris
/-- what a deed gives, or the refusal due -/
def OutK (cK cC cF cT cL cH : Addr) (ps : List (Int × Int)) (w v c : Int) (H : Hp) (Q : VK) (E : XK) : Prop :=
  (dueK ps w v c = "" → ∀ p xs qs H2, Ex H H2 → H p = none → H2 p = some (.lst xs) → Prs H2 xs qs → Behind ps w v c qs → Q (.ref p) H2) ∧
  (dueK ps w v c = "kind" → ∀ H2, Ex H H2 → E (.ref cK) none H2) ∧ (dueK ps w v c = "count" → ∀ H2, Ex H H2 → E (.ref cC) none H2) ∧ (dueK ps w v c = "few" → ∀ H2, Ex H H2 → E (.ref cF) none H2) ∧
  (dueK ps w v c = "twice" → ∀ H2, Ex H H2 → E (.ref cT) none H2) ∧ (dueK ps w v c = "till" → ∀ H2, Ex H H2 → E (.ref cL) none H2) ∧ (dueK ps w v c = "held" → ∀ H2, Ex H H2 → E (.ref cH) none H2)
theorem there_some {ps : List (Int × Int)} {v t : Int} (h : countIn ps v = some t) : there ps v = t := by
  unfold there
  rw [h]
  rfl
theorem there_none {ps : List (Int × Int)} {v : Int} (h : countIn ps v = none) : there ps v = -1 := by
  unfold there
  rw [h]
  rfl
theorem Tl.there_nn {ps : List (Int × Int)} (h : Tl ps) {v t : Int} (ht : countIn ps v = some t) : 0 ≤ t ∧ t ≤ 1000000000 := h.cnt _ (countIn_mem ht)
theorem Behind.few {ps : List (Int × Int)} {w v c : Int} {qs : List (Int × Int)} (h : Behind ps w v c qs) (hl : ps.length ≤ 10) : qs.length ≤ 1000 := by
  rcases h with ⟨_, rfl⟩ | ⟨_, rfl⟩ | ⟨_, _, hp⟩ | ⟨_, rfl⟩
  · unfold addC
    rw [List.length_map]
    omega
  · unfold addC
    rw [List.length_map]
    omega
  · rw [hp.length_eq, List.length_append]
    show ps.length + 1 ≤ _
    omega
  · exact Nat.le_trans (List.length_filter_le ..) (by omega)
def spNewT (H : Hp) (qs : List (Int × Int)) (Q : VK) : Prop := ∀ p xs H2, Ex H H2 → H p = none → H2 p = some (.lst xs) → Prs H2 xs qs → Q (.ref p) H2
/-! ### pieces brought -/
theorem ok_check_count (T : Tx K mg) : FnOk P w K mg base (L2.CX P w) 1 T.a_check_count T.d_check_count P_check_count (spCheck 0 1000000000 T.c_NoCount) := by
  refine T.f_check_count.okX sc_check_count (fun vs H Q E h => ?_) (fun cdv A outer s H vs Q E hr h => ?_)
  · obtain ⟨v, rfl, _⟩ := h
    rfl
  · obtain ⟨v, rfl, q1, q2⟩ := h
    refine ⟨_, (pss_one (ps_if (pt_not (pt_chain op_le op_le pe_int (pv 0) (pe_glob (v := .int 1000000000) (by rfl) T.w_MOST_COUNT.choose_spec ⟨_, rfl⟩)))
      (pss_one (ps_raise rfl (takes_of rfl rfl rfl rfl) (pmk_own PySem.F.excBase_ValueError T.x_NoCount T.g_NoCount T.k_NoCount (raises_own T.b_NoCount T.t_NoCount) rfl)))
      pss_nil)), ?_⟩
    repeat (first | refine ⟨_, rfl, ?_⟩ | refine ⟨(by show (0 : Int) < _; decide), ?_⟩ | refine ⟨⟨by decide, by decide⟩, ?_⟩ | refine ⟨.inr ⟨by decide, by decide⟩, ?_⟩ | refine ⟨.inl ⟨by decide, by decide⟩, ?_⟩ | refine ⟨⟨by decide, by decide, by decide⟩, ?_⟩ | refine ⟨_, _, rfl, rfl, ?_⟩ | refine ⟨rfl, _, rfl, ?_⟩)
    first | refine iteVI (fun e => ?_) (fun e => ?_) | refine iteVN (fun e => ?_) (fun e => ?_) | refine iteD (fun e => ?_) (fun e => ?_) | refine iteDN (fun e => ?_) (fun e => ?_) | refine iteB (fun e => ?_) (fun e => ?_)
    · repeat (first | refine ⟨_, rfl, ?_⟩ | refine ⟨(by show (0 : Int) < _; decide), ?_⟩ | refine ⟨⟨by decide, by decide⟩, ?_⟩ | refine ⟨.inr ⟨by decide, by decide⟩, ?_⟩ | refine ⟨.inl ⟨by decide, by decide⟩, ?_⟩ | refine ⟨⟨by decide, by decide, by decide⟩, ?_⟩ | refine ⟨_, _, rfl, rfl, ?_⟩ | refine ⟨rfl, _, rfl, ?_⟩)
      first | refine iteVI (fun e' => ?_) (fun e' => ?_) | refine iteVN (fun e' => ?_) (fun e' => ?_) | refine iteD (fun e' => ?_) (fun e' => ?_) | refine iteDN (fun e' => ?_) (fun e' => ?_) | refine iteB (fun e' => ?_) (fun e' => ?_)
      · exact q2 fun z => e' z.2
      · exact q1 ⟨e, e'⟩
    · exact ⟨_, rfl, iteT (q2 fun z => e z.1)⟩
def spWithCount (K : PySem.W.Frag) : Sp := fun vs H Q _ => ∃ (a : Addr) (ps : List (Int × Int)) (v n : Int), vs = [.ref a, .int v, .int n] ∧ Till K H a ps ∧ ps.length ≤ 1000 ∧ spNewT H (ps.map fun p => (p.1, if p.1 = v then n else p.2)) Q
theorem ok_with_count (T : Tx K mg) : FnOk P w K mg base CX0 1 T.a__with_count T.d__with_count P__with_count (spWithCount K) := by
  refine T.f__with_count.ok sc__with_count (fun vs H Q E h => ?_) (fun cdv A outer s H vs Q E hr h => ?_)
  · obtain ⟨a, ps, v, n, rfl, _⟩ := h
    rfl
  · obtain ⟨a, ps, v, n, rfl, ⟨xs, hS, hp⟩, hl, q⟩ := h
    refine ⟨_, (pss_one (ps_ret (pe_lc (own := [("held", 3), ("lies", 4)]) (g := gTup K 2 (gCons (gName 3) (gCons (gName 4) gNil))) rfl sc__with_count.nd (pi_list (pv 0)) (blkOk_by (own := [("held", 3), ("lies", 4)]) (N := N__with_count) (sc := defScope s__with_count) (by decide +kernel)) (fun _ _ _ _ _ => pg_tup rfl (pgs_cons (pg_name (i := 3) sc__with_count.nd rfl (.inl rfl) (.inr rfl)) (pgs_cons (pg_name (i := 4) sc__with_count.nd rfl (.inl rfl) (.inr rfl)) pgs_nil))) (fun _ _ _ _ _ => pts_nil) (fun _ _ _ _ _ => (pe_tup (pa_cons (pv 3) (pa_cons (pe_ifExp (pt_cmpR op_eq (pv 3) (pv 1) (nomark _)) (pv 2) (pv 4)) pa_nil))))))), ?_⟩
    refine ⟨_, rfl, a, rfl, ⟨xs, hS⟩, fun D hD => lc_list (xs := xs) (fun i H' => ∃ ys, Ex H H' ∧ H' D = some (.lst ys) ∧ ys.length = i ∧ Prs H' ys ((ps.take i).map fun p => (p.1, if p.1 = v then n else p.2))) ⟨[], Ex.nw hD, upd_same, rfl, .nil⟩ (fun i H' _ h => by
      obtain ⟨_, e, _⟩ := h
      exact e.seq hS) ?_ ?_⟩
    · rintro i x H' hx ⟨ys, ex, eD, hyl, hys⟩
      obtain ⟨p, t, h1, rfl, h3⟩ := Prs.get hp hx
      have hi : i < ps.length := (List.getElem?_eq_some_iff.mp h1).1
      refine ⟨t, _, rfl, .of (ex _ _ h3), rfl, _, _, rfl, _, _, rfl, rfl, rfl, ?_⟩
      refine t_yes ?_
      have fin : ∀ z : Int, z = (if p.1 = v then n else p.2) → ∀ t2, H' t2 = none → ∃ acc, (upd H' t2 (.tup [.int p.1, .int z])) D = some (.lst acc) ∧ acc.length < sizeLine ∧ ∃ zs, Ex H (upd (upd H' t2 (.tup [.int p.1, .int z])) D (.lst (acc ++ [.ref t2]))) ∧ (upd (upd H' t2 (.tup [.int p.1, .int z])) D (.lst (acc ++ [.ref t2]))) D = some (.lst zs) ∧ zs.length = i + 1 ∧ Prs (upd (upd H' t2 (.tup [.int p.1, .int z])) D (.lst (acc ++ [.ref t2]))) zs ((ps.take (i + 1)).map fun p => (p.1, if p.1 = v then n else p.2)) := by
        intro z hz t2 ht2
        have nDt : D ≠ t2 := ne_of_none eD ht2
        have eD' : (upd H' t2 (.tup [.int p.1, .int z])) D = some (.lst ys) := by rw [upd_ne nDt]; exact eD
        refine ⟨ys, eD', len63' (by omega), ys ++ [.ref t2], Ex.mu (ex.tr (Ex.nw ht2)) hD, upd_same, by rw [List.length_append, hyl]; rfl, ?_⟩
        rw [take_snoc h1, List.map_append]
        refine Prs.up (by intro bs y; rw [eD'] at y; cases y) ?_
        exact Prs.snoc (hys.ex (Ex.nw ht2)) ⟨t2, rfl, by rw [upd_same, hz]⟩
      refine ⟨_, rfl, ?_⟩
      refine ⟨_, rfl, _, rfl, rfl, _, rfl, iteVI (fun e => ?_) (fun e => ?_)⟩
      · exact ⟨_, rfl, len63 (by show 2 ≤ _; decide), fun t2 ht2 => fin _ (if_pos e).symm t2 ht2⟩
      · exact ⟨_, rfl, len63 (by show 2 ≤ _; decide), fun t2 ht2 => fin _ (if_neg e).symm t2 ht2⟩
    · rintro H' ⟨ys, ex, eD, hyl, hys⟩
      rw [List.take_of_length_le (by rw [hp.len]; exact Nat.le_refl _)] at hys
      exact q D ys H' ex hD eD hys
def spDeed (K : PySem.W.Frag) (cK cC cF cT cL cH : Addr) (n : Int) : Sp := fun vs H Q E => ∃ (a : Addr) (xs : List V) (ps : List (Int × Int)) (v c : Int), vs = (if n < 2 then [.ref a, .int v, .int c] else [.ref a, .int v]) ∧ H a = some (.lst xs) ∧ Prs H xs ps ∧ Tl ps ∧ OutK cK cC cF cT cL cH ps n v c H Q E
theorem ok_brought (T : Tx K mg) : FnOk P w K mg base (L2.CX P w) 2 T.a_brought T.d_brought P_brought (spDeed K T.c_NoKind T.c_NoCount T.c_TooFew T.c_Twice T.c_NoTill T.c_StillHeld 0) := by
  have G_count_of := ok_count_of (P := P) (w := w) (base := base) T
  have G_check_count := ok_check_count (P := P) (w := w) (base := base) T
  have G__with_count := ok_with_count (P := P) (w := w) (base := base) T
  refine T.f_brought.okX sc_brought (fun vs H Q E h => ?_) (fun cdv A outer s H vs Q E hr h => ?_)
  · obtain ⟨a, xs, ps, v, c, rfl, _⟩ := h
    rfl
  · obtain ⟨a, xs, ps, v, c, rfl, ha, hp, hT, q0, qk, qc, _⟩ := h
    refine ⟨_, (pss_cons (ps_set (i := 3) sc_brought.nd rfl (.inl rfl) (pe_call G_count_of (hr.mono (by decide)) (by rfl) T.g_count_of T.f_count_of.kp T.p_count_of .nil (passes_call (takes_of rfl rfl rfl rfl) fun _ _ _ _ h => h) (pa_cons (pv 0) (pa_cons (pv 1) pa_nil))))
    (pss_cons (ps_expr (pe_call G_check_count (hr.mono (by decide)) (by rfl) T.g_check_count T.f_check_count.kp T.p_check_count .nil (passes_call (takes_of rfl rfl rfl rfl) fun _ _ _ _ h => h) (pa_cons (pv 2) pa_nil)))
    (pss_cons (ps_expr (pe_call G_check_count (hr.mono (by decide)) (by rfl) T.g_check_count T.f_check_count.kp T.p_check_count .nil (passes_call (takes_of rfl rfl rfl rfl) fun _ _ _ _ h => h) (pa_cons (pe_op op_add (pv 3) (pv 2)) pa_nil)))
    (pss_one (ps_ret (pe_call G__with_count (hr.mono (by decide)) (by rfl) T.g__with_count T.f__with_count.kp T.p__with_count .nil pass0 (pa_cons (pv 0) (pa_cons (pv 1) (pa_cons (pe_op op_add (pv 3) (pv 2)) pa_nil))))))))), ?_⟩
    have hTl : Till K H a ps := ⟨xs, .of ha, hp⟩
    unfold dueK at q0 qk qc
    rw [if_pos (by decide)] at q0 qk qc
    refine ⟨_, rfl, _, rfl, a, ps, v, rfl, hTl, fun t ht => ?_, fun hn => ?_⟩
    · have hb := hT.there_nn ht
      rw [there_some ht, if_neg (by omega)] at q0 qk qc
      refine ⟨_, rfl, c, rfl, fun hc => ?_, fun hc => ?_⟩
      · refine ⟨_, rfl, _, rfl, _, _, rfl, rfl, t + c, rfl, fun hc2 => ?_, fun hc2 => ?_⟩
        · rw [if_neg (by omega), if_neg (by omega)] at q0
          refine ⟨_, rfl, _, rfl, _, rfl, _, rfl, _, _, rfl, rfl, a, ps, v, t + c, rfl, hTl, by have := hT.len; omega, fun p ys H2 ex hp2 ep hpr => ?_⟩
          refine q0 rfl p ys _ H2 ex hp2 ep hpr (.inl ⟨rfl, ?_⟩)
          rw [setC_eq hT.nd ht]
          congr 1
          omega
        · rw [if_pos (by omega)] at qc
          exact qc rfl _ Ex.rfl'
      · rw [if_pos (by omega)] at qc
        exact qc rfl _ Ex.rfl'
    · rw [there_none hn, if_pos (by decide)] at qk
      exact qk rfl _ Ex.rfl'
/-! ### pieces fetched, kinds in and out -/
theorem ok_check_value (T : Tx K mg) : FnOk P w K mg base (L2.CX P w) 1 T.a_check_value T.d_check_value P_check_value (spCheck 1 1000 T.c_NoKind) := by
  refine T.f_check_value.okX sc_check_value (fun vs H Q E h => ?_) (fun cdv A outer s H vs Q E hr h => ?_)
  · obtain ⟨v, rfl, _⟩ := h
    rfl
  · obtain ⟨v, rfl, q1, q2⟩ := h
    refine ⟨_, (pss_one (ps_if (pt_not (pt_chain op_le op_le pe_int (pv 0) (pe_glob (v := .int 1000) (by rfl) T.w_MOST_VALUE.choose_spec ⟨_, rfl⟩)))
      (pss_one (ps_raise rfl (takes_of rfl rfl rfl rfl) (pmk_own PySem.F.excBase_ValueError T.x_NoKind T.g_NoKind T.k_NoKind (raises_own T.b_NoKind T.t_NoKind) rfl)))
      pss_nil)), ?_⟩
    repeat (first | refine ⟨_, rfl, ?_⟩ | refine ⟨(by show (0 : Int) < _; decide), ?_⟩ | refine ⟨⟨by decide, by decide⟩, ?_⟩ | refine ⟨.inr ⟨by decide, by decide⟩, ?_⟩ | refine ⟨.inl ⟨by decide, by decide⟩, ?_⟩ | refine ⟨⟨by decide, by decide, by decide⟩, ?_⟩ | refine ⟨_, _, rfl, rfl, ?_⟩ | refine ⟨rfl, _, rfl, ?_⟩)
    first | refine iteVI (fun e => ?_) (fun e => ?_) | refine iteVN (fun e => ?_) (fun e => ?_) | refine iteD (fun e => ?_) (fun e => ?_) | refine iteDN (fun e => ?_) (fun e => ?_) | refine iteB (fun e => ?_) (fun e => ?_)
    · repeat (first | refine ⟨_, rfl, ?_⟩ | refine ⟨(by show (0 : Int) < _; decide), ?_⟩ | refine ⟨⟨by decide, by decide⟩, ?_⟩ | refine ⟨.inr ⟨by decide, by decide⟩, ?_⟩ | refine ⟨.inl ⟨by decide, by decide⟩, ?_⟩ | refine ⟨⟨by decide, by decide, by decide⟩, ?_⟩ | refine ⟨_, _, rfl, rfl, ?_⟩ | refine ⟨rfl, _, rfl, ?_⟩)
      first | refine iteVI (fun e' => ?_) (fun e' => ?_) | refine iteVN (fun e' => ?_) (fun e' => ?_) | refine iteD (fun e' => ?_) (fun e' => ?_) | refine iteDN (fun e' => ?_) (fun e' => ?_) | refine iteB (fun e' => ?_) (fun e' => ?_)
      · exact q2 fun z => e' z.2
      · exact q1 ⟨e, e'⟩
    · exact ⟨_, rfl, iteT (q2 fun z => e z.1)⟩
theorem ok_fetched (T : Tx K mg) : FnOk P w K mg base (L2.CX P w) 2 T.a_fetched T.d_fetched P_fetched (spDeed K T.c_NoKind T.c_NoCount T.c_TooFew T.c_Twice T.c_NoTill T.c_StillHeld 1) := by
  have G_count_of := ok_count_of (P := P) (w := w) (base := base) T
  have G_check_count := ok_check_count (P := P) (w := w) (base := base) T
  have G__with_count := ok_with_count (P := P) (w := w) (base := base) T
  refine T.f_fetched.okX sc_fetched (fun vs H Q E h => ?_) (fun cdv A outer s H vs Q E hr h => ?_)
  · obtain ⟨a, xs, ps, v, c, rfl, _⟩ := h
    rfl
  · obtain ⟨a, xs, ps, v, c, rfl, ha, hp, hT, q0, qk, qc, qf, _⟩ := h
    refine ⟨_, (pss_cons (ps_set (i := 3) sc_fetched.nd rfl (.inl rfl) (pe_call G_count_of (hr.mono (by decide)) (by rfl) T.g_count_of T.f_count_of.kp T.p_count_of .nil (passes_call (takes_of rfl rfl rfl rfl) fun _ _ _ _ h => h) (pa_cons (pv 0) (pa_cons (pv 1) pa_nil))))
    (pss_cons (ps_expr (pe_call G_check_count (hr.mono (by decide)) (by rfl) T.g_check_count T.f_check_count.kp T.p_check_count .nil (passes_call (takes_of rfl rfl rfl rfl) fun _ _ _ _ h => h) (pa_cons (pv 2) pa_nil)))
    (pss_cons (ps_if (pt_cmpR op_gt (pv 2) (pv 3) (nomark _))
      (pss_one (ps_raise rfl (takes_of rfl rfl rfl rfl) (pmk_own PySem.F.excBase_ValueError T.x_TooFew T.g_TooFew T.k_TooFew (raises_own T.b_TooFew T.t_TooFew) rfl)))
      pss_nil)
    (pss_one (ps_ret (pe_call G__with_count (hr.mono (by decide)) (by rfl) T.g__with_count T.f__with_count.kp T.p__with_count .nil pass0 (pa_cons (pv 0) (pa_cons (pv 1) (pa_cons (pe_op op_sub (pv 3) (pv 2)) pa_nil))))))))), ?_⟩
    have hTl : Till K H a ps := ⟨xs, .of ha, hp⟩
    unfold dueK at q0 qk qc qf
    rw [if_pos (by decide)] at q0 qk qc qf
    refine ⟨_, rfl, _, rfl, a, ps, v, rfl, hTl, fun t ht => ?_, fun hn => ?_⟩
    · have hb := hT.there_nn ht
      rw [there_some ht, if_neg (by omega)] at q0 qk qc qf
      refine ⟨_, rfl, c, rfl, fun hc => ?_, fun hc => ?_⟩
      · rw [if_neg (by omega)] at q0 qf
        refine ⟨_, rfl, _, rfl, _, _, rfl, rfl, _, rfl, iteD (fun e => ?_) (fun e => ?_)⟩
        · have e' : c > t := e
          rw [if_pos ⟨rfl, e'⟩] at qf
          exact qf rfl _ Ex.rfl'
        · have e' : ¬ c > t := e
          rw [if_neg (by omega)] at q0
          refine ⟨_, rfl, _, rfl, _, rfl, _, rfl, _, _, rfl, rfl, a, ps, v, t - c, rfl, hTl, by have := hT.len; omega, fun p ys H2 ex hp2 ep hpr => ?_⟩
          refine q0 rfl p ys _ H2 ex hp2 ep hpr (.inr (.inl ⟨rfl, ?_⟩))
          rw [setC_eq hT.nd ht]
          congr 1
          omega
      · rw [if_pos (by omega)] at qc
        exact qc rfl _ Ex.rfl'
    · rw [there_none hn, if_pos (by decide)] at qk
      exact qk rfl _ Ex.rfl'
theorem countIn_all {ps : List (Int × Int)} {v : Int} (h : ∀ p ∈ ps, p.1 ≠ v) : countIn ps v = none := by
  induction ps with
  | nil => rfl
  | cons p ps ih =>
    rw [countIn_cons, if_neg (h p List.mem_cons_self)]
    exact ih fun q hq => h q (List.mem_cons_of_mem _ hq)
theorem nd_more {ps : List (Int × Int)} {v : Int} (hT : Tl ps) (h : countIn ps v = none) : ((ps ++ [(v, 0)]).map fun p : Int × Int => p.1).Nodup := by
  rw [List.map_append]
  refine nd_snoc hT.nd fun hm => ?_
  obtain ⟨p, hp1, hp2⟩ := List.mem_map.mp hm
  have h1 := countIn_nd hT.nd hp1
  rw [show p.1 = v from hp2, h] at h1
  cases h1
/-! ### whether a number stands in a list -/
theorem flat_ints (l : List Int) : (l.map V.int).all flatV = true := by
  rw [List.all_eq_true]
  intro x hx
  obtain ⟨i, _, rfl⟩ := List.mem_map.mp hx
  rfl
theorem inV_int (z : Int) (l : List Int) : inV (.int z) (l.map V.int) = decide (z ∈ l) := by
  induction l with
  | nil => rfl
  | cons a l ih =>
    unfold inV at ih ⊢
    rw [List.map_cons, List.any_cons, ih]
    have h : eqV (.int a) (.int z) = decide (z = a) := by
      show (a == z) = decide (z = a)
      by_cases e : z = a
      · rw [e]
        simp
      · rw [decide_eq_false e]
        simpa using fun h => e (Eq.symm h)
    rw [h]
    by_cases e : z = a
    · simp [e]
    · simp [e]
theorem fst_ints (ps : List (Int × Int)) : (ps.map fun p => V.int p.1) = (ps.map fun p : Int × Int => p.1).map V.int := by
  rw [List.map_map]
  rfl
theorem ok_kind_in (T : Tx K mg) : FnOk P w K mg base (L2.CX P w) 2 T.a_kind_in T.d_kind_in P_kind_in (spDeed K T.c_NoKind T.c_NoCount T.c_TooFew T.c_Twice T.c_NoTill T.c_StillHeld 2) := by
  have G_check_value := ok_check_value (P := P) (w := w) (base := base) T
  refine T.f_kind_in.okX sc_kind_in (fun vs H Q E h => ?_) (fun cdv A outer s H vs Q E hr h => ?_)
  · obtain ⟨a, xs, ps, v, c, rfl, _⟩ := h
    rfl
  · obtain ⟨a, xs, ps, v, c, rfl, ha, hp, hT, q0, qk, qc, qf, qt, ql, _⟩ := h
    refine ⟨_, (pss_cons (ps_expr (pe_call G_check_value (hr.mono (by decide)) (by rfl) T.g_check_value T.f_check_value.kp T.p_check_value .nil (passes_call (takes_of rfl rfl rfl rfl) fun _ _ _ _ h => h) (pa_cons (pv 1) pa_nil)))
    (pss_cons (ps_if (pt_cmpR op_in_seq (pv 1) (pe_lc (own := [("held", 2), ("_", 3)]) (g := gTup K 2 (gCons (gName 2) (gCons (gName 3) gNil))) rfl sc_kind_in.nd (pi_list (pv 0)) (blkOk_by (own := [("held", 2), ("_", 3)]) (N := N_kind_in) (sc := defScope s_kind_in) (by decide +kernel)) (fun _ _ _ _ _ => pg_tup rfl (pgs_cons (pg_name (i := 2) sc_kind_in.nd rfl (.inl rfl) (.inr rfl)) (pgs_cons (pg_name (i := 3) sc_kind_in.nd rfl (.inl rfl) (.inr rfl)) pgs_nil))) (fun _ _ _ _ _ => pts_nil) (fun _ _ _ _ _ => (pv 2))) (by rfl))
      (pss_one (ps_raise rfl (takes_of rfl rfl rfl rfl) (pmk_own PySem.F.excBase_ValueError T.x_Twice T.g_Twice T.k_Twice (raises_own T.b_Twice T.t_Twice) rfl)))
      pss_nil)
    (pss_cons (ps_if (pt_cmpR op_ge (pe_callB call_len_seq (by rfl) T.m_len (by decide +kernel) (pa_cons (pv 0) pa_nil)) (pe_glob (v := .int 10) (by rfl) T.w_MOST_KINDS.choose_spec ⟨_, rfl⟩) (nomark _))
      (pss_one (ps_raise rfl (takes_of rfl rfl rfl rfl) (pmk_own PySem.F.excBase_ValueError T.x_NoTill T.g_NoTill T.k_NoTill (raises_own T.b_NoTill T.t_NoTill) rfl)))
      pss_nil)
    (pss_one (ps_ret (pe_callB cr_sortedPO (by rfl) T.m_sorted (by decide +kernel) (pa_cons (pe_op op_cat (pv 0) (pe_lst (pa_cons (pe_tup (pa_cons (pv 1) (pa_cons pe_int pa_nil))) pa_nil))) pa_nil))))))), ?_⟩
    have hpl := hp.len
    unfold dueK at q0 qk qt ql
    rw [if_neg (by decide), if_pos rfl] at q0 qk qt ql
    refine ⟨_, rfl, v, rfl, fun hv => ?_, fun hv => ?_⟩
    · rw [if_neg (by omega)] at q0 qt ql
      refine ⟨_, rfl, _, rfl, a, rfl, ⟨xs, .of ha⟩, fun D hD => lc_list (xs := xs) (fun i H' => Ex H H' ∧ H' D = some (.lst ((ps.take i).map fun p => V.int p.1))) ⟨Ex.nw hD, upd_same⟩ (fun i H' _ h => .of (h.1 _ _ ha)) ?_ ?_⟩
      · rintro i x H' hx ⟨ex, eD⟩
        obtain ⟨p, t, h1, rfl, h3⟩ := Prs.get hp hx
        refine ⟨t, _, rfl, .of (ex _ _ h3), rfl, _, _, rfl, _, _, rfl, rfl, rfl, t_yes ?_⟩
        refine ⟨_, rfl, _, eD, len63' (by rw [List.length_map, List.length_take]; have := hT.len; omega), Ex.mu ex hD, ?_⟩
        rw [upd_same, take_succ_map _ h1]
      · rintro H' ⟨ex, eD⟩
        rw [List.take_of_length_le (by omega), fst_ints] at eD
        refine ⟨D, _, rfl, .inl (.of eD), rfl, flat_ints _, _, rfl, ?_⟩
        rw [show (if false = true then !inV (.int v) ((ps.map fun p : Int × Int => p.1).map V.int) else inV (.int v) ((ps.map fun p : Int × Int => p.1).map V.int)) = decide (v ∈ ps.map fun p : Int × Int => p.1) by rw [if_neg (by decide), inV_int]]
        refine iteD (fun hin => ?_) (fun hno => ?_)
        · obtain ⟨p, hp1, hp2⟩ := List.mem_map.mp hin
          have h5 := countIn_nd hT.nd hp1
          rw [show p.1 = v from hp2] at h5
          rw [there_some h5, if_pos (hT.cnt p hp1).1] at qt
          exact qt rfl _ ex
        have hcn := countIn_all fun p hp z => hno (List.mem_map.mpr ⟨p, hp, z⟩)
        rw [there_none hcn, if_neg (by decide)] at q0 ql
        have ha' := ex _ _ ha
        refine ⟨_, rfl, a, xs, rfl, .inl (.of ha'), _, _, rfl, rfl, _, rfl, iteD (fun e => ?_) (fun e => ?_)⟩
        · have e' : (xs.length : Int) ≥ 10 := e
          have := hT.len
          rw [if_pos (by omega)] at ql
          exact ql rfl _ ex
        · have e' : ¬ (xs.length : Int) ≥ 10 := e
          rw [if_neg (by omega)] at q0
          refine ⟨_, rfl, _, rfl, len63 (by show 2 ≤ _; decide), fun t1 ht1 => ?_⟩
          (generalize hh : upd H' t1 _ = H1; have e1 : Ex H' H1 := (by rw [← hh]; exact Ex.nw ht1); have c1 := (show H1 t1 = some _ by rw [← hh]; exact upd_same); clear hh)
          refine ⟨len63 (by show 1 ≤ _; decide), fun l1 hl1 => ?_⟩
          (generalize hh : upd H1 l1 _ = H2; have e2 : Ex H1 H2 := (by rw [← hh]; exact Ex.nw hl1); have c2 := (show H2 l1 = some _ by rw [← hh]; exact upd_same); clear hh)
          refine ⟨a, l1, _, _, rfl, rfl, e2 _ _ (e1 _ _ ha'), c2, len63 (by show xs.length + 1 ≤ _; have := hT.len; omega), fun l2 hl2 => ?_⟩
          (generalize hh : upd H2 l2 _ = H3; have e3 : Ex H2 H3 := (by rw [← hh]; exact Ex.nw hl2); have c3 := (show H3 l2 = some _ by rw [← hh]; exact upd_same); clear hh)
          have ex3 := ((ex.tr e1).tr e2).tr e3
          have hps : Prs H3 (xs ++ [.ref t1]) (ps ++ [(v, 0)]) := Prs.snoc (hp.ex ex3) ⟨t1, rfl, e3 _ _ (e2 _ _ c1)⟩
          refine ⟨l2, _, pairAt H3, rfl, .of c3, hps.all, fun ys t z1 z2 ht => ?_⟩
          obtain ⟨qs, hq, hpm, hris⟩ := sorted_prs hps (nd_more hT hcn) z1 z2
          exact q0 rfl t ys qs _ (ex3.tr (Ex.nw ht)) (none_back ex3 ht) upd_same (hq.ex (Ex.nw ht)) (.inr (.inr (.inl ⟨rfl, hris, hpm⟩)))
    · rw [if_pos (by omega)] at qk
      exact qk rfl _ Ex.rfl'
theorem ok_kind_out (T : Tx K mg) : FnOk P w K mg base (L2.CX P w) 2 T.a_kind_out T.d_kind_out P_kind_out (spDeed K T.c_NoKind T.c_NoCount T.c_TooFew T.c_Twice T.c_NoTill T.c_StillHeld 3) := by
  have G_count_of := ok_count_of (P := P) (w := w) (base := base) T
  refine T.f_kind_out.okX sc_kind_out (fun vs H Q E h => ?_) (fun cdv A outer s H vs Q E hr h => ?_)
  · obtain ⟨a, xs, ps, v, c, rfl, _⟩ := h
    rfl
  · obtain ⟨a, xs, ps, v, c, rfl, ha, hp, hT, q0, qk, qc, qf, qt, ql, qh⟩ := h
    refine ⟨_, (pss_cons (ps_if (pt_cmpR op_gt (pe_call G_count_of (hr.mono (by decide)) (by rfl) T.g_count_of T.f_count_of.kp T.p_count_of .nil (passes_call (takes_of rfl rfl rfl rfl) fun _ _ _ _ h => h) (pa_cons (pv 0) (pa_cons (pv 1) pa_nil))) pe_int (nomark _))
      (pss_one (ps_raise rfl (takes_of rfl rfl rfl rfl) (pmk_own PySem.F.excBase_ValueError T.x_StillHeld T.g_StillHeld T.k_StillHeld (raises_own T.b_StillHeld T.t_StillHeld) rfl)))
      pss_nil)
    (pss_cons (ps_if (pt_cmpR op_eq (pe_callB call_len_seq (by rfl) T.m_len (by decide +kernel) (pa_cons (pv 0) pa_nil)) pe_int (nomark _))
      (pss_one (ps_raise rfl (takes_of rfl rfl rfl rfl) (pmk_own PySem.F.excBase_ValueError T.x_NoTill T.g_NoTill T.k_NoTill (raises_own T.b_NoTill T.t_NoTill) rfl)))
      pss_nil)
    (pss_one (ps_ret (pe_lc (own := [("held", 2), ("count", 3)]) (g := gTup K 2 (gCons (gName 2) (gCons (gName 3) gNil))) rfl sc_kind_out.nd (pi_list (pv 0)) (blkOk_by (own := [("held", 2), ("count", 3)]) (N := N_kind_out) (sc := defScope s_kind_out) (by decide +kernel)) (fun _ _ _ _ _ => pg_tup rfl (pgs_cons (pg_name (i := 2) sc_kind_out.nd rfl (.inl rfl) (.inr rfl)) (pgs_cons (pg_name (i := 3) sc_kind_out.nd rfl (.inl rfl) (.inr rfl)) pgs_nil))) (fun _ _ _ _ _ => (pts_one (pt_cmpR op_ne (pv 2) (pv 1) (nomark _)))) (fun _ _ _ _ _ => (pe_tup (pa_cons (pv 2) (pa_cons (pv 3) pa_nil))))))))), ?_⟩
    have hpl := hp.len
    have hl10 := hT.len
    unfold dueK at q0 qk ql qh
    rw [if_neg (by decide), if_neg (by decide)] at q0 qk ql qh
    refine ⟨_, rfl, _, rfl, a, ps, v, rfl, ⟨xs, .of ha, hp⟩, fun t ht => ?_, fun hn => ?_⟩
    · have hb := hT.there_nn ht
      rw [there_some ht, if_neg (by omega)] at q0 ql qh
      refine ⟨_, _, rfl, rfl, _, rfl, iteD (fun e => ?_) (fun e => ?_)⟩
      · have e' : t > 0 := e
        rw [if_pos e'] at qh
        exact qh rfl _ Ex.rfl'
      have e' : ¬ t > 0 := e
      rw [if_neg e'] at q0 ql
      refine ⟨_, rfl, a, xs, rfl, .inl (.of ha), rfl, _, rfl, iteVI (fun e2 => ?_) (fun e2 => ?_)⟩
      · rw [if_pos (by omega)] at ql
        exact ql rfl _ Ex.rfl'
      rw [if_neg (by omega)] at q0
      refine ⟨_, rfl, a, rfl, ⟨xs, .of ha⟩, fun D hD => lc_list (xs := xs) (fun i H' => ∃ ys, Ex H H' ∧ H' D = some (.lst ys) ∧ ys.length ≤ i ∧ Prs H' ys ((ps.take i).filter fun p : Int × Int => decide (p.1 ≠ v))) ⟨[], Ex.nw hD, upd_same, Nat.le_refl _, .nil⟩ (fun i H' _ h => by
        obtain ⟨_, e, _⟩ := h
        exact .of (e _ _ ha)) ?_ ?_⟩
      · rintro i x H' hx ⟨ys, ex, eD, hyl, hys⟩
        obtain ⟨p, t, h1, rfl, h3⟩ := Prs.get hp hx
        have hi : i < ps.length := (List.getElem?_eq_some_iff.mp h1).1
        refine ⟨t, _, rfl, .of (ex _ _ h3), rfl, _, _, rfl, _, _, rfl, rfl, rfl, ?_⟩
        refine ⟨_, rfl, _, rfl, rfl, _, rfl, iteVN (fun ne => ?_) (fun eq => ?_)⟩
        · refine ⟨_, rfl, _, rfl, len63 (by show 2 ≤ _; decide), fun t2 ht2 => ?_⟩
          have nDt : D ≠ t2 := ne_of_none eD ht2
          have eD' : (upd H' t2 (.tup [.int p.1, .int p.2])) D = some (.lst ys) := by rw [upd_ne nDt]; exact eD
          refine ⟨ys, eD', len63' (by omega), ys ++ [.ref t2], Ex.mu (ex.tr (Ex.nw ht2)) hD, upd_same, by rw [List.length_append]; show _ + 1 ≤ _; omega, ?_⟩
          rw [take_snoc h1, List.filter_append, show List.filter (fun p : Int × Int => decide (p.1 ≠ v)) [p] = [p] from List.filter_cons_of_pos (by simp [ne])]
          refine Prs.up (by intro bs y; rw [eD'] at y; cases y) ?_
          exact Prs.snoc (hys.ex (Ex.nw ht2)) ⟨t2, rfl, upd_same⟩
        · refine ⟨ys, ex, eD, by omega, ?_⟩
          rw [take_snoc h1, List.filter_append, show List.filter (fun p : Int × Int => decide (p.1 ≠ v)) [p] = [] from List.filter_cons_of_neg (by simp [eq]), List.append_nil]
          exact hys
      · rintro H' ⟨ys, ex, eD, hyl, hys⟩
        rw [List.take_of_length_le (by rw [hpl]; exact Nat.le_refl _)] at hys
        exact q0 rfl D ys _ H' ex hD eD hys (.inr (.inr (.inr ⟨rfl, rfl⟩)))
    · rw [there_none hn, if_pos (by decide)] at qk
      exact qk rfl _ Ex.rfl'
/-! ### a dict of pairs -/
def dkP (us : List (Int × Int)) : List (Key × V) := us.map fun p => (Sum.inl p.1, V.int p.2)
theorem prs_dk {K : PySem.W.Frag} {H : Hp} : ∀ {xs : List V} {ps : List (Int × Int)}, Prs H xs ps → ∃ as : List Addr, xs = as.map V.ref ∧ Paired (fun p (kv : Key × V) => SqT K H p [kV kv.1, kv.2]) as (dkP ps)
  | _, _, .nil => ⟨[], rfl, .nil⟩
  | _, _, .cons (b := p) ⟨t, h1, h2⟩ r => by
    obtain ⟨as, e, q⟩ := prs_dk (K := K) r
    exact ⟨t :: as, by rw [h1, e]; rfl, .cons (.of h2) q⟩
theorem countIn_none {ps : List (Int × Int)} {v : Int} (h : ∀ p ∈ ps, p.1 ≠ v) : countIn ps v = none := by
  induction ps with
  | nil => rfl
  | cons p ps ih =>
    rw [countIn_cons, if_neg (h p List.mem_cons_self)]
    exact ih fun q hq => h q (List.mem_cons_of_mem _ hq)
theorem valV_merge {v : Int} : ∀ {us : List (Int × Int)} {kvs : List (Key × V)}, (us.map (·.1)).Nodup → valV (mergeK kvs (dkP us)) (Sum.inl v) = (match countIn us v with
  | some c => some (V.int c)
  | none => valV kvs (Sum.inl v))
  | [], kvs, _ => rfl
  | p :: us, kvs, nd => by
    rw [List.map_cons, List.nodup_cons] at nd
    have ih := valV_merge (v := v) (us := us) (kvs := putK kvs (Sum.inl p.1) (V.int p.2)) nd.2
    show valV (mergeK (putK kvs (Sum.inl p.1) (V.int p.2)) (dkP us)) (Sum.inl v) = _
    rw [ih, countIn_cons, valV_put]
    by_cases e : p.1 = v
    · rw [if_pos e, if_pos (by rw [e])]
      rw [countIn_none fun q hq z => nd.1 (by rw [e, ← z]; exact List.mem_map.mpr ⟨q, hq, rfl⟩)]
    · rw [if_neg e, if_neg (fun z => e (Sum.inl.inj z).symm)]
theorem dict_val {us : List (Int × Int)} (nd : (us.map (·.1)).Nodup) (v : Int) : valV (mergeK [] (dkP us)) (Sum.inl v) = (countIn us v).map V.int := by
  rw [valV_merge nd]
  cases countIn us v <;> rfl
theorem countIn_some {ps : List (Int × Int)} {v : Int} (h : v ∈ ps.map fun p : Int × Int => p.1) : ∃ c, countIn ps v = some c := by
  cases e : countIn ps v with
  | some c => exact ⟨c, rfl⟩
  | none =>
    exfalso
    obtain ⟨p, hp, rfl⟩ := List.mem_map.mp h
    induction ps with
    | nil => cases hp
    | cons q ps ih =>
      rw [countIn_cons] at e
      by_cases z : q.1 = p.1
      · rw [if_pos z] at e
        cases e
      · rw [if_neg z] at e
        rcases List.mem_cons.mp hp with y | y
        · exact z (by rw [y])
        · exact ih y (List.mem_map.mpr ⟨p, y, rfl⟩) e
def ownOf (us : List (Int × Int)) (v : Int) : Int := (countIn us v).getD 0
theorem ownOf_cons (u : Int × Int) (us : List (Int × Int)) (v : Int) : ownOf (u :: us) v = if u.1 = v then u.2 else ownOf us v := by
  unfold ownOf
  rw [countIn_cons]
  split <;> rfl
/-- a pair of new lists, in a new tuple -/
def NewDeal (H : Hp) (pa ga : List (Int × Int)) (Q : VK) : Prop := ∀ l a b xs ys H2, Ex H H2 → H l = none → H a = none → H b = none → l ≠ a → l ≠ b → a ≠ b → H2 l = some (.tup [.ref a, .ref b]) → H2 a = some (.lst xs) → H2 b = some (.lst ys) → Prs H2 xs pa → Prs H2 ys ga → Q (.ref l) H2
/-! ### what is paid, by itself -/
def fullP (ps : List (Int × Int)) (vals : List Int) : List (Int × Int) := ps.map fun p => (p.1, p.2 + (vals.count p.1 : Int))
theorem fullP_nil (ps : List (Int × Int)) : fullP ps [] = ps := by
  unfold fullP
  refine (List.map_congr_left fun p _ => ?_).trans (List.map_id ps)
  show (p.1, p.2 + ((List.count p.1 [] : Nat) : Int)) = p
  rw [List.count_nil]
  simp
theorem fullP_len (ps : List (Int × Int)) (vals : List Int) : (fullP ps vals).length = ps.length := List.length_map _
theorem fullP_snoc (ps : List (Int × Int)) (vals : List Int) (v : Int) : fullP ps (vals ++ [v]) = addC (fullP ps vals) v 1 := by
  unfold fullP addC
  rw [List.map_map]
  refine List.map_congr_left fun p _ => ?_
  show (p.1, p.2 + ((List.count p.1 (vals ++ [v]) : Nat) : Int)) = if p.1 = v then (p.1, p.2 + ((List.count p.1 vals : Nat) : Int) + 1) else (p.1, p.2 + ((List.count p.1 vals : Nat) : Int))
  rw [List.count_append]
  by_cases e : p.1 = v
  · rw [if_pos e, e, List.count_singleton_self]
    congr 1
    omega
  · rw [if_neg e, List.count_eq_zero.mpr (fun z => e (List.mem_singleton.mp z))]
    rfl
theorem countIn_full (ps : List (Int × Int)) (vals : List Int) (v : Int) : countIn (fullP ps vals) v = (countIn ps v).map fun t => t + (vals.count v : Int) := by
  induction ps with
  | nil => rfl
  | cons p ps ih =>
    show countIn ((p.1, p.2 + (vals.count p.1 : Int)) :: fullP ps vals) v = _
    rw [countIn_cons, countIn_cons, ih]
    by_cases e : p.1 = v
    · rw [if_pos e, if_pos e, ← e]
      rfl
    · rw [if_neg e, if_neg e]
def pieceDue (ps : List (Int × Int)) (pre : List Int) (v : Int) : Str := match countIn (fullP ps pre) v with
  | none => "kind"
  | some t => if t = 1000000000 then "count" else ""
theorem pieceDue_in (ps : List (Int × Int)) (pre : List Int) (v : Int) : pieceDue ps pre v = "kind" ∨ pieceDue ps pre v = "count" ∨ pieceDue ps pre v = "" := by
  unfold pieceDue
  cases countIn (fullP ps pre) v with
  | none => exact .inl rfl
  | some t =>
    show (if t = 1000000000 then ("count" : Str) else "") = _ ∨ (if t = 1000000000 then ("count" : Str) else "") = _ ∨ (if t = 1000000000 then ("count" : Str) else "") = _
    split
    · exact .inr (.inl rfl)
    · exact .inr (.inr rfl)
def walkDue (ps : List (Int × Int)) : List Int → List Int → Str
  | _, [] => ""
  | pre, v :: r => if pieceDue ps pre v = "" then walkDue ps (pre ++ [v]) r else pieceDue ps pre v
theorem walkDue_cons (ps : List (Int × Int)) (pre : List Int) (v : Int) (r : List Int) : walkDue ps pre (v :: r) = if pieceDue ps pre v = "" then walkDue ps (pre ++ [v]) r else pieceDue ps pre v := rfl
theorem walkDue_in (ps : List (Int × Int)) : ∀ (r pre : List Int), walkDue ps pre r = "kind" ∨ walkDue ps pre r = "count" ∨ walkDue ps pre r = ""
  | [], _ => .inr (.inr rfl)
  | v :: r, pre => by
    unfold walkDue
    split
    · exact walkDue_in ps r _
    · exact pieceDue_in ps pre v
/-- the refusal that is due ahead of the change -/
def dueP (ps : List (Int × Int)) (c : Int) (vals : List Int) : Str :=
  if 0 ≤ c ∧ c ≤ 1000 then (if 60 < vals.length then "count" else if walkDue ps [] vals = "" then (if vals.sum < c then "little" else if vals.sum - c > 1000 then "sum" else "") else walkDue ps [] vals) else "sum"
theorem dueP_walk {ps : List (Int × Int)} {c : Int} {vals : List Int} (hc : 0 ≤ c ∧ c ≤ 1000) (hl : ¬ 60 < vals.length) {s : Str} (h : walkDue ps [] vals = s) (hs : s ≠ "") : dueP ps c vals = s := by
  unfold dueP
  rw [if_pos hc, if_neg hl, if_neg (by rw [h]; exact hs), h]
theorem dueP_end {ps : List (Int × Int)} {c : Int} {vals : List Int} (hc : 0 ≤ c ∧ c ≤ 1000) (hl : ¬ 60 < vals.length) (h : walkDue ps [] vals = "") : dueP ps c vals = if vals.sum < c then ("little" : Str) else if vals.sum - c > 1000 then "sum" else "" := by
  unfold dueP
  rw [if_pos hc, if_neg hl, if_pos h]
theorem dueP_in (ps : List (Int × Int)) (c : Int) (vals : List Int) : dueP ps c vals = "sum" ∨ dueP ps c vals = "count" ∨ dueP ps c vals = "kind" ∨ dueP ps c vals = "little" ∨ dueP ps c vals = "" := by
  unfold dueP
  split
  · split
    · exact .inr (.inl rfl)
    · split
      · split
        · exact .inr (.inr (.inr (.inl rfl)))
        · split
          · exact .inl rfl
          · exact .inr (.inr (.inr (.inr rfl)))
      · rcases walkDue_in ps vals [] with e | e | e <;> rw [e]
        · exact .inr (.inr (.inl rfl))
        · exact .inr (.inl rfl)
        · exact .inr (.inr (.inr (.inr rfl)))
  · exact .inl rfl
theorem dueP_ok {ps : List (Int × Int)} {c : Int} {vals : List Int} (h : dueP ps c vals = "") : (0 ≤ c ∧ c ≤ 1000) ∧ vals.length ≤ 60 ∧ walkDue ps [] vals = "" ∧ 0 ≤ vals.sum - c ∧ vals.sum - c ≤ 1000 := by
  unfold dueP at h
  split at h
  · next hc =>
    split at h
    · cases h
    · split at h
      · next hw =>
        split at h
        · cases h
        · split at h
          · cases h
          · exact ⟨hc, by omega, hw, by omega, by omega⟩
      · next hw => exact absurd h hw
  · cases h
theorem addC_tl {ps : List (Int × Int)} {v : Int} (h : Tl ps) (hc : ∀ t, countIn ps v = some t → t < 1000000000) : Tl (addC ps v 1) := by
  have hm : ∀ p ∈ addC ps v 1, ∃ q ∈ ps, p.1 = q.1 ∧ (p.2 = q.2 ∨ (q.1 = v ∧ p.2 = q.2 + 1)) := fun p hp => by
    obtain ⟨q, hq, rfl⟩ := List.mem_map.mp hp
    refine ⟨q, hq, ?_⟩
    by_cases e : q.1 = v
    · rw [if_pos e]
      exact ⟨rfl, .inr ⟨e, rfl⟩⟩
    · rw [if_neg e]
      exact ⟨rfl, .inl rfl⟩
  refine ⟨?_, fun p hp => ?_, fun p hp => ?_, ?_⟩
  · have h1 := h.ris
    unfold Rising at h1 ⊢
    unfold addC
    rw [List.pairwise_map]
    refine h1.imp fun {a b} hab => ?_
    have e1 : (if a.1 = v then (a.1, a.2 + 1) else a).1 = a.1 := by split <;> rfl
    have e2 : (if b.1 = v then (b.1, b.2 + 1) else b).1 = b.1 := by split <;> rfl
    rw [e1, e2]
    exact hab
  · obtain ⟨q, hq, e, _⟩ := hm p hp
    rw [e]
    exact h.val q hq
  · obtain ⟨q, hq, e, e2⟩ := hm p hp
    have h1 := h.cnt q hq
    rcases e2 with e2 | ⟨e2, e3⟩
    · omega
    · have h2 := countIn_nd h.nd hq
      rw [e2] at h2
      have := hc _ h2
      omega
  · unfold addC
    rw [List.length_map]
    exact h.len
theorem pieceDue_eq {ps : List (Int × Int)} {pre : List Int} (h : Tl (fullP ps pre)) (v : Int) : dueK (fullP ps pre) 0 v 1 = pieceDue ps pre v := by
  unfold dueK pieceDue
  rw [if_pos (by decide)]
  cases e : countIn (fullP ps pre) v with
  | none =>
    rw [there_none e, if_pos (by decide)]
  | some t =>
    have hb := h.there_nn e
    rw [there_some e, if_neg (by omega)]
    show _ = if t = 1000000000 then ("count" : Str) else ""
    by_cases e2 : t = 1000000000
    · rw [if_pos (by omega), if_pos e2]
    · rw [if_neg (by omega), if_neg (fun z => absurd z.1 (by decide)), if_neg e2]
theorem pieceDue_tl {ps : List (Int × Int)} {pre : List Int} (h : Tl (fullP ps pre)) {v : Int} (hd : pieceDue ps pre v = "") : Tl (fullP ps (pre ++ [v])) := by
  rw [fullP_snoc]
  refine addC_tl h fun t ht => ?_
  unfold pieceDue at hd
  rw [ht] at hd
  have hb := h.there_nn ht
  change (if t = 1000000000 then ("count" : Str) else "") = "" at hd
  split at hd
  · cases hd
  · omega
theorem walk_tl {ps : List (Int × Int)} : ∀ {r pre : List Int}, Tl (fullP ps pre) → walkDue ps pre r = "" → Tl (fullP ps (pre ++ r))
  | [], pre, h, _ => by rw [List.append_nil]; exact h
  | v :: r, pre, h, hw => by
    unfold walkDue at hw
    split at hw
    · next hd =>
      have := walk_tl (r := r) (pieceDue_tl h hd) hw
      rw [List.append_assoc] at this
      exact this
    · next hd => exact absurd hw hd
/-- what the table tells of it, the change, the till behind -/
def sumP (c : Int) (vals : List Int) : Nat := (vals.sum - c).toNat
def cellP (ps : List (Int × Int)) (c : Int) (vals : List Int) : Cell := rAt (lastRow (row0 (sumP c vals)) (fullP ps vals)) (sumP c vals)
def gsP (ps : List (Int × Int)) (c : Int) (vals : List Int) : List (Int × Int) := given (row0 (sumP c vals)) (fullP ps vals) (fullP ps vals).length (sumP c vals)
def behP (ps : List (Int × Int)) (c : Int) (vals : List Int) : List (Int × Int) := (fullP ps vals).map fun p => (p.1, p.2 - ownOf (gsP ps c vals) p.1)
theorem gsP_ok {ps : List (Int × Int)} {c : Int} {vals : List Int} (hT : Tl ps) (hd : dueP ps c vals = "") {m : Int} (hm : cellP ps c vals = some m) :
    worthP (gsP ps c vals) = (sumP c vals : Int) ∧ manyP (gsP ps c vals) = m ∧ (∀ q ∈ gsP ps c vals, 1 ≤ q.1 ∧ q.1 ≤ 1000 ∧ 1 ≤ q.2 ∧ ∃ t, (q.1, t) ∈ fullP ps vals ∧ q.2 ≤ t) ∧ Rising (gsP ps c vals) ∧ (gsP ps c vals).length ≤ 10 := by
  obtain ⟨_, _, hw, _, _⟩ := dueP_ok hd
  have ht := walk_tl (r := vals) (pre := []) (by rw [fullP_nil]; exact hT) hw
  rw [List.nil_append] at ht
  obtain ⟨h1, h2, h3, h4, h5⟩ := given_ok (ps := fullP ps vals) (n := sumP c vals) (fun p hp => (ht.val p hp).1) (Nat.le_refl (fullP ps vals).length) (Nat.lt_succ_self (sumP c vals)) (m := m) (by rw [List.take_length]; exact hm)
  refine ⟨h1, h2, fun q hq => ?_, h4 ht.ris, Nat.le_trans h5 ht.len.2⟩
  obtain ⟨a, t, b, b'⟩ := h3 q hq
  rw [List.take_length] at b
  have := ht.val _ b
  exact ⟨this.1, this.2, a, t, b, b'⟩
/-! ### a price, paid -/
def OutP (cS cC cK cL cN : Addr) (ps : List (Int × Int)) (c : Int) (vals : List Int) (H : Hp) (Q : VK) (E : XK) : Prop :=
  (dueP ps c vals = "sum" → ∀ H2, Ex H H2 → E (.ref cS) none H2) ∧ (dueP ps c vals = "count" → ∀ H2, Ex H H2 → E (.ref cC) none H2) ∧ (dueP ps c vals = "kind" → ∀ H2, Ex H H2 → E (.ref cK) none H2) ∧ (dueP ps c vals = "little" → ∀ H2, Ex H H2 → E (.ref cL) none H2) ∧
  (dueP ps c vals = "" → cellP ps c vals = none → ∀ H2, Ex H H2 → E (.ref cN) none H2) ∧ (dueP ps c vals = "" → cellP ps c vals ≠ none → NewDeal H (behP ps c vals) (gsP ps c vals) Q)
def spPaid (K : PySem.W.Frag) (cS cC cK cL cN : Addr) : Sp := fun vs H Q E => ∃ (t u : Addr) (xs : List V) (ps : List (Int × Int)) (c : Int) (vals : List Int), vs = [.ref t, .int c, .ref u] ∧ H t = some (.lst xs) ∧ Prs H xs ps ∧ Tl ps ∧ SqL K H u (vals.map V.int) ∧ OutP cS cC cK cL cN ps c vals H Q E
theorem ok_paid (T : Tx K mg) : FnOk P w K mg base (L2.CX P w) 5 T.a_paid T.d_paid P_paid (spPaid K T.c_NoSum T.c_NoCount T.c_NoKind T.c_TooLittle T.c_NoChange) := by
  have G_check_sum := ok_check_sum (P := P) (w := w) (base := base) T
  have G_brought := ok_brought (P := P) (w := w) (base := base) T
  have G_fewest := ok_fewest (P := P) (w := w) (base := base) T
  refine T.f_paid.okX sc_paid (fun vs H Q E h => ?_) (fun cdv A outer s H vs Q E hr h => ?_)
  · obtain ⟨t, u, xs, ps, c, vals, rfl, _⟩ := h
    rfl
  · obtain ⟨t, u, xs, ps, c, vals, rfl, ht, hp, hT, hS, qs, qc, qk, ql, qn, q⟩ := h
    refine ⟨_, (pss_cons (ps_expr (pe_call G_check_sum (hr.mono (by decide)) (by rfl) T.g_check_sum T.f_check_sum.kp T.p_check_sum .nil (passes_call (takes_of rfl rfl rfl rfl) fun _ _ _ _ h => h) (pa_cons (pv 1) pa_nil)))
    (pss_cons (ps_if (pt_cmpR op_gt (pe_callB call_len_seq (by rfl) T.m_len (by decide +kernel) (pa_cons (pv 2) pa_nil)) (pe_glob (v := .int 60) (by rfl) T.w_MOST_PAID.choose_spec ⟨_, rfl⟩) (nomark _))
      (pss_one (ps_raise rfl (takes_of rfl rfl rfl rfl) (pmk_own PySem.F.excBase_ValueError T.x_NoCount T.g_NoCount T.k_NoCount (raises_own T.b_NoCount T.t_NoCount) rfl)))
      pss_nil)
    (pss_cons (ps_set (i := 3) sc_paid.nd rfl (.inl rfl) (pv 0))
    (pss_cons (ps_for (passes_of rfl) rfl (pi_list (pv 2)) (pg_name (i := 4) sc_paid.nd rfl (.inl rfl))
      (pss_one (ps_set (i := 3) sc_paid.nd rfl (.inl rfl) (pe_call G_brought (hr.mono (by decide)) (by rfl) T.g_brought T.f_brought.kp T.p_brought .nil (passes_call (takes_of rfl rfl rfl rfl) fun _ _ _ _ h => h) (pa_cons (pv 3) (pa_cons (pv 4) (pa_cons pe_int pa_nil)))))))
    (pss_cons (ps_set (i := 5) sc_paid.nd rfl (.inl rfl) (pe_op op_sub (pe_callB (cr_sum rfl) (by rfl) T.m_sum (by decide +kernel) (pa_cons (pv 2) pa_nil)) (pv 1)))
    (pss_cons (ps_if (pt_cmpR op_lt (pv 5) pe_int (nomark _))
      (pss_one (ps_raise rfl (takes_of rfl rfl rfl rfl) (pmk_own PySem.F.excBase_ValueError T.x_TooLittle T.g_TooLittle T.k_TooLittle (raises_own T.b_TooLittle T.t_TooLittle) rfl)))
      pss_nil)
    (pss_cons (ps_set (i := 6) sc_paid.nd rfl (.inl rfl) (pe_call G_fewest (hr.mono (by decide)) (by rfl) T.g_fewest T.f_fewest.kp T.p_fewest .nil (passes_call (takes_of rfl rfl rfl rfl) fun _ _ _ _ h => h) (pa_cons (pv 3) (pa_cons (pv 5) pa_nil))))
    (pss_cons (ps_set (i := 7) sc_paid.nd rfl (.inr rfl) (pe_callTy (call_dictP rfl) (by rfl) T.m_dict (by decide +kernel) (pa_cons (pv 6) pa_nil)))
    (pss_cons (ps_setLc (i := 8) (own := [("value", 4), ("count", 9)]) (g := gTup K 2 (gCons (gName 4) (gCons (gName 9) gNil))) rfl sc_paid.nd rfl rfl (sw_true rfl rfl rfl (by decide +kernel)) (pi_list (pv 3)) (blkOk_by (own := [("value", 4), ("count", 9)]) (N := N_paid) (sc := defScope s_paid) (by decide +kernel)) (fun _ _ _ _ _ => pg_tup rfl (pgs_cons (pg_name (i := 4) sc_paid.nd rfl (.inl rfl) (.inr rfl)) (pgs_cons (pg_name (i := 9) sc_paid.nd rfl (.inl rfl) (.inr rfl)) pgs_nil))) (fun _ _ _ _ _ => pts_nil) (fun _ _ _ _ _ => (pe_tup (pa_cons (pv 4) (pa_cons (pe_op op_sub (pv 9) (pe_dget2 (hu_of hr) (pv 7) (pv 4) pe_int ⟨by rfl, by rfl, by rfl, by rfl⟩)) pa_nil)))))
    (pss_one (ps_ret (pe_tup (pa_cons (pv 8) (pa_cons (pv 6) pa_nil)))))))))))))), ?_⟩
    refine ⟨_, rfl, c, rfl, fun hc => ?_, fun hc => qs (by unfold dueP; rw [if_neg hc]) _ Ex.rfl'⟩
    refine ⟨_, rfl, u, _, rfl, .inl hS, _, _, rfl, rfl, _, rfl, iteD (fun e => ?_) (fun e => ?_)⟩
    · have e' : ((vals.map V.int).length : Int) > 60 := e
      rw [List.length_map] at e'
      exact qc (by unfold dueP; rw [if_pos hc, if_pos (by omega)]) _ Ex.rfl'
    have e' : ¬ ((vals.map V.int).length : Int) > 60 := e
    rw [List.length_map] at e'
    have hl : ¬ 60 < vals.length := by omega
    refine ⟨_, rfl, ?_⟩
    refine ⟨_, rfl, u, rfl, ⟨_, hS⟩, for_list (xs := vals.map V.int) (fun i σ H' => ∃ (f : Addr) (fs : List V) (y4 : Option V), σ = [some (.ref t), some (.int c), some (.ref u), some (.ref f), y4, none, none, none, none, none] ∧ Ex H H' ∧ H' f = some (.lst fs) ∧ Prs H' fs (fullP ps (vals.take i)) ∧ Tl (fullP ps (vals.take i)) ∧ walkDue ps (vals.take i) (vals.drop i) = walkDue ps [] vals)
      ⟨t, xs, _, rfl, Ex.rfl', ht, by rw [List.take_zero, fullP_nil]; exact hp, by rw [List.take_zero, fullP_nil]; exact hT, rfl⟩ (fun i σ H' _ h => by
        obtain ⟨_, _, _, _, e, _⟩ := h
        exact e.seq hS) ?_ ?_⟩
    · rintro i x σ H' hx ⟨f, fs, y4, rfl, ex, ef, hf, hTf, hw⟩
      rw [List.getElem?_map] at hx
      obtain ⟨v, hv, rfl⟩ := Option.map_eq_some_iff.mp hx
      have hd : vals.drop i = v :: vals.drop (i + 1) := drop_at hv
      rw [hd, walkDue_cons] at hw
      have hpe := pieceDue_eq hTf v
      refine ⟨_, rfl, _, rfl, f, fs, fullP ps (vals.take i), v, 1, rfl, ef, hf, hTf, ?_⟩
      unfold OutK
      rw [hpe]
      have bad : ∀ s : Str, s ≠ "kind" → s ≠ "count" → s ≠ "" → pieceDue ps (vals.take i) v = s → False := fun s h1 h2 h3 h => by
        rcases pieceDue_in ps (vals.take i) v with e | e | e
        · exact h1 (h.symm.trans e)
        · exact h2 (h.symm.trans e)
        · exact h3 (h.symm.trans e)
      refine ⟨fun hd0 p ys qs' H2 e2 hp2 ep hpr hb => ?_, fun hd0 H2 e2 => ?_, fun hd0 H2 e2 => ?_, fun h => (bad _ (by decide) (by decide) (by decide) h).elim, fun h => (bad _ (by decide) (by decide) (by decide) h).elim, fun h => (bad _ (by decide) (by decide) (by decide) h).elim, fun h => (bad _ (by decide) (by decide) (by decide) h).elim⟩
      · rw [if_pos hd0] at hw
        have hq : qs' = addC (fullP ps (vals.take i)) v 1 := by
          rcases hb with ⟨_, h⟩ | ⟨h, _⟩ | ⟨h, _⟩ | ⟨h, _⟩
          · exact h
          · exact absurd h (by decide)
          · exact absurd h (by decide)
          · exact absurd h (by decide)
        rw [hq, ← fullP_snoc, ← take_snoc hv] at hpr
        have htl := pieceDue_tl hTf hd0
        rw [← take_snoc hv] at htl hw
        exact ⟨p, ys, _, rfl, ex.tr e2, ep, hpr, htl, hw⟩
      · rw [if_neg (by rw [hd0]; decide), hd0] at hw
        exact qk (dueP_walk hc hl hw.symm (by decide)) _ (ex.tr e2)
      · rw [if_neg (by rw [hd0]; decide), hd0] at hw
        exact qc (dueP_walk hc hl hw.symm (by decide)) _ (ex.tr e2)
    · rintro σ H1 ⟨f, fs, y4, rfl, ex1, ef, hf, hTf, hw⟩
      rw [List.length_map, List.take_length] at hf hTf
      rw [List.length_map, List.drop_length] at hw
      have hde := dueP_end hc hl hw.symm
      refine ⟨_, rfl, u, vals, rfl, ex1.seq hS, _, rfl, _, _, rfl, rfl, ?_⟩
      refine ⟨_, rfl, _, _, rfl, rfl, _, rfl, iteD (fun e1 => ?_) (fun e1 => ?_)⟩
      · have e2 : vals.sum - c < 0 := e1
        exact ql (by rw [hde, if_pos (by omega)]) _ ex1
      have e2 : ¬ vals.sum - c < 0 := e1
      rw [if_neg (by omega)] at hde
      have hsn : (sumP c vals : Int) = vals.sum - c := Int.toNat_of_nonneg (by omega)
      refine ⟨_, rfl, _, rfl, f, fullP ps vals, vals.sum - c, rfl, ⟨fs, .of ef, hf⟩, by have := hTf.len; omega, fun p hp => ⟨(hTf.val p hp).1, (hTf.val p hp).2, (hTf.cnt p hp).1⟩, fun hn => ?_, fun hn hcn H2 e3 => ?_, fun hn hcn g ys H2 e3 hg eg hgs => ?_⟩
      · exact qs (by rw [hde, if_pos (by omega)]) _ ex1
      · rw [if_neg (by omega)] at hde
        exact qn hde hcn _ (ex1.tr e3)
      rw [if_neg (by omega)] at hde
      have q1 := q hde hcn
      change Prs H2 ys (gsP ps c vals) at hgs
      obtain ⟨m, hm⟩ := Option.ne_none_iff_exists'.mp hcn
      obtain ⟨_, _, _, hgr, hgl⟩ := gsP_ok hT hde hm
      unfold behP at q1
      generalize gsP ps c vals = gs at hgs hgr hgl q1
      have ex2 := ex1.tr e3
      have ef2 := e3 _ _ ef
      have hf2 := hf.ex e3
      obtain ⟨as, rfl, hdg⟩ := prs_dk (K := K) hgs
      refine ⟨_, rfl, g, as, dkP gs, rfl, .of eg, hdg, fun d hd => ?_⟩
      (generalize hh : upd H2 d _ = H3; have e4 : Ex H2 H3 := (by rw [← hh]; exact Ex.nw hd); have cd := (show H3 d = some _ by rw [← hh]; exact upd_same); clear hh)
      have ef3 := e4 _ _ ef2
      have hf3 := hf2.ex e4
      have hfl := hf3.len
      have hfl2 := hTf.len
      refine ⟨_, rfl, f, rfl, ⟨fs, .of ef3⟩, fun D hD => lc_list (xs := fs) (fun i H' => ∃ zs, Ex H3 H' ∧ H' D = some (.lst zs) ∧ zs.length = i ∧ Prs H' zs (((fullP ps vals).take i).map fun p => (p.1, p.2 - ownOf gs p.1))) ⟨[], Ex.nw hD, upd_same, rfl, .nil⟩ (fun i H' _ h => by
        obtain ⟨_, e, _⟩ := h
        exact .of (e _ _ ef3)) ?_ ?_⟩
      · rintro i x H' hx ⟨zs, ex, eD, hzl, hzs⟩
        obtain ⟨p, t2, h1, rfl, h3⟩ := Prs.get hf3 hx
        have hi : i < (fullP ps vals).length := (List.getElem?_eq_some_iff.mp h1).1
        refine ⟨t2, _, rfl, .of (ex _ _ h3), rfl, _, _, rfl, _, _, rfl, rfl, rfl, ?_⟩
        refine t_yes ?_
        refine ⟨_, rfl, _, rfl, _, rfl, d, rfl, .inl ⟨_, .inl (ex _ _ cd)⟩, _, rfl, _, DGet.k (k := Sum.inl p.1) (ex _ _ cd), ?_⟩
        rw [dict_val (rising_nd hgr), show (Option.map V.int (countIn gs p.1)).getD (.int 0) = .int (ownOf gs p.1) by unfold ownOf; cases countIn gs p.1 <;> rfl]
        refine ⟨_, _, rfl, rfl, len63 (by show 2 ≤ _; decide), fun t3 ht3 => ?_⟩
        have nDt : D ≠ t3 := ne_of_none eD ht3
        have eD' : (upd H' t3 (.tup [.int p.1, .int (p.2 - ownOf gs p.1)])) D = some (.lst zs) := by rw [upd_ne nDt]; exact eD
        refine ⟨zs, eD', len63' (by omega), zs ++ [.ref t3], Ex.mu (ex.tr (Ex.nw ht3)) hD, upd_same, by rw [List.length_append, hzl]; rfl, ?_⟩
        rw [take_snoc h1, List.map_append]
        refine Prs.up (by intro bs y; rw [eD'] at y; cases y) ?_
        exact Prs.snoc (hzs.ex (Ex.nw ht3)) ⟨t3, rfl, upd_same⟩
      rintro H4 ⟨zs, e5, eD, hzl, hzs⟩
      rw [List.take_of_length_le (by omega)] at hzs
      have e35 := e4.tr e5
      have eg4 := e35 _ _ eg
      have hg4 := hgs.ex e35
      have hD2 : H2 D = none := none_back e4 hD
      refine ⟨_, rfl, _, rfl, len63 (by show 2 ≤ _; decide), fun l hl => ?_⟩
      have ex4 := ex2.tr e35
      have ngD : g ≠ D := fun z => by rw [z, hD2] at eg; cases eg
      exact q1 l D g zs _ _ (ex4.tr (Ex.nw hl)) (none_back ex4 hl) (none_back ex2 hD2) (none_back ex1 hg) (ne_of_none eD hl).symm (ne_of_none eg4 hl).symm ngD.symm upd_same ((Ex.nw hl) _ _ eD) ((Ex.nw hl) _ _ eg4) (hzs.ex (Ex.nw hl)) (hg4.ex (Ex.nw hl))
/-! ### match over a tuple -/
structure PCs (X : Cx) (cs : List MatchCase) (t : V → TS) : Prop where
  run : ∀ (pins : List (Addr × Obj)) (s : Shared) (σ : L2.St) (H : Hp) (D : Ends) (x : V) (u : Value) (first : Bool), Inv X pins σ H s → RelV x u → t x D σ H → wpAny (model X.prog X.w) X.A (matchCases cs X.env u first) (SP X pins D) X.xe s
def tMatch (te : TE) (t : V → TS) : TS := fun D σ H => te σ H fun x H1 => t x D σ H1
theorem ps_match {X : Cx} {e : Expr} {cs : List MatchCase} {pos : Pos} {te : TE} {t : V → TS} (he : PE X e te) (hc : PCs X cs t) : PS X (.Match e cs pos) (tMatch te t) := by
  refine ⟨fun pins s σ H D I h => ?_⟩
  exact wpAny_Match (thn (he.run pins s σ H _ I h) fun u s1 ⟨x, H1, I1, r1, q1⟩ => hc.run pins s1 σ H1 D x u true I1 r1 q1)
def tCaseAll (tb : TS) : V → TS := fun _ => tb
theorem pcs_all {X : Cx} {b : List Stmt} {rest : List MatchCase} {tb : TS} {pos : Pos} (hb : PSs X b tb) : PCs X (⟨.MatchAs none none pos, none, b⟩ :: rest) (tCaseAll tb) := by
  refine ⟨fun pins s σ H D x u first I r h => ?_⟩
  exact wpAny_matchCases_cons (wpAny_matchPattern_Capture (assignInOrder_nil (hb.run pins s σ H D I h)))
/-- names to be taken, by their places -/
inductive Caps (X : Cx) : List Pattern → List (Nat × Str) → Prop
  | nil : Caps X [] []
  | cons {i : Nat} {n : Str} {pos : Pos} {ps : List Pattern} {is : List (Nat × Str)} : X.N[i]? = some n → Loc X.env.scope n → (X.fn n = true ∨ X.env.scope.names.lookup n = some .local) → Caps X ps is → Caps X (.MatchAs none (some n) pos :: ps) ((i, n) :: is)
def bndN : List (Nat × Str) → List Value → List (Str × Value)
  | (_, n) :: is, u :: us => (n, u) :: bndN is us
  | _, _ => []
def setAll : List (Nat × Str) → List V → L2.St → L2.St
  | (i, _) :: is, v :: vs, σ => setAll is vs (σ.set i (some v))
  | _, _, σ => σ
theorem Caps.each {X : Cx} {M : Model} {A : Around} {E : Value → Shared → Prop} {env : Env} : ∀ {ps : List Pattern} {is : List (Nat × Str)} {us : List Value} {s : Shared} {Q : Option (List (Str × Value)) → Shared → Prop}, Caps X ps is → us.length = ps.length → Q (some (bndN is us)) s → wpAny M A (matchEach ps env us) Q E s
  | _, _, us, s, Q, .nil, hl, h => by
    have : us = [] := List.length_eq_zero_iff.mp hl
    subst this
    exact wpAny_matchEach_nil h
  | _, _, [], _, _, .cons _ _ _ _, hl, _ => by cases hl
  | _, _, u :: us, s, Q, .cons _ _ _ c, hl, h => by
    refine wpAny_matchEach_cons (wpAny_matchPattern_Capture ?_)
    exact Caps.each c (by simpa using hl) h
theorem Caps.store {X : Cx} {pins : List (Addr × Obj)} {H : Hp} {M : Model} {A : Around} {E : Value → Shared → Prop} (hN : X.N.Nodup) : ∀ {ps : List Pattern} {is : List (Nat × Str)} {vs : List V} {us : List Value} {s : Shared} {σ : L2.St} {Q : Unit → Shared → Prop}, Caps X ps is → Vals vs us → us.length = ps.length → Inv X pins σ H s →
    (∀ s', Inv X pins (setAll is vs σ) H s' → Q () s') → wpAny M A (assignInOrder ((bndN is us).map fun (n, _) => bindName X.env n) ((bndN is us).map (·.2))) Q E s
  | _, _, vs, us, s, σ, Q, .nil, rv, hl, I, h => by
    have : us = [] := List.length_eq_zero_iff.mp hl
    subst this
    cases rv
    exact assignInOrder_nil (h s I)
  | _, _, _, _, _, _, _, .cons _ _ _ _, .nil, hl, _, _ => by cases hl
  | _, _, _, _, s, σ, Q, .cons a b d c, .cons r rv, hl, I, h => by
    refine assignInOrder_cons (wpAny_bindName (store_ok I hN a b r (fun s' I' => ?_) d))
    exact Caps.store hN c rv (by simpa using hl) I' h
/-- a word ahead, then names -/
def tCaseSeq (K : PySem.W.Frag) (w : Str) (n : Nat) (is : List (Nat × Str)) (tb : TS) (tr : V → TS) : V → TS := fun x D σ H => ∃ (a : Addr) (z : Str) (xs : List V), x = .ref a ∧ SqT K H a (.str z :: xs) ∧ xs.length ≤ 1000 ∧ (if xs.length = n ∧ z = w then tb D (setAll is xs σ) H else tr x D σ H)
theorem pcs_seq {X : Cx} {w : Str} {j : Nat} {cp vp pos : Pos} {caps : List Pattern} {is : List (Nat × Str)} {b : List Stmt} {rest : List MatchCase} {tb : TS} {tr : V → TS} (hcalm : X.calm = true) (hN : X.N.Nodup) (hc : Caps X caps is) (hb : PSs X b tb) (hr : PCs X rest tr)
    (hstar : (Pattern.MatchValue (.Constant (.str w) j cp) vp :: caps).findIdx? (·.isStar) = none := by rfl)
    (hwild : ((Pattern.MatchValue (.Constant (.str w) j cp) vp :: caps).all fun p => p.isWildcard || (p.isStar && p.names.isEmpty)) = false := by rfl) :
    PCs X (⟨.MatchSequence (.MatchValue (.Constant (.str w) j cp) vp :: caps) pos, none, b⟩ :: rest) (tCaseSeq X.K w caps.length is tb tr) := by
  refine ⟨fun pins s σ H D x u first I r h => ?_⟩
  obtain ⟨a, z, xs, rfl, hq, hlen, h⟩ := h
  cases (show u = Value.ref a from r)
  obtain ⟨its, rv, ht, hz⟩ := I.tuple hq
  have hvl := rv.length
  have hfit : ((its.toArray.size : Nat) : Int) < 2 ^ 63 := by
    rw [List.size_toArray, ← hvl, List.length_cons]
    omega
  refine wpAny_matchCases_cons ?_
  by_cases hn : xs.length = caps.length
  · have hsz : its.toArray.size = (Pattern.MatchValue (.Constant (.str w) j cp) vp :: caps).length := by rw [List.size_toArray, ← hvl, List.length_cons, List.length_cons, hn]
    refine matchSeq_tuple_hit ht hfit hsz ?_ hstar hwild
    have I0 := I.tok (s.toks + 1 + 1)
    rw [← hsz]
    refine unpackItems_tuple (s := { s with toks := s.toks + 1 + 1 }) (I.ok.hd hcalm) ht fun h' hx => ?_
    rw [show its.toArray.toList = its by simp]
    have I1 : Inv X pins σ H { s with heap := h', toks := s.toks + 1 + 1 } := I0.kept (t' := s.toks + 1 + 1) fun b o e => hx b o (Nat.ne_of_lt (Heap.lt_size e)) e
    cases rv with
    | cons r0 rv =>
      refine wpAny_matchEach_cons (wpAny_matchPattern_Value (thn (pe_str.run pins _ σ H (fun v H' => v = .str w ∧ H' = H) I1 ⟨rfl, rfl⟩) fun c s1 ⟨y, H1, I2, ry, hy, hH⟩ => ?_))
      subst hy hH
      refine thn (op_eq pins s1 σ H1 (.str z) (.str w) _ c (fun v H' => v = .bl (decide (V.str z = V.str w)) ∧ H' = H1) I2 r0 ry ⟨rfl, rfl, rfl⟩) fun d s2 ⟨y2, H2, I3, ry2, hy2, hH2⟩ => ?_
      subst hy2 hH2
      cases ry2
      refine wpAny_truthy_bool ?_
      by_cases hw : z = w
      · rw [if_pos ⟨hn, hw⟩] at h
        rw [decide_eq_true (congrArg V.str hw), if_pos rfl]
        have hul := Vals.length rv
        refine Caps.each hc (by rw [← hn]; exact hul.symm) ?_
        refine Caps.store hN hc rv (by rw [← hn]; exact hul.symm) I3 fun s' I' => ?_
        exact hb.run pins s' _ _ D I' h
      · rw [if_neg fun y => hw y.2] at h
        rw [decide_eq_false fun y => hw (V.str.inj y), if_neg (by decide)]
        exact hr.run pins s2 σ _ D (.ref a) (.ref a) false I3 rfl h
  · rw [if_neg fun y => hn y.1] at h
    refine matchSeq_tuple_miss ht hfit (by rw [List.size_toArray, ← hvl, List.length_cons, List.length_cons]; omega) ?_ hstar hwild
    exact hr.run pins _ σ H D (.ref a) (.ref a) false (I.tok _) rfl h
--@split
/-! ### deeds, by themselves -/
inductive Deed
  | paid (c : Int) (vals : List Int)
  | brought (v c : Int)
  | fetched (v c : Int)
  | kin (v : Int)
  | kout (v : Int)
  | other (z : Str) (xs : List Int)
def DeedAt (H : Hp) (x : V) : Deed → Prop
  | .paid c vals => ∃ t u, x = .ref t ∧ H t = some (.tup [.str "paid", .int c, .ref u]) ∧ H u = some (.lst (vals.map V.int))
  | .brought v c => ∃ t, x = .ref t ∧ H t = some (.tup [.str "brought", .int v, .int c])
  | .fetched v c => ∃ t, x = .ref t ∧ H t = some (.tup [.str "fetched", .int v, .int c])
  | .kin v => ∃ t, x = .ref t ∧ H t = some (.tup [.str "in", .int v])
  | .kout v => ∃ t, x = .ref t ∧ H t = some (.tup [.str "out", .int v])
  | .other z xs => ∃ t, x = .ref t ∧ H t = some (.tup (.str z :: xs.map V.int)) ∧ xs.length ≤ 3 ∧ (z = "Paid" ∨ z = "" ∨ z = "take" ∨ z = "ins")
theorem DeedAt.ex {H H' : Hp} (e : Ex H H') {x : V} : ∀ {d : Deed}, DeedAt H x d → DeedAt H' x d
  | .paid _ _, ⟨t, u, a, b, c⟩ => ⟨t, u, a, e _ _ b, e _ _ c⟩
  | .brought _ _, ⟨t, a, b⟩ => ⟨t, a, e _ _ b⟩
  | .fetched _ _, ⟨t, a, b⟩ => ⟨t, a, e _ _ b⟩
  | .kin _, ⟨t, a, b⟩ => ⟨t, a, e _ _ b⟩
  | .kout _, ⟨t, a, b⟩ => ⟨t, a, e _ _ b⟩
  | .other _ _, ⟨t, a, b, c⟩ => ⟨t, a, e _ _ b, c⟩
def insP (ps : List (Int × Int)) (v : Int) : List (Int × Int) := (ps.filter fun p => decide (p.1 < v)) ++ (v, 0) :: ps.filter fun p => !decide (p.1 < v)
def outP (ps : List (Int × Int)) (c : Int) (vals : List Int) : Str := if dueP ps c vals = "" then (if cellP ps c vals = none then "change" else "") else dueP ps c vals
/-- the word that is due, the till behind, the change -/
def wordD (ps : List (Int × Int)) : Deed → Str
  | .paid c vals => outP ps c vals
  | .brought v c => dueK ps 0 v c
  | .fetched v c => dueK ps 1 v c
  | .kin v => dueK ps 2 v 0
  | .kout v => dueK ps 3 v 0
  | .other _ _ => "deed"
def doneD (ps : List (Int × Int)) : Deed → List (Int × Int)
  | .paid c vals => behP ps c vals
  | .brought v c => addC ps v c
  | .fetched v c => addC ps v (-c)
  | .kin v => insP ps v
  | .kout v => ps.filter fun p => decide (p.1 ≠ v)
  | .other _ _ => ps
def chgD (ps : List (Int × Int)) : Deed → List (Int × Int)
  | .paid c vals => gsP ps c vals
  | _ => []
def behD (ps : List (Int × Int)) (d : Deed) : List (Int × Int) := if wordD ps d = "" then doneD ps d else ps
def givD (ps : List (Int × Int)) (d : Deed) : List (Int × Int) := if wordD ps d = "" then chgD ps d else []
def ansW (z : Str) : Str :=
  if z = "" then "done" else if z = "kind" then "no kind" else if z = "twice" then "twice" else if z = "count" then "no count" else if z = "till" then "no till" else if z = "sum" then "no sum" else if z = "little" then "too little"
  else if z = "change" then "no change" else if z = "few" then "too few" else if z = "held" then "still held" else "no deed"
theorem insP_behind {ps : List (Int × Int)} {v : Int} (hT : Tl ps) (h : countIn ps v = none) : Behind ps 2 v 0 (insP ps v) := by
  refine .inr (.inr (.inl ⟨rfl, ?_, ?_⟩))
  · unfold insP Rising
    rw [List.pairwise_append, List.pairwise_cons]
    refine ⟨hT.ris.filter _, ⟨fun b hb => ?_, hT.ris.filter _⟩, fun a ha b hb => ?_⟩
    · obtain ⟨h1, h2⟩ := List.mem_filter.mp hb
      have h3 : ¬ b.1 < v := by simpa using h2
      have h4 := countIn_nd hT.nd h1
      show v < b.1
      by_cases e : b.1 = v
      · rw [e, h] at h4
        cases h4
      · omega
    · obtain ⟨h1, h2⟩ := List.mem_filter.mp ha
      have h3 : a.1 < v := by simpa using h2
      rcases List.mem_cons.mp hb with e | e
      · rw [e]
        exact h3
      · obtain ⟨_, h5⟩ := List.mem_filter.mp e
        have h6 : ¬ b.1 < v := by simpa using h5
        omega
  · unfold insP
    have h1 := List.filter_append_perm (fun p : Int × Int => decide (p.1 < v)) ps
    exact (List.perm_middle.trans ((List.Perm.cons _ h1).trans (List.perm_append_singleton _ _).symm))
theorem behind_is {ps : List (Int × Int)} {qs : List (Int × Int)} (hT : Tl ps) {w v c : Int} (hd : dueK ps w v c = "") (hb : Behind ps w v c qs) : (w = 0 → qs = addC ps v c) ∧ (w = 1 → qs = addC ps v (-c)) ∧ (w = 2 → c = 0 → qs = insP ps v) ∧ (w = 3 → qs = ps.filter fun p => decide (p.1 ≠ v)) := by
  refine ⟨fun e => ?_, fun e => ?_, fun e ec => ?_, fun e => ?_⟩
  · subst e
    exact hb.uniq (.inl ⟨rfl, rfl⟩)
  · subst e
    exact hb.uniq (.inr (.inl ⟨rfl, rfl⟩))
  · subst e ec
    have hcn : countIn ps v = none := by
      cases z : countIn ps v with
      | none => rfl
      | some t =>
        have h1 := hT.there_nn z
        unfold dueK at hd
        rw [if_neg (by decide), if_pos rfl, there_some z] at hd
        split at hd
        · cases hd
        · rw [if_pos h1.1] at hd
          cases hd
    exact hb.uniq (insP_behind hT hcn)
  · subst e
    exact hb.uniq (.inr (.inr (.inr ⟨rfl, rfl⟩)))
theorem addC_tl2 {ps : List (Int × Int)} {v d : Int} (h : Tl ps) (hc : ∀ t, countIn ps v = some t → 0 ≤ t + d ∧ t + d ≤ 1000000000) : Tl (addC ps v d) := by
  have hm : ∀ p ∈ addC ps v d, ∃ q ∈ ps, p.1 = q.1 ∧ (p.2 = q.2 ∨ (q.1 = v ∧ p.2 = q.2 + d)) := fun p hp => by
    obtain ⟨q, hq, rfl⟩ := List.mem_map.mp hp
    refine ⟨q, hq, ?_⟩
    by_cases e : q.1 = v
    · rw [if_pos e]
      exact ⟨rfl, .inr ⟨e, rfl⟩⟩
    · rw [if_neg e]
      exact ⟨rfl, .inl rfl⟩
  refine ⟨?_, fun p hp => ?_, fun p hp => ?_, ?_⟩
  · have h1 := h.ris
    unfold Rising at h1 ⊢
    unfold addC
    rw [List.pairwise_map]
    refine h1.imp fun {a b} hab => ?_
    have e1 : (if a.1 = v then (a.1, a.2 + d) else a).1 = a.1 := by split <;> rfl
    have e2 : (if b.1 = v then (b.1, b.2 + d) else b).1 = b.1 := by split <;> rfl
    rw [e1, e2]
    exact hab
  · obtain ⟨q, hq, e, _⟩ := hm p hp
    rw [e]
    exact h.val q hq
  · obtain ⟨q, hq, e, e2⟩ := hm p hp
    have h1 := h.cnt q hq
    rcases e2 with e2 | ⟨e2, e3⟩
    · omega
    · have h2 := countIn_nd h.nd hq
      rw [e2] at h2
      have := hc _ h2
      omega
  · unfold addC
    rw [List.length_map]
    exact h.len
theorem outP_ok {ps : List (Int × Int)} {c : Int} {vals : List Int} (h : outP ps c vals = "") : dueP ps c vals = "" ∧ ∃ m, cellP ps c vals = some m := by
  unfold outP at h
  split at h
  · next hd =>
    split at h
    · cases h
    · next hc => exact ⟨hd, Option.ne_none_iff_exists'.mp hc⟩
  · next hd => exact absurd h hd
theorem behP_tl {ps : List (Int × Int)} {c : Int} {vals : List Int} (hT : Tl ps) (h : outP ps c vals = "") : Tl (behP ps c vals) := by
  obtain ⟨hd, m, hm⟩ := outP_ok h
  obtain ⟨_, _, hw, _, _⟩ := dueP_ok hd
  have ht := walk_tl (r := vals) (pre := []) (by rw [fullP_nil]; exact hT) hw
  rw [List.nil_append] at ht
  obtain ⟨_, _, w3, w4, _⟩ := gsP_ok hT hd hm
  unfold behP
  generalize gsP ps c vals = gs at *
  refine ⟨?_, fun p hp => ?_, fun p hp => ?_, by rw [List.length_map]; exact ht.len⟩
  · unfold Rising
    rw [List.pairwise_map]
    exact ht.ris
  · obtain ⟨r, hr, rfl⟩ := List.mem_map.mp hp
    exact ht.val r hr
  · obtain ⟨r, hr, rfl⟩ := List.mem_map.mp hp
    have h1 := ht.cnt r hr
    show 0 ≤ r.2 - ownOf gs r.1 ∧ r.2 - ownOf gs r.1 ≤ 1000000000
    unfold ownOf
    cases e : countIn gs r.1 with
    | none =>
      show 0 ≤ r.2 - 0 ∧ r.2 - 0 ≤ 1000000000
      omega
    | some g =>
      obtain ⟨_, _, g1, t, ht2, hle⟩ := w3 _ (countIn_mem e)
      have e1 := countIn_nd ht.nd hr
      have e2 := countIn_nd ht.nd ht2
      have e3 : countIn (fullP ps vals) r.1 = some t := e2
      rw [e1] at e3
      have := Option.some.inj e3
      show 0 ≤ r.2 - g ∧ r.2 - g ≤ 1000000000
      have g1' : 1 ≤ g := g1
      have hle' : g ≤ t := hle
      omega
theorem behD_tl {ps : List (Int × Int)} (hT : Tl ps) (d : Deed) : Tl (behD ps d) := by
  unfold behD
  split
  next h =>
    cases d with
    | paid c vals => exact behP_tl hT h
    | brought v c =>
      have h' : dueK ps 0 v c = "" := h
      refine addC_tl2 hT fun t ht => ?_
      have hb := hT.there_nn ht
      unfold dueK at h'
      rw [if_pos (by decide), there_some ht, if_neg (by omega)] at h'
      split at h'
      · cases h'
      · omega
    | fetched v c =>
      have h' : dueK ps 1 v c = "" := h
      refine addC_tl2 hT fun t ht => ?_
      have hb := hT.there_nn ht
      unfold dueK at h'
      rw [if_pos (by decide), there_some ht, if_neg (by omega)] at h'
      split at h'
      · cases h'
      · split at h'
        · cases h'
        · omega
    | kin v =>
      have h' : dueK ps 2 v 0 = "" := h
      show Tl (insP ps v)
      unfold dueK at h'
      rw [if_neg (by decide), if_pos rfl] at h'
      split at h'
      · cases h'
      · split at h'
        · cases h'
        · split at h'
          · cases h'
          · next h1 h2 h3 =>
            have hcn : countIn ps v = none := by
              cases z : countIn ps v with
              | none => rfl
              | some t =>
                rw [there_some z] at h2
                exact absurd (hT.there_nn z).1 h2
            obtain ⟨h4, _⟩ | ⟨h4, _⟩ | ⟨_, hr, hp⟩ | ⟨h4, _⟩ := insP_behind hT hcn
            · exact absurd h4 (by decide)
            · exact absurd h4 (by decide)
            · refine ⟨hr, fun p hp2 => ?_, fun p hp2 => ?_, ?_⟩
              · rcases List.mem_append.mp (hp.mem_iff.mp hp2) with z | z
                · exact hT.val p z
                · rw [List.mem_singleton.mp z]
                  exact ⟨by show 1 ≤ v; omega, by show v ≤ 1000; omega⟩
              · rcases List.mem_append.mp (hp.mem_iff.mp hp2) with z | z
                · exact hT.cnt p z
                · rw [List.mem_singleton.mp z]
                  exact ⟨Int.le_refl _, by show (0 : Int) ≤ 1000000000; decide⟩
              · rw [hp.length_eq, List.length_append]
                have := hT.len
                show 1 ≤ ps.length + 1 ∧ ps.length + 1 ≤ 10
                omega
            · exact absurd h4 (by decide)
    | kout v =>
      have h' : dueK ps 3 v 0 = "" := h
      show Tl (ps.filter fun p => decide (p.1 ≠ v))
      unfold dueK at h'
      rw [if_neg (by decide), if_neg (by decide)] at h'
      have hl1 : ps.length ≠ 1 := by
        intro hl
        split at h'
        · cases h'
        · split at h'
          · cases h'
          · cases h'
      refine ⟨hT.ris.filter _, fun p hp => hT.val p (List.mem_filter.mp hp).1, fun p hp => hT.cnt p (List.mem_filter.mp hp).1, ?_, Nat.le_trans (List.length_filter_le ..) hT.len.2⟩
      have hl := hT.len.1
      have hr := hT.ris
      match ps, hl, hl1, hr with
      | [_], _, hl1, _ => exact absurd rfl hl1
      | a :: b :: r, _, _, hr =>
        have hab : a.1 < b.1 := (List.pairwise_cons.mp hr).1 b List.mem_cons_self
        by_cases e : a.1 = v
        · exact List.length_pos_of_mem (List.mem_filter.mpr ⟨List.mem_cons_of_mem _ List.mem_cons_self, by simp; omega⟩)
        · exact List.length_pos_of_mem (List.mem_filter.mpr ⟨List.mem_cons_self, by simpa using e⟩)
    | other z xs => exact hT
  next => exact hT
def foldD (ps : List (Int × Int)) : List Deed → List (Int × Int)
  | [] => ps
  | d :: ds => foldD (behD ps d) ds
theorem foldD_snoc (ps : List (Int × Int)) (ds : List Deed) (d : Deed) : foldD ps (ds ++ [d]) = behD (foldD ps ds) d := by
  induction ds generalizing ps with
  | nil => rfl
  | cons e ds ih => exact ih _
theorem foldD_tl {ps : List (Int × Int)} (hT : Tl ps) (ds : List Deed) : Tl (foldD ps ds) := by
  induction ds generalizing ps with
  | nil => exact hT
  | cons e ds ih => exact ih (behD_tl hT e)
theorem foldD_app (ps : List (Int × Int)) (a b : List Deed) : foldD ps (a ++ b) = foldD (foldD ps a) b := by
  induction a generalizing ps with
  | nil => rfl
  | cons e a ih => exact ih _
/-- the answers -/
abbrev Ans := Str × List (Int × Int)
def ansD (ps : List (Int × Int)) (d : Deed) : Ans := (ansW (wordD ps d), givD ps d)
def answers (ps : List (Int × Int)) : List Deed → List Ans
  | [] => []
  | d :: ds => ansD ps d :: answers (behD ps d) ds
theorem answers_snoc (ps : List (Int × Int)) (ds : List Deed) (d : Deed) : answers ps (ds ++ [d]) = answers ps ds ++ [ansD (foldD ps ds) d] := by
  induction ds generalizing ps with
  | nil => rfl
  | cons e ds ih =>
    show ansD ps e :: answers (behD ps e) (ds ++ [d]) = _
    rw [ih]
    rfl
theorem answers_app (ps : List (Int × Int)) (a b : List Deed) : answers ps (a ++ b) = answers ps a ++ answers (foldD ps a) b := by
  induction a generalizing ps with
  | nil => rfl
  | cons e a ih =>
    show ansD ps e :: answers (behD ps e) (a ++ b) = _
    rw [ih]
    rfl
theorem answers_len (ps : List (Int × Int)) (ds : List Deed) : (answers ps ds).length = ds.length := by
  induction ds generalizing ps with
  | nil => rfl
  | cons e ds ih =>
    show (answers _ ds).length + 1 = _
    rw [ih]
    rfl
--@split
/-! ### a deed, done -/
def OutDn (T : Tx K mg) (ps : List (Int × Int)) (d : Deed) (H : Hp) (E : XK) : Prop := (wordD ps d = "kind" → ∀ H2, Ex H H2 → E (.ref T.c_NoKind) none H2) ∧ (wordD ps d = "twice" → ∀ H2, Ex H H2 → E (.ref T.c_Twice) none H2) ∧ (wordD ps d = "count" → ∀ H2, Ex H H2 → E (.ref T.c_NoCount) none H2) ∧ (wordD ps d = "till" → ∀ H2, Ex H H2 → E (.ref T.c_NoTill) none H2) ∧ (wordD ps d = "sum" → ∀ H2, Ex H H2 → E (.ref T.c_NoSum) none H2) ∧ (wordD ps d = "little" → ∀ H2, Ex H H2 → E (.ref T.c_TooLittle) none H2) ∧ (wordD ps d = "change" → ∀ H2, Ex H H2 → E (.ref T.c_NoChange) none H2) ∧ (wordD ps d = "few" → ∀ H2, Ex H H2 → E (.ref T.c_TooFew) none H2) ∧ (wordD ps d = "held" → ∀ H2, Ex H H2 → E (.ref T.c_StillHeld) none H2) ∧ (wordD ps d = "deed" → ∀ H2, Ex H H2 → E (.ref T.c_NoDeed) none H2)
def spDone9 (T : Tx K mg) : Sp := fun vs H Q E => ∃ (t : Addr) (x : V) (xs : List V) (ps : List (Int × Int)) (d : Deed), vs = [.ref t, x] ∧ H t = some (.lst xs) ∧ Prs H xs ps ∧ Tl ps ∧ DeedAt H x d ∧ OutDn T ps d H E ∧ (wordD ps d = "" → NewDeal H (doneD ps d) (chgD ps d) Q)
theorem ok_done9 (T : Tx K mg) : FnOk P w K mg base (L2.CX P w) 6 T.a__done T.d__done P__done (spDone9 T) := by
  have G_paid := ok_paid (P := P) (w := w) (base := base) T
  have G_brought := ok_brought (P := P) (w := w) (base := base) T
  have G_fetched := ok_fetched (P := P) (w := w) (base := base) T
  have G_kind_in := ok_kind_in (P := P) (w := w) (base := base) T
  have G_kind_out := ok_kind_out (P := P) (w := w) (base := base) T
  refine T.f__done.okX sc__done (fun vs H Q E h => ?_) (fun cdv A outer s H vs Q E hr h => ?_)
  · obtain ⟨t, x, xs, ps, d, rfl, _⟩ := h
    rfl
  · obtain ⟨t, x, xs, ps, d, rfl, ht, hp, hT, hd, ⟨qk, qw, qc, qt, qs, ql, qn, qf, qh, qd⟩, q0⟩ := h
    refine ⟨_, (pss_one (ps_match (pv 1) (pcs_seq rfl sc__done.nd (.cons (i := 2) rfl (.inl rfl) (.inl rfl) (.cons (i := 3) rfl (.inl rfl) (.inl rfl) .nil))
      (pss_one (ps_ret (pe_call G_paid (hr.mono (by decide)) (by rfl) T.g_paid T.f_paid.kp T.p_paid .nil (passes_call (takes_of rfl rfl rfl rfl) fun _ _ _ _ h => h) (pa_cons (pv 0) (pa_cons (pv 2) (pa_cons (pv 3) pa_nil))))))
      (pcs_seq rfl sc__done.nd (.cons (i := 4) rfl (.inl rfl) (.inl rfl) (.cons (i := 5) rfl (.inl rfl) (.inl rfl) .nil))
      (pss_one (ps_ret (pe_tup (pa_cons (pe_call G_brought (hr.mono (by decide)) (by rfl) T.g_brought T.f_brought.kp T.p_brought .nil (passes_call (takes_of rfl rfl rfl rfl) fun _ _ _ _ h => h) (pa_cons (pv 0) (pa_cons (pv 4) (pa_cons (pv 5) pa_nil)))) (pa_cons (pe_lst pa_nil) pa_nil)))))
      (pcs_seq rfl sc__done.nd (.cons (i := 4) rfl (.inl rfl) (.inl rfl) (.cons (i := 5) rfl (.inl rfl) (.inl rfl) .nil))
      (pss_one (ps_ret (pe_tup (pa_cons (pe_call G_fetched (hr.mono (by decide)) (by rfl) T.g_fetched T.f_fetched.kp T.p_fetched .nil (passes_call (takes_of rfl rfl rfl rfl) fun _ _ _ _ h => h) (pa_cons (pv 0) (pa_cons (pv 4) (pa_cons (pv 5) pa_nil)))) (pa_cons (pe_lst pa_nil) pa_nil)))))
      (pcs_seq rfl sc__done.nd (.cons (i := 4) rfl (.inl rfl) (.inl rfl) .nil)
      (pss_one (ps_ret (pe_tup (pa_cons (pe_call G_kind_in (hr.mono (by decide)) (by rfl) T.g_kind_in T.f_kind_in.kp T.p_kind_in .nil (passes_call (takes_of rfl rfl rfl rfl) fun _ _ _ _ h => h) (pa_cons (pv 0) (pa_cons (pv 4) pa_nil))) (pa_cons (pe_lst pa_nil) pa_nil)))))
      (pcs_seq rfl sc__done.nd (.cons (i := 4) rfl (.inl rfl) (.inl rfl) .nil)
      (pss_one (ps_ret (pe_tup (pa_cons (pe_call G_kind_out (hr.mono (by decide)) (by rfl) T.g_kind_out T.f_kind_out.kp T.p_kind_out .nil (passes_call (takes_of rfl rfl rfl rfl) fun _ _ _ _ h => h) (pa_cons (pv 0) (pa_cons (pv 4) pa_nil))) (pa_cons (pe_lst pa_nil) pa_nil)))))
      (pcs_all
      (pss_one (ps_raise rfl (takes_of rfl rfl rfl rfl) (pmk_own PySem.F.excBase_ValueError T.x_NoDeed T.g_NoDeed T.k_NoDeed (raises_own T.b_NoDeed T.t_NoDeed) rfl))))))))))), ?_⟩
    have no2 : ∀ {n m : Nat} {z w : Str}, z ≠ w → ¬ (n = m ∧ z = w) := fun h y => h y.2
    -- a till behind, and no change
    have two : ∀ (p : Addr) (ys : List V) (qs : List (Int × Int)) (H2 : Hp), wordD ps d = "" → qs = doneD ps d → chgD ps d = [] → Ex H H2 → H p = none → H2 p = some (.lst ys) → Prs H2 ys qs → ∀ e, H2 e = none → ∀ l, (upd H2 e (.lst [])) l = none → Q (.ref l) (upd (upd H2 e (.lst [])) l (.tup [.ref p, .ref e])) := by
      intro p ys qs H2 hw hq hc e2 hp2 ep hpr e he l hl
      have n1 := Ex.nw (o := .lst []) he
      have n2 := Ex.nw (o := .tup [.ref p, .ref e]) hl
      have nel : e ≠ l := ne_of_none upd_same hl
      refine q0 hw l p e ys [] _ ((e2.tr n1).tr n2) (none_back (e2.tr n1) hl) hp2 (none_back e2 he) ?_ nel.symm ?_ upd_same (n2 _ _ (n1 _ _ ep)) (n2 _ _ upd_same) (hq ▸ (hpr.ex n1).ex n2) (by rw [hc]; exact .nil)
      · exact (ne_of_none (n1 _ _ ep) hl).symm
      · exact ne_of_none ep he
    cases d with
    | paid c vals =>
      obtain ⟨t1, u, rfl, ht1, hu⟩ := hd
      refine ⟨_, rfl, t1, _, _, rfl, .of ht1, by show 2 ≤ 1000; decide, ?_⟩
      rw [if_pos ⟨rfl, rfl⟩]
      have od : ∀ z : Str, dueP ps c vals = z → z ≠ "" → wordD ps (.paid c vals) = z := fun z h hz => by
        show outP ps c vals = z
        unfold outP
        rw [if_neg (by rw [h]; exact hz), h]
      refine ⟨_, rfl, _, rfl, _, rfl, t, u, xs, ps, c, vals, rfl, ht, hp, hT, .of hu, fun h => qs (od _ h (by decide)), fun h => qc (od _ h (by decide)), fun h => qk (od _ h (by decide)), fun h => ql (od _ h (by decide)), fun h hc => qn ?_, fun h hc => q0 ?_⟩
      · show outP ps c vals = "change"
        unfold outP
        rw [if_pos h, if_pos hc]
      · show outP ps c vals = ""
        unfold outP
        rw [if_pos h, if_neg hc]
    | brought v c =>
      obtain ⟨t1, rfl, ht1⟩ := hd
      refine ⟨_, rfl, t1, _, _, rfl, .of ht1, by show 2 ≤ 1000; decide, ?_⟩
      rw [if_neg (no2 (by decide))]
      refine ⟨t1, _, _, rfl, .of ht1, by show 2 ≤ 1000; decide, ?_⟩
      rw [if_pos ⟨rfl, rfl⟩]
      exact ⟨_, rfl, _, rfl, _, rfl, t, xs, ps, v, c, rfl, ht, hp, hT, fun hw p ys qs' H2 e2 hp2 ep hpr hb => ⟨Nat.zero_le _, fun e he => ⟨len63 (by show 2 ≤ _; decide), two p ys qs' H2 hw ((behind_is hT hw hb).1 rfl) rfl e2 hp2 ep hpr e he⟩⟩, qk, qc, qf, qw, qt, qh⟩
    | fetched v c =>
      obtain ⟨t1, rfl, ht1⟩ := hd
      refine ⟨_, rfl, t1, _, _, rfl, .of ht1, by show 2 ≤ 1000; decide, ?_⟩
      rw [if_neg (no2 (by decide))]
      refine ⟨t1, _, _, rfl, .of ht1, by show 2 ≤ 1000; decide, ?_⟩
      rw [if_neg (no2 (by decide))]
      refine ⟨t1, _, _, rfl, .of ht1, by show 2 ≤ 1000; decide, ?_⟩
      rw [if_pos ⟨rfl, rfl⟩]
      exact ⟨_, rfl, _, rfl, _, rfl, t, xs, ps, v, c, rfl, ht, hp, hT, fun hw p ys qs' H2 e2 hp2 ep hpr hb => ⟨Nat.zero_le _, fun e he => ⟨len63 (by show 2 ≤ _; decide), two p ys qs' H2 hw ((behind_is hT hw hb).2.1 rfl) rfl e2 hp2 ep hpr e he⟩⟩, qk, qc, qf, qw, qt, qh⟩
    | kin v =>
      obtain ⟨t1, rfl, ht1⟩ := hd
      refine ⟨_, rfl, t1, _, _, rfl, .of ht1, by show 1 ≤ 1000; decide, ?_⟩
      rw [if_neg (no2 (by decide))]
      refine ⟨t1, _, _, rfl, .of ht1, by show 1 ≤ 1000; decide, ?_⟩
      rw [if_neg (no2 (by decide))]
      refine ⟨t1, _, _, rfl, .of ht1, by show 1 ≤ 1000; decide, ?_⟩
      rw [if_neg (no2 (by decide))]
      refine ⟨t1, _, _, rfl, .of ht1, by show 1 ≤ 1000; decide, ?_⟩
      rw [if_pos ⟨rfl, rfl⟩]
      exact ⟨_, rfl, _, rfl, t, xs, ps, v, 0, rfl, ht, hp, hT, fun hw p ys qs' H2 e2 hp2 ep hpr hb => ⟨Nat.zero_le _, fun e he => ⟨len63 (by show 2 ≤ _; decide), two p ys qs' H2 hw ((behind_is hT hw hb).2.2.1 rfl rfl) rfl e2 hp2 ep hpr e he⟩⟩, qk, qc, qf, qw, qt, qh⟩
    | kout v =>
      obtain ⟨t1, rfl, ht1⟩ := hd
      refine ⟨_, rfl, t1, _, _, rfl, .of ht1, by show 1 ≤ 1000; decide, ?_⟩
      rw [if_neg (no2 (by decide))]
      refine ⟨t1, _, _, rfl, .of ht1, by show 1 ≤ 1000; decide, ?_⟩
      rw [if_neg (no2 (by decide))]
      refine ⟨t1, _, _, rfl, .of ht1, by show 1 ≤ 1000; decide, ?_⟩
      rw [if_neg (no2 (by decide))]
      refine ⟨t1, _, _, rfl, .of ht1, by show 1 ≤ 1000; decide, ?_⟩
      rw [if_neg (no2 (by decide))]
      refine ⟨t1, _, _, rfl, .of ht1, by show 1 ≤ 1000; decide, ?_⟩
      rw [if_pos ⟨rfl, rfl⟩]
      exact ⟨_, rfl, _, rfl, t, xs, ps, v, 0, rfl, ht, hp, hT, fun hw p ys qs' H2 e2 hp2 ep hpr hb => ⟨Nat.zero_le _, fun e he => ⟨len63 (by show 2 ≤ _; decide), two p ys qs' H2 hw ((behind_is hT hw hb).2.2.2 rfl) rfl e2 hp2 ep hpr e he⟩⟩, qk, qc, qf, qw, qt, qh⟩
    | other z zs =>
      obtain ⟨t1, rfl, ht1, hl, hz⟩ := hd
      have hz5 : z ≠ "paid" ∧ z ≠ "brought" ∧ z ≠ "fetched" ∧ z ≠ "in" ∧ z ≠ "out" := by
        rcases hz with rfl | rfl | rfl | rfl <;> decide
      have hl' : (zs.map V.int).length ≤ 1000 := by rw [List.length_map]; omega
      refine ⟨_, rfl, t1, _, _, rfl, .of ht1, hl', ?_⟩
      rw [if_neg (no2 hz5.1)]
      refine ⟨t1, _, _, rfl, .of ht1, hl', ?_⟩
      rw [if_neg (no2 hz5.2.1)]
      refine ⟨t1, _, _, rfl, .of ht1, hl', ?_⟩
      rw [if_neg (no2 hz5.2.2.1)]
      refine ⟨t1, _, _, rfl, .of ht1, hl', ?_⟩
      rw [if_neg (no2 hz5.2.2.2.1)]
      refine ⟨t1, _, _, rfl, .of ht1, hl', ?_⟩
      rw [if_neg (no2 hz5.2.2.2.2)]
      exact qd rfl _ Ex.rfl'
/-! ### a deed, answered -/
def NewAns (t : Addr) (ps : List (Int × Int)) (d : Deed) (H : Hp) (Q : VK) : Prop := ∀ l b an g xs ys H2, Ex H H2 → H l = none → H an = none → H g = none → (b = t ∨ H b = none) → b ≠ g → H2 l = some (.tup [.ref b, .ref an]) → H2 an = some (.tup [.str (ansW (wordD ps d)), .ref g]) → H2 b = some (.lst xs) → H2 g = some (.lst ys) → Prs H2 xs (behD ps d) → Prs H2 ys (givD ps d) → Q (.ref l) H2
def spAnswered (K : PySem.W.Frag) : Sp := fun vs H Q _ => ∃ (t : Addr) (x : V) (xs : List V) (ps : List (Int × Int)) (d : Deed), vs = [.ref t, x] ∧ H t = some (.lst xs) ∧ Prs H xs ps ∧ Tl ps ∧ DeedAt H x d ∧ NewAns t ps d H Q
theorem ok_answered (T : Tx K mg) : FnOk P w K mg base CX0 7 T.a__answered T.d__answered P__answered (spAnswered K) := by
  have G__done := ok_done9 (P := P) (w := w) (base := base) T
  refine T.f__answered.ok sc__answered (fun vs H Q E h => ?_) (fun cdv A outer s H vs Q E hr h => ?_)
  · obtain ⟨t, x, xs, ps, d, rfl, _⟩ := h
    rfl
  · obtain ⟨t, x, xs, ps, d, rfl, ht, hp, hT, hd, q⟩ := h
    refine ⟨_, (Evl.pss_cut (ps_try_many rfl rfl takes0
      (fun W pn xe tk hp => (pss_cons (ps_asg (g := gTup K 2 (gCons (gName 2) (gCons (gName 3) gNil))) (pe_callS G__done (hr.mono (by decide)) rfl T.g__done T.f__done.kp T.p__done (fun σ => passAt tk σ) (pa_cons (pv 0) (pa_cons (pv 1) pa_nil))) (pg_tup rfl (pgs_cons (pg_name (i := 2) sc__answered.nd rfl (.inl rfl) (.inr rfl)) (pgs_cons (pg_name (i := 3) sc__answered.nd rfl (.inl rfl) (.inr rfl)) pgs_nil))))
      (pss_one (ps_ret (pe_tup (pa_cons (pv 2) (pa_cons (pe_tup (pa_cons pe_str (pa_cons (pv 3) pa_nil))) pa_nil)))))))
      (.cons ⟨by rfl, by decide, .inl T.g_NoKind⟩ (fun a oe cls d pn hz hf => (pss_one (ps_set (i := 4) sc__answered.nd rfl (.inl rfl) pe_str)))
      (.cons ⟨by rfl, by decide, .inl T.g_Twice⟩ (fun a oe cls d pn hz hf => (pss_one (ps_set (i := 4) sc__answered.nd rfl (.inl rfl) pe_str)))
      (.cons ⟨by rfl, by decide, .inl T.g_NoCount⟩ (fun a oe cls d pn hz hf => (pss_one (ps_set (i := 4) sc__answered.nd rfl (.inl rfl) pe_str)))
      (.cons ⟨by rfl, by decide, .inl T.g_NoTill⟩ (fun a oe cls d pn hz hf => (pss_one (ps_set (i := 4) sc__answered.nd rfl (.inl rfl) pe_str)))
      (.cons ⟨by rfl, by decide, .inl T.g_NoSum⟩ (fun a oe cls d pn hz hf => (pss_one (ps_set (i := 4) sc__answered.nd rfl (.inl rfl) pe_str)))
      (.cons ⟨by rfl, by decide, .inl T.g_TooLittle⟩ (fun a oe cls d pn hz hf => (pss_one (ps_set (i := 4) sc__answered.nd rfl (.inl rfl) pe_str)))
      (.cons ⟨by rfl, by decide, .inl T.g_NoChange⟩ (fun a oe cls d pn hz hf => (pss_one (ps_set (i := 4) sc__answered.nd rfl (.inl rfl) pe_str)))
      (.cons ⟨by rfl, by decide, .inl T.g_TooFew⟩ (fun a oe cls d pn hz hf => (pss_one (ps_set (i := 4) sc__answered.nd rfl (.inl rfl) pe_str)))
      (.cons ⟨by rfl, by decide, .inl T.g_StillHeld⟩ (fun a oe cls d pn hz hf => (pss_one (ps_set (i := 4) sc__answered.nd rfl (.inl rfl) pe_str)))
      (.cons ⟨by rfl, by decide, .inl T.g_NoDeed⟩ (fun a oe cls d pn hz hf => (pss_one (ps_set (i := 4) sc__answered.nd rfl (.inl rfl) pe_str)))
      .nil)))))))))))
    (pss_one (ps_ret (pe_tup (pa_cons (pv 0) (pa_cons (pe_tup (pa_cons (pv 4) (pa_cons (pe_lst pa_nil) pa_nil))) pa_nil)))))), ?_⟩
    refine ⟨fun σ' H' => ∃ y2 y3, σ' = [some (.ref t), some x, y2, y3, some (.str (ansW (wordD ps d)))] ∧ Ex H H' ∧ wordD ps d ≠ "", ?_, ?_⟩
    · refine ⟨_, rfl, _, rfl, t, x, xs, ps, d, rfl, ht, hp, hT, hd, ⟨fun h H2 e2 => ?_, fun h H2 e2 => ?_, fun h H2 e2 => ?_, fun h H2 e2 => ?_, fun h H2 e2 => ?_, fun h H2 e2 => ?_, fun h H2 e2 => ?_, fun h H2 e2 => ?_, fun h H2 e2 => ?_, fun h H2 e2 => ?_⟩, fun hw => ?_⟩
      · refine ⟨true, exm_mk T.b_NoKind T.i_NoKind T.t_NoKind T.u_NoKind_NoKind, (fun _ x hx => ?_), fun z => nomatch z⟩
        exact ⟨_, _, by rw [h]; rfl, e2, by rw [h]; decide⟩
      · refine ⟨false, exm_mk T.b_NoKind T.i_NoKind T.t_NoKind T.u_Twice_NoKind, (fun z => nomatch z), fun _ => ?_⟩
        refine ⟨true, exm_mk T.b_Twice T.i_Twice T.t_Twice T.u_Twice_Twice, (fun _ x hx => ?_), fun z => nomatch z⟩
        exact ⟨_, _, by rw [h]; rfl, e2, by rw [h]; decide⟩
      · refine ⟨false, exm_mk T.b_NoKind T.i_NoKind T.t_NoKind T.u_NoCount_NoKind, (fun z => nomatch z), fun _ => ?_⟩
        refine ⟨false, exm_mk T.b_Twice T.i_Twice T.t_Twice T.u_NoCount_Twice, (fun z => nomatch z), fun _ => ?_⟩
        refine ⟨true, exm_mk T.b_NoCount T.i_NoCount T.t_NoCount T.u_NoCount_NoCount, (fun _ x hx => ?_), fun z => nomatch z⟩
        exact ⟨_, _, by rw [h]; rfl, e2, by rw [h]; decide⟩
      · refine ⟨false, exm_mk T.b_NoKind T.i_NoKind T.t_NoKind T.u_NoTill_NoKind, (fun z => nomatch z), fun _ => ?_⟩
        refine ⟨false, exm_mk T.b_Twice T.i_Twice T.t_Twice T.u_NoTill_Twice, (fun z => nomatch z), fun _ => ?_⟩
        refine ⟨false, exm_mk T.b_NoCount T.i_NoCount T.t_NoCount T.u_NoTill_NoCount, (fun z => nomatch z), fun _ => ?_⟩
        refine ⟨true, exm_mk T.b_NoTill T.i_NoTill T.t_NoTill T.u_NoTill_NoTill, (fun _ x hx => ?_), fun z => nomatch z⟩
        exact ⟨_, _, by rw [h]; rfl, e2, by rw [h]; decide⟩
      · refine ⟨false, exm_mk T.b_NoKind T.i_NoKind T.t_NoKind T.u_NoSum_NoKind, (fun z => nomatch z), fun _ => ?_⟩
        refine ⟨false, exm_mk T.b_Twice T.i_Twice T.t_Twice T.u_NoSum_Twice, (fun z => nomatch z), fun _ => ?_⟩
        refine ⟨false, exm_mk T.b_NoCount T.i_NoCount T.t_NoCount T.u_NoSum_NoCount, (fun z => nomatch z), fun _ => ?_⟩
        refine ⟨false, exm_mk T.b_NoTill T.i_NoTill T.t_NoTill T.u_NoSum_NoTill, (fun z => nomatch z), fun _ => ?_⟩
        refine ⟨true, exm_mk T.b_NoSum T.i_NoSum T.t_NoSum T.u_NoSum_NoSum, (fun _ x hx => ?_), fun z => nomatch z⟩
        exact ⟨_, _, by rw [h]; rfl, e2, by rw [h]; decide⟩
      · refine ⟨false, exm_mk T.b_NoKind T.i_NoKind T.t_NoKind T.u_TooLittle_NoKind, (fun z => nomatch z), fun _ => ?_⟩
        refine ⟨false, exm_mk T.b_Twice T.i_Twice T.t_Twice T.u_TooLittle_Twice, (fun z => nomatch z), fun _ => ?_⟩
        refine ⟨false, exm_mk T.b_NoCount T.i_NoCount T.t_NoCount T.u_TooLittle_NoCount, (fun z => nomatch z), fun _ => ?_⟩
        refine ⟨false, exm_mk T.b_NoTill T.i_NoTill T.t_NoTill T.u_TooLittle_NoTill, (fun z => nomatch z), fun _ => ?_⟩
        refine ⟨false, exm_mk T.b_NoSum T.i_NoSum T.t_NoSum T.u_TooLittle_NoSum, (fun z => nomatch z), fun _ => ?_⟩
        refine ⟨true, exm_mk T.b_TooLittle T.i_TooLittle T.t_TooLittle T.u_TooLittle_TooLittle, (fun _ x hx => ?_), fun z => nomatch z⟩
        exact ⟨_, _, by rw [h]; rfl, e2, by rw [h]; decide⟩
      · refine ⟨false, exm_mk T.b_NoKind T.i_NoKind T.t_NoKind T.u_NoChange_NoKind, (fun z => nomatch z), fun _ => ?_⟩
        refine ⟨false, exm_mk T.b_Twice T.i_Twice T.t_Twice T.u_NoChange_Twice, (fun z => nomatch z), fun _ => ?_⟩
        refine ⟨false, exm_mk T.b_NoCount T.i_NoCount T.t_NoCount T.u_NoChange_NoCount, (fun z => nomatch z), fun _ => ?_⟩
        refine ⟨false, exm_mk T.b_NoTill T.i_NoTill T.t_NoTill T.u_NoChange_NoTill, (fun z => nomatch z), fun _ => ?_⟩
        refine ⟨false, exm_mk T.b_NoSum T.i_NoSum T.t_NoSum T.u_NoChange_NoSum, (fun z => nomatch z), fun _ => ?_⟩
        refine ⟨false, exm_mk T.b_TooLittle T.i_TooLittle T.t_TooLittle T.u_NoChange_TooLittle, (fun z => nomatch z), fun _ => ?_⟩
        refine ⟨true, exm_mk T.b_NoChange T.i_NoChange T.t_NoChange T.u_NoChange_NoChange, (fun _ x hx => ?_), fun z => nomatch z⟩
        exact ⟨_, _, by rw [h]; rfl, e2, by rw [h]; decide⟩
      · refine ⟨false, exm_mk T.b_NoKind T.i_NoKind T.t_NoKind T.u_TooFew_NoKind, (fun z => nomatch z), fun _ => ?_⟩
        refine ⟨false, exm_mk T.b_Twice T.i_Twice T.t_Twice T.u_TooFew_Twice, (fun z => nomatch z), fun _ => ?_⟩
        refine ⟨false, exm_mk T.b_NoCount T.i_NoCount T.t_NoCount T.u_TooFew_NoCount, (fun z => nomatch z), fun _ => ?_⟩
        refine ⟨false, exm_mk T.b_NoTill T.i_NoTill T.t_NoTill T.u_TooFew_NoTill, (fun z => nomatch z), fun _ => ?_⟩
        refine ⟨false, exm_mk T.b_NoSum T.i_NoSum T.t_NoSum T.u_TooFew_NoSum, (fun z => nomatch z), fun _ => ?_⟩
        refine ⟨false, exm_mk T.b_TooLittle T.i_TooLittle T.t_TooLittle T.u_TooFew_TooLittle, (fun z => nomatch z), fun _ => ?_⟩
        refine ⟨false, exm_mk T.b_NoChange T.i_NoChange T.t_NoChange T.u_TooFew_NoChange, (fun z => nomatch z), fun _ => ?_⟩
        refine ⟨true, exm_mk T.b_TooFew T.i_TooFew T.t_TooFew T.u_TooFew_TooFew, (fun _ x hx => ?_), fun z => nomatch z⟩
        exact ⟨_, _, by rw [h]; rfl, e2, by rw [h]; decide⟩
      · refine ⟨false, exm_mk T.b_NoKind T.i_NoKind T.t_NoKind T.u_StillHeld_NoKind, (fun z => nomatch z), fun _ => ?_⟩
        refine ⟨false, exm_mk T.b_Twice T.i_Twice T.t_Twice T.u_StillHeld_Twice, (fun z => nomatch z), fun _ => ?_⟩
        refine ⟨false, exm_mk T.b_NoCount T.i_NoCount T.t_NoCount T.u_StillHeld_NoCount, (fun z => nomatch z), fun _ => ?_⟩
        refine ⟨false, exm_mk T.b_NoTill T.i_NoTill T.t_NoTill T.u_StillHeld_NoTill, (fun z => nomatch z), fun _ => ?_⟩
        refine ⟨false, exm_mk T.b_NoSum T.i_NoSum T.t_NoSum T.u_StillHeld_NoSum, (fun z => nomatch z), fun _ => ?_⟩
        refine ⟨false, exm_mk T.b_TooLittle T.i_TooLittle T.t_TooLittle T.u_StillHeld_TooLittle, (fun z => nomatch z), fun _ => ?_⟩
        refine ⟨false, exm_mk T.b_NoChange T.i_NoChange T.t_NoChange T.u_StillHeld_NoChange, (fun z => nomatch z), fun _ => ?_⟩
        refine ⟨false, exm_mk T.b_TooFew T.i_TooFew T.t_TooFew T.u_StillHeld_TooFew, (fun z => nomatch z), fun _ => ?_⟩
        refine ⟨true, exm_mk T.b_StillHeld T.i_StillHeld T.t_StillHeld T.u_StillHeld_StillHeld, (fun _ x hx => ?_), fun z => nomatch z⟩
        exact ⟨_, _, by rw [h]; rfl, e2, by rw [h]; decide⟩
      · refine ⟨false, exm_mk T.b_NoKind T.i_NoKind T.t_NoKind T.u_NoDeed_NoKind, (fun z => nomatch z), fun _ => ?_⟩
        refine ⟨false, exm_mk T.b_Twice T.i_Twice T.t_Twice T.u_NoDeed_Twice, (fun z => nomatch z), fun _ => ?_⟩
        refine ⟨false, exm_mk T.b_NoCount T.i_NoCount T.t_NoCount T.u_NoDeed_NoCount, (fun z => nomatch z), fun _ => ?_⟩
        refine ⟨false, exm_mk T.b_NoTill T.i_NoTill T.t_NoTill T.u_NoDeed_NoTill, (fun z => nomatch z), fun _ => ?_⟩
        refine ⟨false, exm_mk T.b_NoSum T.i_NoSum T.t_NoSum T.u_NoDeed_NoSum, (fun z => nomatch z), fun _ => ?_⟩
        refine ⟨false, exm_mk T.b_TooLittle T.i_TooLittle T.t_TooLittle T.u_NoDeed_TooLittle, (fun z => nomatch z), fun _ => ?_⟩
        refine ⟨false, exm_mk T.b_NoChange T.i_NoChange T.t_NoChange T.u_NoDeed_NoChange, (fun z => nomatch z), fun _ => ?_⟩
        refine ⟨false, exm_mk T.b_TooFew T.i_TooFew T.t_TooFew T.u_NoDeed_TooFew, (fun z => nomatch z), fun _ => ?_⟩
        refine ⟨false, exm_mk T.b_StillHeld T.i_StillHeld T.t_StillHeld T.u_NoDeed_StillHeld, (fun z => nomatch z), fun _ => ?_⟩
        refine ⟨true, exm_mk T.b_NoDeed T.i_NoDeed T.t_NoDeed T.u_NoDeed_NoDeed, (fun _ x hx => ?_), fun z => nomatch z⟩
        exact ⟨_, _, by rw [h]; rfl, e2, by rw [h]; decide⟩
      · intro l b g ys zs H2 e2 hl hb hg nlb nlg nbg el eb eg hys hzs
        refine ⟨l, _, rfl, .of el, rfl, _, _, rfl, _, _, rfl, rfl, ?_⟩
        refine ⟨_, rfl, _, rfl, len63 (by show 2 ≤ _; decide), fun an han => ?_⟩
        (generalize hh : upd H2 an _ = H3; have e3 : Ex H2 H3 := (by rw [← hh]; exact Ex.nw han); have can := (show H3 an = some _ by rw [← hh]; exact upd_same); clear hh)
        refine ⟨len63 (by show 2 ≤ _; decide), fun l2 hl2 => ?_⟩
        have n2 := Ex.nw (o := .tup [.ref b, .ref an]) hl2
        have e23 := e2.tr e3
        refine q l2 b an g ys zs _ (e23.tr n2) (none_back e23 hl2) (none_back e2 han) hg (.inr hb) nbg upd_same ?_ (n2 _ _ (e3 _ _ eb)) (n2 _ _ (e3 _ _ eg)) ?_ ?_
        · rw [hw]
          exact n2 _ _ can
        · unfold behD
          rw [if_pos hw]
          exact (hys.ex e3).ex n2
        · unfold givD
          rw [if_pos hw]
          exact (hzs.ex e3).ex n2
    rintro σ' H1 ⟨y2, y3, rfl, e1, hw⟩
    refine ⟨_, rfl, _, rfl, Nat.zero_le _, fun g hg => ?_⟩
    (generalize hh : upd H1 g _ = H2; have e2 : Ex H1 H2 := (by rw [← hh]; exact Ex.nw hg); have cg := (show H2 g = some _ by rw [← hh]; exact upd_same); clear hh)
    refine ⟨len63 (by show 2 ≤ _; decide), fun an han => ?_⟩
    (generalize hh : upd H2 an _ = H3; have e3 : Ex H2 H3 := (by rw [← hh]; exact Ex.nw han); have can := (show H3 an = some _ by rw [← hh]; exact upd_same); clear hh)
    refine ⟨len63 (by show 2 ≤ _; decide), fun l2 hl2 => ?_⟩
    have n2 := Ex.nw (o := .tup [.ref t, .ref an]) hl2
    have e13 := e2.tr e3
    have ht1 := e1 _ _ ht
    refine q l2 t an g xs [] _ ((e1.tr e13).tr n2) (none_back (e1.tr e13) hl2) (none_back (e1.tr e2) han) (none_back e1 hg) (.inl rfl) (ne_of_none ht1 hg) upd_same (n2 _ _ can) (n2 _ _ (e13 _ _ ht1)) (n2 _ _ (e3 _ _ cg)) ?_ ?_
    · unfold behD
      rw [if_neg hw]
      exact ((hp.ex e1).ex e13).ex n2
    · unfold givD
      rw [if_neg hw]
      exact .nil
/-! ### a day -/
inductive AnsAt (H : Hp) : List V → List Ans → List Addr → Prop
  | nil : AnsAt H [] [] []
  | cons {an g : Addr} {ys : List V} {a : Ans} {xs : List V} {as : List Ans} {gs : List Addr} : H an = some (.tup [.str a.1, .ref g]) → H g = some (.lst ys) → Prs H ys a.2 → AnsAt H xs as gs → AnsAt H (.ref an :: xs) (a :: as) (g :: gs)
theorem AnsAt.ex {H H' : Hp} (e : Ex H H') : ∀ {xs : List V} {as : List Ans} {gs : List Addr}, AnsAt H xs as gs → AnsAt H' xs as gs
  | _, _, _, .nil => .nil
  | _, _, _, .cons h1 h2 h3 r => .cons (e _ _ h1) (e _ _ h2) (h3.ex e) (AnsAt.ex e r)
theorem AnsAt.snoc {H : Hp} {an g : Addr} {ys : List V} {a : Ans} (h1 : H an = some (.tup [.str a.1, .ref g])) (h2 : H g = some (.lst ys)) (h3 : Prs H ys a.2) : ∀ {xs : List V} {as : List Ans} {gs : List Addr}, AnsAt H xs as gs → AnsAt H (xs ++ [.ref an]) (as ++ [a]) (gs ++ [g])
  | _, _, _, .nil => .cons h1 h2 h3 .nil
  | _, _, _, .cons a b c r => .cons a b c (AnsAt.snoc h1 h2 h3 r)
theorem AnsAt.up {H : Hp} {f : Addr} {o : HO} (hf : ∀ ys, H f ≠ some (.tup ys)) {xs : List V} {as : List Ans} {gs : List Addr} (hn : f ∉ gs) (h : AnsAt H xs as gs) : AnsAt (upd H f o) xs as gs := by
  induction h with
  | nil => exact .nil
  | cons h1 h2 h3 _ ih =>
    refine .cons ?_ ?_ (h3.up hf) (ih fun z => hn (List.mem_cons_of_mem _ z))
    · rw [upd_ne fun e => hf _ (e ▸ h1)]
      exact h1
    · rw [upd_ne fun e => hn (by rw [← e]; exact List.mem_cons_self)]
      exact h2
theorem AnsAt.len {H : Hp} : ∀ {xs : List V} {as : List Ans} {gs : List Addr}, AnsAt H xs as gs → xs.length = as.length ∧ gs.length = as.length
  | _, _, _, .nil => ⟨rfl, rfl⟩
  | _, _, _, .cons _ _ _ r => by
    have := AnsAt.len r
    exact ⟨congrArg (· + 1) this.1, congrArg (· + 1) this.2⟩
theorem AnsAt.mem {H : Hp} : ∀ {xs : List V} {as : List Ans} {gs : List Addr} {g : Addr}, AnsAt H xs as gs → g ∈ gs → ∃ ys, H g = some (.lst ys)
  | _, _, _, _, .nil, h => by cases h
  | _, _, _, _, .cons _ h2 _ r, h => by
    rcases List.mem_cons.mp h with e | e
    · exact ⟨_, e ▸ h2⟩
    · exact AnsAt.mem r e
theorem AnsAt.get {H : Hp} : ∀ {xs : List V} {as : List Ans} {gs : List Addr} {i : Nat} {x : V}, AnsAt H xs as gs → xs[i]? = some x → ∃ an g ys a, x = .ref an ∧ as[i]? = some a ∧ gs[i]? = some g ∧ H an = some (.tup [.str a.1, .ref g]) ∧ H g = some (.lst ys) ∧ Prs H ys a.2
  | _, _, _, _, _, .nil, e => by simp at e
  | _, _, _, 0, _, .cons h1 h2 h3 _, e => by simp at e; subst e; exact ⟨_, _, _, _, rfl, rfl, rfl, h1, h2, h3⟩
  | _, _, _, i + 1, x, .cons _ _ _ r, e => by
    obtain ⟨an, g, ys, a, h1, h2, h3, h4⟩ := AnsAt.get (i := i) (x := x) r (by simpa using e)
    exact ⟨an, g, ys, a, h1, by simpa using h2, by simpa using h3, h4⟩
def DeedsAt (H : Hp) : List V → List Deed → Prop := Paired fun x d => DeedAt H x d
theorem DeedsAt.ex {H H' : Hp} (e : Ex H H') : ∀ {xs : List V} {ds : List Deed}, DeedsAt H xs ds → DeedsAt H' xs ds
  | _, _, .nil => .nil
  | _, _, .cons h r => .cons (h.ex e) (DeedsAt.ex e r)
theorem DeedsAt.get {H : Hp} : ∀ {xs : List V} {ds : List Deed} {i : Nat} {x : V}, DeedsAt H xs ds → xs[i]? = some x → ∃ d, ds[i]? = some d ∧ DeedAt H x d
  | _, _, _, _, .nil, e => by simp at e
  | _, _, 0, _, .cons h _, e => by simp at e; subst e; exact ⟨_, by simp, h⟩
  | _, _, i + 1, x, .cons _ r, e => by
    obtain ⟨d, h1, h2⟩ := DeedsAt.get (i := i) (x := x) r (by simpa using e)
    exact ⟨d, by simpa using h1, h2⟩
theorem DeedsAt.len {H : Hp} {xs : List V} {ds : List Deed} (h : DeedsAt H xs ds) : xs.length = ds.length := Paired.length h
def NewDay (ps : List (Int × Int)) (ds : List Deed) (H : Hp) (Q : VK) : Prop := ∀ l b A xs as gs H2, Ex H H2 → H l = none → H b = none → H A = none → (∀ g ∈ gs, H g = none) → gs.Nodup → b ∉ gs → A ∉ gs → l ∉ gs → b ≠ A → l ≠ b → l ≠ A → H2 l = some (.tup [.ref b, .ref A]) → H2 b = some (.lst xs) → H2 A = some (.lst as) → Prs H2 xs (foldD ps ds) → AnsAt H2 as (answers ps ds) gs → Q (.ref l) H2
def spDay (K : PySem.W.Frag) : Sp := fun vs H Q _ => ∃ (t dl : Addr) (xs ws : List V) (ps : List (Int × Int)) (ds : List Deed), vs = [.ref t, .ref dl] ∧ H t = some (.lst xs) ∧ Prs H xs ps ∧ Tl ps ∧ SqL K H dl ws ∧ DeedsAt H ws ds ∧ ds.length ≤ 1000 ∧ NewDay ps ds H Q
theorem ok_day (T : Tx K mg) : FnOk P w K mg base CX0 8 T.a_day T.d_day P_day (spDay K) := by
  have G__answered := ok_answered (P := P) (w := w) (base := base) T
  refine T.f_day.ok sc_day (fun vs H Q E h => ?_) (fun cdv A outer s H vs Q E hr h => ?_)
  · obtain ⟨t, dl, xs, ws, ps, ds, rfl, _⟩ := h
    rfl
  · obtain ⟨t, dl, xs, ws, ps, ds, rfl, ht, hp, hT, hS, hds, hl, q⟩ := h
    refine ⟨_, (pss_cons (ps_set (i := 2) sc_day.nd rfl (.inl rfl) (pe_callTy call_list_of (by rfl) T.m_list (by decide +kernel) (pa_cons (pv 0) pa_nil)))
    (pss_cons (ps_set (i := 3) sc_day.nd rfl (.inl rfl) (pe_lst pa_nil))
    (pss_cons (ps_for PassesOwn.never rfl (pi_list (pv 1)) (pg_name (i := 4) sc_day.nd rfl (.inl rfl))
      (pss_cons (ps_asg (pe_call G__answered (hr.mono (by decide)) (by rfl) T.g__answered T.f__answered.kp T.p__answered .nil pass0 (pa_cons (pv 2) (pa_cons (pv 4) pa_nil))) (pg_tup rfl (pgs_cons (pg_name (i := 2) sc_day.nd rfl (.inl rfl)) (pgs_cons (pg_name (i := 5) sc_day.nd rfl (.inl rfl)) pgs_nil))))
      (pss_one (ps_expr (pe_bm PySem.F.plainAttrs_list PySem.F.slot_list_append PySem.F.type_list_append mt_append (pv 3) (pa_cons (pv 5) pa_nil))))))
    (pss_one (ps_ret (pe_tup (pa_cons (pv 2) (pa_cons (pv 3) pa_nil)))))))), ?_⟩
    refine ⟨_, rfl, t, xs, rfl, .inl (.of ht), fun b0 hb0 => ?_⟩
    (generalize hh : upd H b0 _ = H1; have e1 : Ex H H1 := (by rw [← hh]; exact Ex.nw hb0); have cb0 := (show H1 b0 = some _ by rw [← hh]; exact upd_same); clear hh)
    refine ⟨Nat.zero_le _, fun A hA => ?_⟩
    have hA0 : H A = none := none_back e1 hA
    have nbA : b0 ≠ A := ne_of_none cb0 hA
    have e2 := e1.tr (Ex.nw (o := .lst []) hA)
    have hwl := hds.len
    refine ⟨_, rfl, dl, rfl, ⟨ws, e2.seq hS⟩, for_list (xs := ws) (fun i σ H' => ∃ (b : Addr) (bs as : List V) (gs : List Addr) (y4 y5 : Option V), σ = [some (.ref t), some (.ref dl), some (.ref b), some (.ref A), y4, y5] ∧ Ex H H' ∧ H b = none ∧ b ≠ A ∧ H' b = some (.lst bs) ∧ H' A = some (.lst as) ∧ Prs H' bs (foldD ps (ds.take i)) ∧ AnsAt H' as (answers ps (ds.take i)) gs ∧ (∀ g ∈ gs, H g = none) ∧ gs.Nodup ∧ b ∉ gs ∧ A ∉ gs)
      ⟨b0, xs, [], [], _, _, rfl, e2, hb0, nbA, (Ex.nw hA) _ _ cb0, upd_same, (hp.ex e1).ex (Ex.nw hA), .nil, by simp, List.nodup_nil, by simp, by simp⟩ (fun i σ H' _ h => by
        obtain ⟨_, _, _, _, _, _, _, e, _⟩ := h
        exact e.seq hS) ?_ ?_⟩
    · rintro i x σ H2 hx ⟨b, bs, as, gs, y4, y5, rfl, ex, hb, nb, eb, eA, hbs, has, hgs, hnd, hbg, hAg⟩
      obtain ⟨d, hd, hda⟩ := hds.get hx
      have hi : i < ds.length := (List.getElem?_eq_some_iff.mp hd).1
      refine ⟨_, rfl, _, rfl, b, x, bs, foldD ps (ds.take i), d, rfl, eb, hbs, foldD_tl hT _, hda.ex ex, ?_⟩
      intro l b2 an g xs2 ys2 H3 e3 hl3 han hg hb2 nbg el ean eb2 eg hb2s hgs2
      refine ⟨l, _, rfl, .of el, rfl, _, _, rfl, _, _, rfl, rfl, ?_⟩
      have eA3 := e3 _ _ eA
      have nAg : A ≠ g := ne_of_none eA hg
      refine ⟨_, rfl, .inl ⟨rfl, _, .of eA3⟩, _, rfl, A, as, _, rfl, rfl, eA3, len63' (by have := has.len.1; rw [answers_len, List.length_take] at this; omega), ?_⟩
      have hAt : ∀ ys, H3 A ≠ some (.tup ys) := fun ys z => by rw [eA3] at z; cases z
      have has3 := has.ex e3
      have nb2A : b2 ≠ A := by
        rcases hb2 with rfl | z
        · exact nb
        · exact (ne_of_none eA z).symm
      refine ⟨b2, xs2, as ++ [.ref an], gs ++ [g], _, _, rfl, Ex.mu (ex.tr e3) hA0, ?_, nb2A, by rw [upd_ne nb2A]; exact eb2, upd_same, ?_, ?_, ?_, ?_, ?_, ?_⟩
      · rcases hb2 with rfl | z
        · exact hb
        · exact none_back ex z
      · rw [take_snoc hd, foldD_snoc]
        exact hb2s.up hAt
      · rw [take_snoc hd, answers_snoc]
        have r := AnsAt.up (f := A) (o := .lst (as ++ [.ref an])) hAt hAg has3
        refine AnsAt.snoc (a := ansD (foldD ps (ds.take i)) d) ?_ ?_ (hgs2.up hAt) r
        · rw [upd_ne fun z => hAt _ (z ▸ ean)]
          exact ean
        · rw [upd_ne nAg.symm]
          exact eg
      · intro g' hg'
        rcases List.mem_append.mp hg' with z | z
        · exact hgs g' z
        · rw [List.mem_singleton.mp z]
          exact none_back ex hg
      · refine nd_snoc hnd fun z => ?_
        obtain ⟨ys', e⟩ := has.mem z
        rw [hg] at e
        cases e
      · intro z
        rcases List.mem_append.mp z with y | y
        · rcases hb2 with rfl | w
          · exact hbg y
          · obtain ⟨ys', e⟩ := has.mem y
            rw [w] at e
            cases e
        · exact nbg (List.mem_singleton.mp y)
      · intro z
        rcases List.mem_append.mp z with y | y
        · exact hAg y
        · exact nAg (List.mem_singleton.mp y)
    · rintro σ H2 ⟨b, bs, as, gs, y4, y5, rfl, ex, hb, nb, eb, eA, hbs, has, hgs, hnd, hbg, hAg⟩
      rw [List.take_of_length_le (by omega)] at hbs has
      refine ⟨_, rfl, _, rfl, len63 (by show 2 ≤ _; decide), fun l hl => ?_⟩
      have n1 := Ex.nw (o := .tup [.ref b, .ref A]) hl
      refine q l b A bs as gs _ (ex.tr n1) (none_back ex hl) hb hA0 hgs hnd hbg hAg (fun z => ?_) nb (ne_of_none eb hl).symm (ne_of_none eA hl).symm upd_same (n1 _ _ eb) (n1 _ _ eA) (hbs.ex n1) (has.ex n1)
      obtain ⟨ys', e⟩ := has.mem z
      rw [hl] at e
      cases e
--@split
/-- a test that is decided, told once -/
theorem ifs_true {t : TT} {a b : TS} {D : Ends} {σ : L2.St} {H : Hp} (ht : ∀ Q : Bool → Hp → Prop, Q true H → t σ H Q) (ha : a D σ H) : tIfS t a b D σ H :=
  ht _ (show if true = true then a D σ H else b D σ H by rw [if_pos rfl]; exact ha)
theorem ifs_false {t : TT} {a b : TS} {D : Ends} {σ : L2.St} {H : Hp} (ht : ∀ Q : Bool → Hp → Prop, Q false H → t σ H Q) (hb : b D σ H) : tIfS t a b D σ H :=
  ht _ (show if false = true then a D σ H else b D σ H by rw [if_neg (by decide)]; exact hb)
theorem test_is {t : TT} {b : Bool} {σ : L2.St} {H : Hp} {F : Bool → Hp → Prop} (ht : ∀ Q : Bool → Hp → Prop, Q b H → t σ H Q) (hf : F b H) : t σ H F := ht F hf
/-! ### what the law holds, kind by kind -/
theorem val_dk (hs : List (Int × Int)) (v : Int) : valV (dkP hs) (Sum.inl v) = (countIn hs v).map V.int := by
  induction hs with
  | nil => rfl
  | cons p hs ih =>
    rw [countIn_cons]
    by_cases e : p.1 = v
    · rw [if_pos e]
      exact valV_pos (p := (Sum.inl p.1, V.int p.2)) (congrArg Sum.inl e)
    · rw [if_neg e, ← ih]
      exact valV_neg (p := (Sum.inl p.1, V.int p.2)) fun z => e (Sum.inl.inj z)
theorem countIn_perm {hs ps : List (Int × Int)} (nd : (ps.map (·.1)).Nodup) (h : hs.Perm ps) (v : Int) : countIn hs v = countIn ps v := by
  have nd2 : (hs.map (·.1)).Nodup := (h.map _).nodup_iff.mpr nd
  cases e : countIn hs v with
  | some t => exact (countIn_nd nd (h.mem_iff.mp (countIn_mem e))).symm
  | none =>
    cases e2 : countIn ps v with
    | none => rfl
    | some t =>
      have := countIn_nd nd2 (h.mem_iff.mpr (countIn_mem e2))
      rw [show ((v, t) : Int × Int).1 = v from rfl, e] at this
      cases this
theorem put_dk {hs : List (Int × Int)} {v t n : Int} (nd : (hs.map (·.1)).Nodup) (h : countIn hs v = some t) : putK (dkP hs) (Sum.inl v) (V.int n) = dkP (addC hs v (n - t)) := by
  unfold putK
  rw [valV_any, val_dk, h, if_pos (show (Option.map V.int (some t)).isSome = true from rfl)]
  unfold dkP addC
  rw [List.map_map, List.map_map]
  refine List.map_congr_left fun p hp => ?_
  show (if (Sum.inl p.1 : Key) = Sum.inl v then ((Sum.inl p.1 : Key), V.int n) else (Sum.inl p.1, V.int p.2)) = (Sum.inl (if p.1 = v then (p.1, p.2 + (n - t)) else p).1, V.int (if p.1 = v then (p.1, p.2 + (n - t)) else p).2)
  by_cases e : p.1 = v
  · have h1 := countIn_nd nd hp
    rw [e, h] at h1
    have := Option.some.inj h1
    rw [if_pos (congrArg Sum.inl e), if_pos e]
    congr 2
    omega
  · rw [if_neg fun z => e (Sum.inl.inj z), if_neg e]
theorem put_new_dk {hs : List (Int × Int)} {v n : Int} (h : countIn hs v = none) : putK (dkP hs) (Sum.inl v) (V.int n) = dkP (hs ++ [(v, n)]) := by
  rw [putK_new _ (by rw [val_dk, h]; rfl)]
  unfold dkP
  rw [List.map_append]
  rfl
theorem drop_dk (hs : List (Int × Int)) (v : Int) : dropK (dkP hs) (Sum.inl v) = dkP (hs.filter fun p => decide (p.1 ≠ v)) := by
  unfold dropK dkP
  rw [List.filter_map]
  congr 1
  refine List.filter_congr fun p _ => ?_
  by_cases e : p.1 = v
  · have h1 : (Sum.inl p.1 : Key) = Sum.inl v := congrArg Sum.inl e
    simp [e]
  · simp [e]
theorem addC_perm {hs ps : List (Int × Int)} (h : hs.Perm ps) (v d : Int) : (addC hs v d).Perm (addC ps v d) := h.map _
theorem dkP_len (hs : List (Int × Int)) : (dkP hs).length = hs.length := List.length_map _
/-- the heap behind, but for the one object -/
def Fr (d : Addr) (H H2 : Hp) : Prop := ∀ z o, z ≠ d → H z = some o → H2 z = some o
theorem Fr.rfl' {d : Addr} {H : Hp} : Fr d H H := fun _ _ _ h => h
theorem Fr.tr {d : Addr} {H H1 H2 : Hp} (a : Fr d H H1) (b : Fr d H1 H2) : Fr d H H2 := fun z o hz h => b z o hz (a z o hz h)
theorem Fr.ex {d : Addr} {H H2 : Hp} (e : Ex H H2) : Fr d H H2 := fun z o _ h => e z o h
theorem Fr.upd {d : Addr} {H : Hp} {o : HO} : Fr d H (upd H d o) := fun z o' hz h => by rw [upd_ne hz]; exact h
theorem Prs.fr {d : Addr} {H H2 : Hp} (f : Fr d H H2) (hd : ∀ zs, H d ≠ some (.tup zs)) {xs : List V} {ps : List (Int × Int)} (h : Prs H xs ps) : Prs H2 xs ps := h.keep fun t zs ht => f t _ (fun e => hd _ (e ▸ ht)) ht
theorem DeedAt.fr {d : Addr} {H H2 : Hp} (f : Fr d H H2) {kvs : List (Key × V)} (hd : H d = some (.dK kvs)) {x : V} : ∀ {dd : Deed}, DeedAt H x dd → DeedAt H2 x dd := by
  have hn : ∀ t o, H t = some o → (∀ kvs, o ≠ .dK kvs) → H2 t = some o := fun t o ht hk => f t o (fun e => by rw [e, hd] at ht; exact hk _ (Option.some.inj ht).symm) ht
  intro dd h
  cases dd with
  | paid c vals =>
    obtain ⟨t, u, a, b, c⟩ := h
    exact ⟨t, u, a, hn _ _ b (fun _ z => nomatch z), hn _ _ c (fun _ z => nomatch z)⟩
  | brought v c =>
    obtain ⟨t, a, b⟩ := h
    exact ⟨t, a, hn _ _ b (fun _ z => nomatch z)⟩
  | fetched v c =>
    obtain ⟨t, a, b⟩ := h
    exact ⟨t, a, hn _ _ b (fun _ z => nomatch z)⟩
  | kin v =>
    obtain ⟨t, a, b⟩ := h
    exact ⟨t, a, hn _ _ b (fun _ z => nomatch z)⟩
  | kout v =>
    obtain ⟨t, a, b⟩ := h
    exact ⟨t, a, hn _ _ b (fun _ z => nomatch z)⟩
  | other z xs =>
    obtain ⟨t, a, b, c⟩ := h
    exact ⟨t, a, hn _ _ b (fun _ z => nomatch z), c⟩
/-- what is held, behind a deed -/
def NewHeld (d : Addr) (ps : List (Int × Int)) (dd : Deed) (H : Hp) (Q : Hp → Prop) : Prop := ∀ hs' H2, H2 d = some (.dK (dkP hs')) → Fr d H H2 → hs'.Perm (behD ps dd) → Q H2
/-! ### the law's deeds: moved, kinds -/
def spMv_brought (K : PySem.W.Frag) : Sp := fun vs H Q _ => ∃ (d t1 : Addr) (hs ps : List (Int × Int)) (v c : Int), vs = [.ref d, .ref t1] ∧ H d = some (.dK (dkP hs)) ∧ hs.Perm ps ∧ Tl ps ∧ H t1 = some (.tup [.str "brought", .int v, .int c]) ∧ NewHeld d ps (.brought v c) H (fun H2 => Q (.str (ansW (wordD ps (.brought v c)))) H2)
def spMv_fetched (K : PySem.W.Frag) : Sp := fun vs H Q _ => ∃ (d t1 : Addr) (hs ps : List (Int × Int)) (v c : Int), vs = [.ref d, .ref t1] ∧ H d = some (.dK (dkP hs)) ∧ hs.Perm ps ∧ Tl ps ∧ H t1 = some (.tup [.str "fetched", .int v, .int c]) ∧ NewHeld d ps (.fetched v c) H (fun H2 => Q (.str (ansW (wordD ps (.fetched v c)))) H2)
def spMoved (K : PySem.W.Frag) : Sp := fun vs H Q E => spMv_brought K vs H Q E ∨ spMv_fetched K vs H Q E
theorem ok_moved (T : Tx K mg) : FnOk P w K mg base CX0 1 T.a__law_moved T.d__law_moved P__law_moved (spMoved K) := by
  refine T.f__law_moved.ok sc__law_moved (fun vs H Q E h => ?_) (fun cdv A outer s H vs Q E hr h => ?_)
  · rcases h with h | h
    · obtain ⟨d, t1, hs, ps, v, c, rfl, _⟩ := h
      rfl
    · obtain ⟨d, t1, hs, ps, v, c, rfl, _⟩ := h
      rfl
  · refine ⟨_, (pss_cons (ps_set (i := 2) sc__law_moved.nd rfl (.inl rfl) (pe_ix ix_tup (pv 1) pe_int (fun _ _ => rfl)))
    (pss_cons (ps_if (pt_cmp (pc_dnotin (hu_of hr) (pv 2) (pv 0)))
      (pss_one (ps_ret pe_str))
      pss_nil)
    (pss_cons (ps_set (i := 3) sc__law_moved.nd rfl (.inl rfl) (pe_ix ix_tup (pv 1) pe_int (fun _ _ => rfl)))
    (pss_cons (ps_if (PW.pt (pw_or (pt_cmpR op_lt (pv 3) pe_int (nomark _)) (pw_or (pt_cmpR op_gt (pv 3) (pe_op op_pow pe_int pe_int) (nomark _)) (pw_or1 (PW.pt (pw_and (pt_cmpR op_eq (pe_ix ix_tup (pv 1) pe_int (fun _ _ => rfl)) pe_str (nomark _)) (pw_and1 (pt_cmpR op_gt (pe_op op_add (pe_dget (hu_of hr) (pv 0) (pv 2) (fun _ _ => rfl)) (pv 3)) (pe_op op_pow pe_int pe_int) (nomark _)))))))))
      (pss_one (ps_ret pe_str))
      pss_nil)
    (pss_cons (ps_if (PW.pt (pw_and (pt_cmpR op_eq (pe_ix ix_tup (pv 1) pe_int (fun _ _ => rfl)) pe_str (nomark _)) (pw_and1 (pt_cmpR op_gt (pv 3) (pe_dget (hu_of hr) (pv 0) (pv 2) (fun _ _ => rfl)) (nomark _)))))
      (pss_one (ps_ret pe_str))
      pss_nil)
    (pss_cons (ps_dput (hu_of hr) (pv 0) (pv 2) (pe_op op_add (pe_dget (hu_of hr) (pv 0) (pv 2) (fun _ _ => rfl)) (pe_ix ix_list (pe_lst (pa_cons (pv 3) (pa_cons (pe_op op_sub pe_int (pv 3)) pa_nil))) (pe_callTy call_int1 (by rfl) T.m_int (by decide +kernel) (pa_cons (pe_cmpR op_eq (pe_ix ix_tup (pv 1) pe_int (fun _ _ => rfl)) pe_str (nomark _)) pa_nil)) (fun _ _ => rfl))) rfl)
    (pss_one (ps_ret pe_str)))))))), ?_⟩
    rcases h with h | h
    · obtain ⟨d, t1, hs, ps, v, c, rfl, hd, hpm, hT, ht1, q⟩ := h
      have nd := hT.nd
      have ndh : (hs.map (·.1)).Nodup := (hpm.map _).nodup_iff.mpr nd
      have no : ∀ z : Str, dueK ps 0 v c = z → z ≠ "" → Q (.str (ansW z)) H := fun z hz hz0 => by
        have := q hs H hd Fr.rfl' (by unfold behD; rw [if_neg (show ¬ wordD ps (.brought v c) = "" from fun y => hz0 (hz.symm.trans y))]; exact hpm)
        rw [show wordD ps (.brought v c) = z from hz] at this
        exact this
      have hdk := show dueK ps 0 v c = _ from rfl
      conv at hdk => rhs; unfold dueK
      rw [if_pos (by decide)] at hdk
      refine ⟨_, rfl, t1, _, 1, .int v, rfl, rfl, .of ht1, rfl, ?_⟩
      refine ⟨_, rfl, _, rfl, d, _, rfl, DGet.k (k := Sum.inl v) hd, _, rfl, ?_⟩
      rw [val_dk, countIn_perm nd hpm]
      cases ht : countIn ps v with
      | none =>
        rw [there_none ht, if_pos (by decide)] at hdk
        exact iteT (no _ hdk (by decide))
      | some t =>
        have hb := hT.there_nn ht
        rw [there_some ht, if_neg (by omega)] at hdk
        refine iteF ?_
        refine ⟨_, rfl, t1, _, 2, .int c, rfl, rfl, .of ht1, rfl, ?_⟩
        have vh : valV (dkP hs) (Sum.inl v) = some (.int t) := by rw [val_dk, countIn_perm nd hpm, ht]; rfl
        have dg : ∀ {H2 : Hp}, H2 d = some (.dK (dkP hs)) → DGet H2 d (.int v) (some (.int t)) := fun h => by
          have := DGet.k (k := Sum.inl v) h
          rw [vh] at this
          exact this
        have p9 : ((10 : Int) ^ (9 : Int).toNat) = 1000000000 := by decide
        refine ⟨_, rfl, _, _, rfl, rfl, _, rfl, iteD (fun e1 => iteT ?_) (fun e1 => ?_)⟩
        · have e1' : c < 0 := e1
          rw [if_pos (by omega)] at hdk
          exact no _ hdk (by decide)
        have e1' : ¬ c < 0 := e1
        refine ⟨_, rfl, _, _, rfl, rfl, ⟨by decide, by decide, by decide⟩, _, _, rfl, rfl, _, rfl, iteD (fun e2 => iteT ?_) (fun e2 => ?_)⟩
        · have e2' : c > 10 ^ (9 : Int).toNat := e2
          rw [if_pos (by omega)] at hdk
          exact no _ hdk (by decide)
        have e2' : ¬ c > 10 ^ (9 : Int).toNat := e2

        refine ⟨_, rfl, t1, _, 0, .str "brought", rfl, rfl, .of ht1, rfl, rfl, _, rfl, iteD (fun _ => ?_) (fun y => absurd rfl y)⟩
        refine ⟨_, rfl, _, rfl, d, _, rfl, dg hd, _, rfl, _, _, rfl, rfl, _, _, rfl, rfl, ⟨by decide, by decide, by decide⟩, _, _, rfl, rfl, _, rfl, iteD (fun e3 => ?_) (fun e3 => ?_)⟩
        · have e3' : t + c > 10 ^ (9 : Int).toNat := e3
          rw [if_pos (by omega)] at hdk
          exact no _ hdk (by decide)
        have e3' : ¬ t + c > 10 ^ (9 : Int).toNat := e3
        rw [if_neg (by omega), if_neg (by omega)] at hdk
        refine ⟨_, rfl, t1, _, 0, .str "brought", rfl, rfl, .of ht1, rfl, rfl, _, rfl, iteD (fun y => absurd (V.str.inj y) (by decide)) (fun _ => iteF ?_)⟩
        refine ⟨_, rfl, _, rfl, d, _, rfl, dg hd, _, rfl, _, rfl, _, _, rfl, rfl, len63 (by show 2 ≤ _; decide), fun m hm => ?_⟩
        (generalize hh : upd H m _ = H2; have e2 : Ex H H2 := (by rw [← hh]; exact Ex.nw hm); have cm := (show H2 m = some _ by rw [← hh]; exact upd_same); clear hh)
        have hd2 := e2 _ _ hd
        refine ⟨_, rfl, t1, _, 0, .str "brought", rfl, rfl, .of (e2 _ _ ht1), rfl, rfl, .inr ⟨_, rfl, ?_⟩⟩
        refine ⟨m, _, _, _, rfl, rfl, .of cm, (show atI _ _ = some (.int (c)) by
          first
            | (rw [if_neg (show ¬ decide (V.str "brought" = V.str "fetched") = true from fun y => absurd (V.str.inj (of_decide_eq_true y)) (by decide))]; rfl)
            | (rw [if_pos (show decide (V.str "brought" = V.str "fetched") = true from decide_eq_true rfl)]; rfl)), _, _, rfl, rfl, _, rfl, _, rfl, d, _, rfl, DPut.k (k := Sum.inl v) hd2 (by rw [dkP_len, hpm.length_eq]; have := hT.len; exact len63' (by omega)), ?_⟩
        rw [put_dk ndh (by rw [countIn_perm nd hpm]; exact ht), show t + (c) - t = c by omega]
        have hw : wordD ps (.brought v c) = "" := hdk
        have := q (addC hs v (c)) (upd H2 d (.dK (dkP (addC hs v (c))))) upd_same ((Fr.ex e2).tr Fr.upd) (by unfold behD; rw [if_pos hw]; exact addC_perm hpm _ _)
        rw [hw] at this
        exact this
    · obtain ⟨d, t1, hs, ps, v, c, rfl, hd, hpm, hT, ht1, q⟩ := h
      have nd := hT.nd
      have ndh : (hs.map (·.1)).Nodup := (hpm.map _).nodup_iff.mpr nd
      have no : ∀ z : Str, dueK ps 1 v c = z → z ≠ "" → Q (.str (ansW z)) H := fun z hz hz0 => by
        have := q hs H hd Fr.rfl' (by unfold behD; rw [if_neg (show ¬ wordD ps (.fetched v c) = "" from fun y => hz0 (hz.symm.trans y))]; exact hpm)
        rw [show wordD ps (.fetched v c) = z from hz] at this
        exact this
      have hdk := show dueK ps 1 v c = _ from rfl
      conv at hdk => rhs; unfold dueK
      rw [if_pos (by decide)] at hdk
      refine ⟨_, rfl, t1, _, 1, .int v, rfl, rfl, .of ht1, rfl, ?_⟩
      refine ⟨_, rfl, _, rfl, d, _, rfl, DGet.k (k := Sum.inl v) hd, _, rfl, ?_⟩
      rw [val_dk, countIn_perm nd hpm]
      cases ht : countIn ps v with
      | none =>
        rw [there_none ht, if_pos (by decide)] at hdk
        exact iteT (no _ hdk (by decide))
      | some t =>
        have hb := hT.there_nn ht
        rw [there_some ht, if_neg (by omega)] at hdk
        refine iteF ?_
        refine ⟨_, rfl, t1, _, 2, .int c, rfl, rfl, .of ht1, rfl, ?_⟩
        have vh : valV (dkP hs) (Sum.inl v) = some (.int t) := by rw [val_dk, countIn_perm nd hpm, ht]; rfl
        have dg : ∀ {H2 : Hp}, H2 d = some (.dK (dkP hs)) → DGet H2 d (.int v) (some (.int t)) := fun h => by
          have := DGet.k (k := Sum.inl v) h
          rw [vh] at this
          exact this
        have p9 : ((10 : Int) ^ (9 : Int).toNat) = 1000000000 := by decide
        refine ⟨_, rfl, _, _, rfl, rfl, _, rfl, iteD (fun e1 => iteT ?_) (fun e1 => ?_)⟩
        · have e1' : c < 0 := e1
          rw [if_pos (by omega)] at hdk
          exact no _ hdk (by decide)
        have e1' : ¬ c < 0 := e1
        refine ⟨_, rfl, _, _, rfl, rfl, ⟨by decide, by decide, by decide⟩, _, _, rfl, rfl, _, rfl, iteD (fun e2 => iteT ?_) (fun e2 => ?_)⟩
        · have e2' : c > 10 ^ (9 : Int).toNat := e2
          rw [if_pos (by omega)] at hdk
          exact no _ hdk (by decide)
        have e2' : ¬ c > 10 ^ (9 : Int).toNat := e2

        refine ⟨_, rfl, t1, _, 0, .str "fetched", rfl, rfl, .of ht1, rfl, rfl, _, rfl, iteD (fun y => absurd (V.str.inj y) (by decide)) (fun _ => ?_)⟩
        refine iteF ?_
        rw [if_neg (by omega)] at hdk
        refine ⟨_, rfl, t1, _, 0, .str "fetched", rfl, rfl, .of ht1, rfl, rfl, _, rfl, iteD (fun _ => ?_) (fun y => absurd rfl y)⟩
        refine ⟨_, rfl, _, rfl, _, rfl, d, _, rfl, dg hd, _, _, rfl, rfl, _, rfl, iteD (fun e3 => ?_) (fun e3 => ?_)⟩
        · have e3' : c > t := e3
          rw [if_pos (by omega)] at hdk
          exact no _ hdk (by decide)
        have e3' : ¬ c > t := e3
        rw [if_neg (by omega)] at hdk
        refine ⟨_, rfl, _, rfl, d, _, rfl, dg hd, _, rfl, _, rfl, _, _, rfl, rfl, len63 (by show 2 ≤ _; decide), fun m hm => ?_⟩
        (generalize hh : upd H m _ = H2; have e2 : Ex H H2 := (by rw [← hh]; exact Ex.nw hm); have cm := (show H2 m = some _ by rw [← hh]; exact upd_same); clear hh)
        have hd2 := e2 _ _ hd
        refine ⟨_, rfl, t1, _, 0, .str "fetched", rfl, rfl, .of (e2 _ _ ht1), rfl, rfl, .inr ⟨_, rfl, ?_⟩⟩
        refine ⟨m, _, _, _, rfl, rfl, .of cm, (show atI _ _ = some (.int (0 - c)) by
          first
            | (rw [if_neg (show ¬ decide (V.str "fetched" = V.str "fetched") = true from fun y => absurd (V.str.inj (of_decide_eq_true y)) (by decide))]; rfl)
            | (rw [if_pos (show decide (V.str "fetched" = V.str "fetched") = true from decide_eq_true rfl)]; rfl)), _, _, rfl, rfl, _, rfl, _, rfl, d, _, rfl, DPut.k (k := Sum.inl v) hd2 (by rw [dkP_len, hpm.length_eq]; have := hT.len; exact len63' (by omega)), ?_⟩
        rw [put_dk ndh (by rw [countIn_perm nd hpm]; exact ht), show t + (0 - c) - t = -c by omega]
        have hw : wordD ps (.fetched v c) = "" := hdk
        have := q (addC hs v (-c)) (upd H2 d (.dK (dkP (addC hs v (-c))))) upd_same ((Fr.ex e2).tr Fr.upd) (by unfold behD; rw [if_pos hw]; exact addC_perm hpm _ _)
        rw [hw] at this
        exact this
def spKin (K : PySem.W.Frag) : Sp := fun vs H Q _ => ∃ (d t1 : Addr) (hs ps : List (Int × Int)) (v : Int), vs = [.ref d, .ref t1] ∧ H d = some (.dK (dkP hs)) ∧ hs.Perm ps ∧ Tl ps ∧ H t1 = some (.tup [.str "in", .int v]) ∧ NewHeld d ps (.kin v) H (fun H2 => Q (.str (ansW (wordD ps (.kin v)))) H2)
def spKout (K : PySem.W.Frag) : Sp := fun vs H Q _ => ∃ (d t1 : Addr) (hs ps : List (Int × Int)) (v : Int), vs = [.ref d, .ref t1] ∧ H d = some (.dK (dkP hs)) ∧ hs.Perm ps ∧ Tl ps ∧ H t1 = some (.tup [.str "out", .int v]) ∧ NewHeld d ps (.kout v) H (fun H2 => Q (.str (ansW (wordD ps (.kout v)))) H2)
def spKindL (K : PySem.W.Frag) : Sp := fun vs H Q E => spKin K vs H Q E ∨ spKout K vs H Q E
theorem ok_kindL (T : Tx K mg) : FnOk P w K mg base CX0 1 T.a__law_kind T.d__law_kind P__law_kind (spKindL K) := by
  refine T.f__law_kind.ok sc__law_kind (fun vs H Q E h => ?_) (fun cdv A outer s H vs Q E hr h => ?_)
  · rcases h with h | h
    · obtain ⟨d, t1, hs, ps, v, rfl, _⟩ := h
      rfl
    · obtain ⟨d, t1, hs, ps, v, rfl, _⟩ := h
      rfl
  · refine ⟨_, (pss_cons (ps_set (i := 2) sc__law_kind.nd rfl (.inl rfl) (pe_ix ix_tup (pv 1) pe_int (fun _ _ => rfl)))
    (pss_cons (ps_if (pt_cmpR op_eq (pe_ix ix_tup (pv 1) pe_int (fun _ _ => rfl)) pe_str (nomark _))
      (pss_cons (ps_if (PW.pt (pw_or (pt_cmpR op_lt (pv 2) pe_int (nomark _)) (pw_or1 (pt_cmpR op_gt (pv 2) pe_int (nomark _)))))
        (pss_one (ps_ret pe_str))
        pss_nil)
      (pss_cons (ps_if (pt_cmp (pc_din (hu_of hr) (pv 2) (pv 0)))
        (pss_one (ps_ret pe_str))
        pss_nil)
      (pss_cons (ps_if (pt_cmpR op_eq (pe_callB call_lenD (by rfl) T.m_len (by decide +kernel) (pa_cons (pv 0) pa_nil)) pe_int (nomark _))
        (pss_one (ps_ret pe_str))
        pss_nil)
      (pss_cons (ps_dput (hu_of hr) (pv 0) (pv 2) pe_int rfl)
      (pss_one (ps_ret pe_str))))))
      pss_nil)
    (pss_cons (ps_if (pt_cmp (pc_dnotin (hu_of hr) (pv 2) (pv 0)))
      (pss_one (ps_ret pe_str))
      pss_nil)
    (pss_cons (ps_if (pt_cmpR op_gt (pe_dget (hu_of hr) (pv 0) (pv 2) (fun _ _ => rfl)) pe_int (nomark _))
      (pss_one (ps_ret pe_str))
      pss_nil)
    (pss_cons (ps_if (pt_cmpR op_eq (pe_callB call_lenD (by rfl) T.m_len (by decide +kernel) (pa_cons (pv 0) pa_nil)) pe_int (nomark _))
      (pss_one (ps_ret pe_str))
      pss_nil)
    (pss_cons (ps_expr (pe_dpop1 (pv 0) (pv 2) ⟨by rfl, by rfl, by rfl, by rfl⟩))
    (pss_one (ps_ret pe_str)))))))), ?_⟩
    rcases h with h | h
    · obtain ⟨d, t1, hs, ps, v, rfl, hd, hpm, hT, ht1, q⟩ := h
      have nd := hT.nd
      have hl := hT.len
      have no : ∀ z : Str, dueK ps 2 v 0 = z → z ≠ "" → Q (.str (ansW z)) H := fun z hz hz0 => by
        have := q hs H hd Fr.rfl' (by unfold behD; rw [if_neg (show ¬ wordD ps (.kin v) = "" from fun y => hz0 (hz.symm.trans y))]; exact hpm)
        rw [show wordD ps (.kin v) = z from hz] at this
        exact this
      have hdk := show dueK ps 2 v 0 = _ from rfl
      conv at hdk => rhs; unfold dueK
      rw [if_neg (by decide), if_pos rfl] at hdk
      refine ⟨_, rfl, t1, _, 1, .int v, rfl, rfl, .of ht1, rfl, ?_⟩
      refine ⟨_, rfl, t1, _, 0, .str "in", rfl, rfl, .of ht1, rfl, rfl, _, rfl, iteD (fun _ => ?_) (fun y => absurd rfl y)⟩
      refine ⟨_, rfl, _, _, rfl, rfl, _, rfl, iteD (fun e1 => iteT ?_) (fun e1 => ?_)⟩
      · have e1' : v < 1 := e1
        rw [if_pos (by omega)] at hdk
        exact no _ hdk (by decide)
      have e1' : ¬ v < 1 := e1
      refine ⟨_, rfl, _, _, rfl, rfl, _, rfl, iteD (fun e2 => ?_) (fun e2 => ?_)⟩
      · have e2' : v > 1000 := e2
        rw [if_pos (by omega)] at hdk
        exact no _ hdk (by decide)
      have e2' : ¬ v > 1000 := e2
      rw [if_neg (by omega)] at hdk
      refine ⟨_, rfl, _, rfl, d, _, rfl, DGet.k (k := Sum.inl v) hd, _, rfl, ?_⟩
      rw [val_dk, countIn_perm nd hpm]
      cases ht : countIn ps v with
      | some t =>
        rw [there_some ht, if_pos (hT.there_nn ht).1] at hdk
        exact iteT (no _ hdk (by decide))
      | none =>
        rw [there_none ht, if_neg (by decide)] at hdk
        refine iteF ?_
        refine ⟨_, rfl, d, _, rfl, hd, rfl, _, rfl, iteVI (fun e3 => ?_) (fun e3 => ?_)⟩
        · rw [dkP_len, hpm.length_eq] at e3
          rw [if_pos (by omega)] at hdk
          exact no _ hdk (by decide)
        rw [dkP_len, hpm.length_eq] at e3
        rw [if_neg (by omega)] at hdk
        refine ⟨_, rfl, _, rfl, d, _, rfl, DPut.k (k := Sum.inl v) hd (by rw [dkP_len, hpm.length_eq]; exact len63' (by omega)), ?_⟩
        rw [put_new_dk (by rw [countIn_perm nd hpm]; exact ht)]
        have hw : wordD ps (.kin v) = "" := hdk
        have := q (hs ++ [(v, 0)]) (upd H d (.dK (dkP (hs ++ [(v, 0)])))) upd_same Fr.upd (by
          unfold behD
          rw [if_pos hw]
          rcases insP_behind hT ht with ⟨h4, _⟩ | ⟨h4, _⟩ | ⟨_, _, hp⟩ | ⟨h4, _⟩
          · exact absurd h4 (by decide)
          · exact absurd h4 (by decide)
          · exact (hpm.append_right _).trans hp.symm
          · exact absurd h4 (by decide))
        rw [hw] at this
        exact this
    · obtain ⟨d, t1, hs, ps, v, rfl, hd, hpm, hT, ht1, q⟩ := h
      have nd := hT.nd
      have hl := hT.len
      have no : ∀ z : Str, dueK ps 3 v 0 = z → z ≠ "" → Q (.str (ansW z)) H := fun z hz hz0 => by
        have := q hs H hd Fr.rfl' (by unfold behD; rw [if_neg (show ¬ wordD ps (.kout v) = "" from fun y => hz0 (hz.symm.trans y))]; exact hpm)
        rw [show wordD ps (.kout v) = z from hz] at this
        exact this
      have hdk := show dueK ps 3 v 0 = _ from rfl
      conv at hdk => rhs; unfold dueK
      rw [if_neg (by decide), if_neg (by decide)] at hdk
      refine ⟨_, rfl, t1, _, 1, .int v, rfl, rfl, .of ht1, rfl, ?_⟩
      refine ⟨_, rfl, t1, _, 0, .str "out", rfl, rfl, .of ht1, rfl, rfl, _, rfl, iteD (fun y => absurd (V.str.inj y) (by decide)) (fun _ => ?_)⟩
      refine ⟨_, rfl, _, rfl, d, _, rfl, DGet.k (k := Sum.inl v) hd, _, rfl, ?_⟩
      rw [val_dk, countIn_perm nd hpm]
      cases ht : countIn ps v with
      | none =>
        rw [there_none ht, if_pos (by decide)] at hdk
        exact iteT (no _ hdk (by decide))
      | some t =>
        have hb := hT.there_nn ht
        rw [there_some ht, if_neg (by omega)] at hdk
        refine iteF ?_
        have vh : valV (dkP hs) (Sum.inl v) = some (.int t) := by rw [val_dk, countIn_perm nd hpm, ht]; rfl
        have dg : DGet H d (.int v) (some (.int t)) := by
          have := DGet.k (k := Sum.inl v) hd
          rw [vh] at this
          exact this
        refine ⟨_, rfl, _, rfl, d, _, rfl, dg, _, _, rfl, rfl, _, rfl, iteD (fun e1 => ?_) (fun e1 => ?_)⟩
        · have e1' : t > 0 := e1
          rw [if_pos (by omega)] at hdk
          exact no _ hdk (by decide)
        have e1' : ¬ t > 0 := e1
        rw [if_neg (by omega)] at hdk
        refine ⟨_, rfl, d, _, rfl, hd, rfl, _, rfl, iteVI (fun e3 => ?_) (fun e3 => ?_)⟩
        · rw [dkP_len, hpm.length_eq] at e3
          rw [if_pos (by omega)] at hdk
          exact no _ hdk (by decide)
        rw [dkP_len, hpm.length_eq] at e3
        rw [if_neg (by omega)] at hdk
        refine ⟨_, rfl, d, rfl, .inl ⟨_, .inl hd⟩, _, rfl, dkP hs, Sum.inl v, _, hd, rfl, vh, ?_⟩
        rw [drop_dk]
        have hw : wordD ps (.kout v) = "" := hdk
        have := q (hs.filter fun p => decide (p.1 ≠ v)) (upd H d (.dK (dkP (hs.filter fun p => decide (p.1 ≠ v))))) upd_same Fr.upd (by
          unfold behD
          rw [if_pos hw]
          exact hpm.filter _)
        rw [hw] at this
        exact this
--@split
/-! ### a deed, drawn -/
def spKnown (K : PySem.W.Frag) : Sp := fun vs H Q _ => ∃ (a : Addr) (vals : List Int) (c : Int), vs = [.ref a, .int c] ∧ SqL K H a (vals.map V.int) ∧ vals.length ≤ 1000 ∧ ∀ v : Int, Ret (.int v) H Q
theorem ok_known (T : Tx K mg) : FnOk P w K mg base CX0 1 T.a__law_known T.d__law_known P__law_known (spKnown K) := by
  refine T.f__law_known.ok sc__law_known (fun vs H Q E h => ?_) (fun cdv A outer s H vs Q E hr h => ?_)
  · obtain ⟨a, vals, c, rfl, _⟩ := h
    rfl
  · obtain ⟨a, vals, c, rfl, hS, hl, q⟩ := h
    refine ⟨_, (pss_cons (ps_set (i := 2) sc__law_known.nd rfl (.inl rfl) (pe_lst (pa_cons pe_int (pa_cons pe_int (pa_cons (pe_op op_add pe_int (pe_op op_mod (pv 1) pe_int)) (pa_cons (pe_un un_neg pe_int) (pa_cons pe_int (pa_cons (pe_op op_add pe_int (pe_op op_mod (pv 1) pe_int)) pa_nil))))))))
    (pss_cons (ps_if (PW.pt (pw_or (pt_cmpR op_eq (pe_op op_mod (pe_op op_fdiv (pv 1) pe_int) pe_int) pe_int (nomark _)) (pw_or1 (pt_cmpR op_eq (pe_callB call_len_seq (by rfl) T.m_len (by decide +kernel) (pa_cons (pv 0) pa_nil)) pe_int (nomark _)))))
      (pss_one (ps_ret (pe_ix ix_list (pv 2) (pe_op op_mod (pe_op op_fdiv (pv 1) pe_int) pe_int) (fun _ _ => rfl))))
      pss_nil)
    (pss_one (ps_ret (pe_ix ix_list (pv 0) (pe_op op_mod (pe_op op_fdiv (pv 1) pe_int) (pe_callB call_len_seq (by rfl) T.m_len (by decide +kernel) (pa_cons (pv 0) pa_nil))) (fun _ _ => rfl)))))), ?_⟩
    have d1 : 0 ≤ c / 99 % 6 := Int.emod_nonneg _ (by decide)
    have d2 : c / 99 % 6 < 6 := Int.emod_lt_of_pos _ (by decide)
    repeat (first | refine ⟨_, rfl, ?_⟩ | refine ⟨(by show (0 : Int) < _; decide), ?_⟩ | refine ⟨⟨by decide, by decide⟩, ?_⟩ | refine ⟨.inr ⟨by decide, by decide⟩, ?_⟩ | refine ⟨.inl ⟨by decide, by decide⟩, ?_⟩ | refine ⟨⟨by decide, by decide, by decide⟩, ?_⟩ | refine ⟨_, _, rfl, rfl, ?_⟩ | refine ⟨rfl, _, rfl, ?_⟩)
    refine ⟨len63 (by show 6 ≤ _; decide), fun m hm => ?_⟩
    (generalize hh : upd H m _ = H1; have e1 : Ex H H1 := (by rw [← hh]; exact Ex.nw hm); have cm := (show H1 m = some _ by rw [← hh]; exact upd_same); clear hh)
    have cm' : H1 m = some (.lst ([0, 1001, 7 + c % 990, -3, 1000, 1 + c % 30].map V.int)) := cm
    have strange : ∀ {Q' : VK}, (∀ v : Int, Q' (.int v) H1) → True := fun _ => trivial
    have hvl : ((vals.map V.int).length : Int) = vals.length := by rw [List.length_map]
    refine ⟨_, rfl, _, _, rfl, rfl, ⟨by decide, by decide⟩, _, _, rfl, rfl, by show (0 : Int) < 9; decide, rfl, _, rfl, iteVI (fun _ => iteT ?_) (fun hb1 => ?_)⟩
    · exact ⟨_, rfl, _, rfl, _, _, rfl, rfl, ⟨by decide, by decide⟩, _, _, rfl, rfl, by show (0 : Int) < 6; decide, m, _, _, _, rfl, rfl, .of cm', menu_at rfl d1 d2, q _ _ e1⟩
    refine ⟨_, rfl, a, _, rfl, .inl (e1.seq hS), rfl, _, rfl, iteVI (fun _ => ?_) (fun hb2 => ?_)⟩
    · exact ⟨_, rfl, _, rfl, _, _, rfl, rfl, ⟨by decide, by decide⟩, _, _, rfl, rfl, by show (0 : Int) < 6; decide, m, _, _, _, rfl, rfl, .of cm', menu_at rfl d1 d2, q _ _ e1⟩
    have w1 : 0 ≤ c / 99 % ((vals.map V.int).length : Int) := Int.emod_nonneg _ (by omega)
    have w2 : c / 99 % ((vals.map V.int).length : Int) < ((vals.map V.int).length : Int) := Int.emod_lt_of_pos _ (by omega)
    exact ⟨_, rfl, _, rfl, _, _, rfl, rfl, ⟨by decide, by decide⟩, _, rfl, a, _, rfl, .inl (e1.seq hS), _, _, rfl, rfl, by omega, a, _, _, _, rfl, rfl, e1.seq hS, menu_at (n := vals.length) rfl w1 (by omega), q _ _ e1⟩
/-- what is paid lies in a list of its own -/
def FreshU (H H2 : Hp) (x : V) : Prop := ∀ t c u, x = .ref t → H2 t = some (.tup [.str "paid", c, .ref u]) → H u = none
theorem no_paid {H H2 : Hp} {t : Addr} {z : Str} {xs : List V} (h : H2 t = some (.tup (.str z :: xs))) (hz : z ≠ "paid") : FreshU H H2 (.ref t) := by
  rintro t' c u e h2
  cases e
  rw [h] at h2
  exact absurd (V.str.inj (List.cons.inj (HO.tup.inj (Option.some.inj h2))).1) hz
def spDeedL (K : PySem.W.Frag) : Sp := fun vs H Q _ => ∃ (a : Addr) (vals : List Int) (c k : Int), vs = [.int c, .ref a, .int k] ∧ SqL K H a (vals.map V.int) ∧ vals.length ≤ 1000 ∧ ∀ (d : Deed) (x : V) (H2 : Hp), Ex H H2 → DeedAt H2 x d → FreshU H H2 x → Q x H2
theorem ok_deedL (T : Tx K mg) : FnOk P w K mg base CX0 2 T.a__law_deed T.d__law_deed P__law_deed (spDeedL K) := by
  have G__law_mixed := ok_mixed (P := P) (w := w) (base := base) T
  have G__law_known := ok_known (P := P) (w := w) (base := base) T
  refine T.f__law_deed.ok sc__law_deed (fun vs H Q E h => ?_) (fun cdv A outer s H vs Q E hr h => ?_)
  · obtain ⟨a, vals, c, k, rfl, _⟩ := h
    rfl
  · obtain ⟨a, vals, c, k, rfl, hS, hl, q⟩ := h
    refine ⟨_, (pss_cons (ps_set (i := 3) sc__law_deed.nd rfl (.inl rfl) (pe_call G__law_mixed (hr.mono (by decide)) (by rfl) T.g__law_mixed T.f__law_mixed.kp T.p__law_mixed .nil pass0 (pa_cons (pv 0) (pa_cons pe_int pa_nil))))
    (pss_cons (ps_set (i := 4) sc__law_deed.nd rfl (.inl rfl) (pe_call G__law_known (hr.mono (by decide)) (by rfl) T.g__law_known T.f__law_known.kp T.p__law_known .nil pass0 (pa_cons (pv 1) (pa_cons (pe_call G__law_mixed (hr.mono (by decide)) (by rfl) T.g__law_mixed T.f__law_mixed.kp T.p__law_mixed .nil pass0 (pa_cons (pv 0) (pa_cons pe_int pa_nil))) pa_nil))))
    (pss_cons (ps_set (i := 5) sc__law_deed.nd rfl (.inl rfl) (pe_ix ix_list (pe_lst (pa_cons (pe_op op_mod (pe_op op_fdiv (pv 3) pe_int) pe_int) (pa_cons (pe_op op_mod (pe_op op_fdiv (pv 3) pe_int) pe_int) (pa_cons pe_int (pa_cons (pe_un un_neg pe_int) (pa_cons (pe_op op_pow pe_int pe_int) (pa_cons (pe_op op_add (pe_op op_pow pe_int pe_int) pe_int) (pa_cons (pe_op op_mod (pe_op op_fdiv (pv 3) pe_int) pe_int) (pa_cons pe_int pa_nil))))))))) (pe_op op_mod (pe_op op_fdiv (pv 3) pe_int) pe_int) (fun _ _ => rfl)))
    (pss_cons (ps_set (i := 6) sc__law_deed.nd rfl (.inl rfl) (pe_op op_mod (pv 0) pe_int))
    (pss_cons (ps_if (pt_cmpR op_lt (pv 6) pe_int (nomark _))
      (pss_cons (ps_set (i := 7) sc__law_deed.nd rfl (.inl rfl) (pe_lst pa_nil))
      (pss_cons (ps_set (i := 8) sc__law_deed.nd rfl (.inl rfl) (pe_op op_mod (pe_op op_fdiv (pv 3) pe_int) pe_int))
      (Evl.pss_cut (ps_if (pt_cmpR op_eq (pe_op op_mod (pe_op op_fdiv (pv 3) pe_int) pe_int) pe_int (nomark _))
        (pss_one (ps_set (i := 8) sc__law_deed.nd rfl (.inl rfl) (pe_op op_add pe_int (pe_op op_mod (pe_op op_fdiv (pv 3) pe_int) pe_int))))
        pss_nil)
      (pss_cons (ps_for PassesOwn.never rfl (pi_range1 (by rfl) T.m_range (pa_cons (pv 8) pa_nil)) (pg_name (i := 9) sc__law_deed.nd rfl (.inl rfl))
        (pss_one (ps_expr (pe_bm PySem.F.plainAttrs_list PySem.F.slot_list_append PySem.F.type_list_append mt_append (pv 7) (pa_cons (pe_call G__law_known (hr.mono (by decide)) (by rfl) T.g__law_known T.f__law_known.kp T.p__law_known .nil pass0 (pa_cons (pv 1) (pa_cons (pe_call G__law_mixed (hr.mono (by decide)) (by rfl) T.g__law_mixed T.f__law_mixed.kp T.p__law_mixed .nil pass0 (pa_cons (pv 0) (pa_cons (pe_op op_add pe_int (pv 9)) pa_nil))) pa_nil))) pa_nil)))))
      (pss_cons (ps_set (i := 10) sc__law_deed.nd rfl (.inl rfl) (pe_callB (call_max2 rfl) (by rfl) T.m_max (by decide +kernel) (pa_cons pe_int (pa_cons (pe_op op_sub (pe_callB (cr_sum rfl) (by rfl) T.m_sum (by decide +kernel) (pa_cons (pv 7) pa_nil)) (pe_op op_mod (pe_op op_fdiv (pv 3) pe_int) pe_int)) pa_nil))))
      (pss_cons (ps_set (i := 11) sc__law_deed.nd rfl (.inl rfl) (pe_callB (call_max2 rfl) (by rfl) T.m_max (by decide +kernel) (pa_cons pe_int (pa_cons (pe_op op_sub (pe_callB (cr_sum rfl) (by rfl) T.m_sum (by decide +kernel) (pa_cons (pv 7) pa_nil)) (pe_op op_mod (pe_op op_fdiv (pv 3) pe_int) (pe_ix ix_list (pe_lst (pa_cons pe_int (pa_cons pe_int pa_nil))) (pe_callTy call_int1 (by rfl) T.m_int (by decide +kernel) (pa_cons (pe_cmpR op_eq (pe_op op_mod (pv 2) pe_int) pe_int (nomark _)) pa_nil)) (fun _ _ => rfl)))) pa_nil))))
      (pss_cons (ps_set (i := 12) sc__law_deed.nd rfl (.inl rfl) (pe_op op_add (pe_callB (cr_sum rfl) (by rfl) T.m_sum (by decide +kernel) (pa_cons (pv 7) pa_nil)) pe_int))
      (Evl.pss_cut (ps_if (pt_cmpR op_gt (pe_callB (cr_sum rfl) (by rfl) T.m_sum (by decide +kernel) (pa_cons (pv 7) pa_nil)) pe_int (nomark _))
        (pss_one (ps_set (i := 12) sc__law_deed.nd rfl (.inl rfl) (pe_op op_sub (pe_callB (cr_sum rfl) (by rfl) T.m_sum (by decide +kernel) (pa_cons (pv 7) pa_nil)) pe_int)))
        pss_nil)
      (pss_cons (ps_set (i := 13) sc__law_deed.nd rfl (.inl rfl) (pe_ix ix_list (pe_lst (pa_cons (pv 10) (pa_cons (pv 12) (pa_cons (pv 11) (pa_cons (pe_un un_neg pe_int) (pa_cons pe_int (pa_cons (pe_callB (cr_sum rfl) (by rfl) T.m_sum (by decide +kernel) (pa_cons (pv 7) pa_nil)) pa_nil))))))) (pe_op op_mod (pe_op op_fdiv (pv 3) pe_int) pe_int) (fun _ _ => rfl)))
      (pss_one (ps_ret (pe_tup (pa_cons pe_str (pa_cons (pv 13) (pa_cons (pv 7) pa_nil)))))))))))))))
      pss_nil)
    (pss_cons (ps_if (pt_cmpR op_lt (pv 6) pe_int (nomark _))
      (pss_one (ps_ret (pe_tup (pa_cons pe_str (pa_cons (pv 4) (pa_cons (pv 5) pa_nil))))))
      pss_nil)
    (pss_cons (ps_if (pt_cmpR op_lt (pv 6) pe_int (nomark _))
      (pss_one (ps_ret (pe_tup (pa_cons pe_str (pa_cons (pv 4) (pa_cons (pv 5) pa_nil))))))
      pss_nil)
    (pss_cons (ps_if (pt_cmpR op_eq (pe_op op_mod (pv 3) pe_int) pe_int (nomark _))
      (pss_one (ps_ret (pe_op op_catT (pe_tup (pa_cons (pe_ix ix_list (pe_lst (pa_cons pe_str (pa_cons pe_str (pa_cons pe_str (pa_cons pe_str pa_nil))))) (pe_op op_mod (pe_op op_fdiv (pv 3) pe_int) pe_int) (fun _ _ => rfl)) pa_nil)) (pe_slice sl_tupA (pe_tup (pa_cons (pv 4) (pa_cons (pv 5) (pa_cons pe_int pa_nil)))) po_none (po_some (pe_op op_mod (pe_op op_fdiv (pv 3) pe_int) pe_int))))))
      pss_nil)
    (pss_cons (ps_if (pt_cmpR op_eq (pv 6) pe_int (nomark _))
      (pss_one (ps_ret (pe_tup (pa_cons pe_str (pa_cons (pe_ix ix_list (pe_lst (pa_cons (pv 4) (pa_cons (pe_op op_add pe_int (pe_op op_mod (pe_op op_fdiv (pv 3) pe_int) pe_int)) pa_nil))) (pe_op op_mod (pv 3) pe_int) (fun _ _ => rfl)) pa_nil)))))
      pss_nil)
    (pss_one (ps_ret (pe_tup (pa_cons pe_str (pa_cons (pv 4) pa_nil)))))))))))))), ?_⟩
    refine ⟨_, rfl, c, 1, rfl, ⟨by decide, by decide⟩, ?_⟩
    refine ⟨_, rfl, _, rfl, c, 2, rfl, ⟨by decide, by decide⟩, a, vals, _, rfl, hS, hl, fun v H1 e1 => ?_⟩
    generalize mixed c 1 = dr
    have d1 : 0 ≤ dr / 8 % 8 := Int.emod_nonneg _ (by decide)
    have d2 : dr / 8 % 8 < 8 := Int.emod_lt_of_pos _ (by decide)
    repeat (first | refine ⟨_, rfl, ?_⟩ | refine ⟨(by show (0 : Int) < _; decide), ?_⟩ | refine ⟨⟨by decide, by decide⟩, ?_⟩ | refine ⟨.inr ⟨by decide, by decide⟩, ?_⟩ | refine ⟨.inl ⟨by decide, by decide⟩, ?_⟩ | refine ⟨⟨by decide, by decide, by decide⟩, ?_⟩ | refine ⟨_, _, rfl, rfl, ?_⟩ | refine ⟨rfl, _, rfl, ?_⟩)
    refine ⟨len63 (by show 8 ≤ _; decide), fun m hm => ?_⟩
    (generalize hh : upd H1 m _ = H2; have e2 : Ex H1 H2 := (by rw [← hh]; exact Ex.nw hm); have cm := (show H2 m = some _ by rw [← hh]; exact upd_same); clear hh)
    repeat (first | refine ⟨_, rfl, ?_⟩ | refine ⟨(by show (0 : Int) < _; decide), ?_⟩ | refine ⟨⟨by decide, by decide⟩, ?_⟩ | refine ⟨.inr ⟨by decide, by decide⟩, ?_⟩ | refine ⟨.inl ⟨by decide, by decide⟩, ?_⟩ | refine ⟨⟨by decide, by decide, by decide⟩, ?_⟩ | refine ⟨_, _, rfl, rfl, ?_⟩ | refine ⟨rfl, _, rfl, ?_⟩)
    refine ⟨m, [dr / 64 % 9, dr / 64 % 60, 0, -1, 10 ^ (9 : Int).toNat, 10 ^ (9 : Int).toNat + 1, dr / 64 % 4, 1].map V.int, _, _, rfl, rfl, .of cm, menu_at rfl d1 d2, ?_⟩
    generalize List.getD _ _ _ = n
    have e02 := e1.tr e2
    refine ⟨_, rfl, _, _, rfl, rfl, by show (0 : Int) < 12; decide, ?_⟩
    refine ⟨_, rfl, _, _, rfl, rfl, _, rfl, iteD (fun _ => ?_) (fun _ => ?_)⟩
    · -- paid
      refine ⟨Nat.zero_le _, fun g hg => ?_⟩
      have hg0 : H g = none := none_back e02 hg
      have e03 := e02.tr (Ex.nw (o := .lst []) hg)
      have a1 : 0 ≤ dr / 8 % 7 := Int.emod_nonneg _ (by decide)
      have a2 : dr / 8 % 7 < 7 := Int.emod_lt_of_pos _ (by decide)
      refine ⟨_, rfl, _, _, rfl, rfl, ⟨by decide, by decide⟩, _, _, rfl, rfl, by show (0 : Int) < 7; decide, ?_⟩
      refine ⟨fun σ' H' => ∃ mm : Nat, mm ≤ 62 ∧ σ' = [some (.int c), some (.ref a), some (.int k), some (.int dr), some (.int v), some (.int n), some (.int (c % 12)), some (.ref g), some (.int (mm : Int)), none, none, none, none, none] ∧ H' = upd H2 g (.lst []), ?_, ?_⟩
      · refine ⟨_, rfl, _, _, rfl, rfl, ⟨by decide, by decide⟩, _, _, rfl, rfl, by show (0 : Int) < 12; decide, rfl, _, rfl, iteVI (fun _ => ?_) (fun _ => ?_)⟩
        · have b1 : 0 ≤ dr / 672 % 56 := Int.emod_nonneg _ (by decide)
          have b2 : dr / 672 % 56 < 56 := Int.emod_lt_of_pos _ (by decide)
          refine ⟨_, rfl, _, _, rfl, rfl, ⟨by decide, by decide⟩, _, _, rfl, rfl, by show (0 : Int) < 56; decide, _, _, rfl, rfl, ?_⟩
          exact ⟨(7 + dr / 672 % 56).toNat, by omega, by rw [Int.toNat_of_nonneg (by omega)]; rfl, rfl⟩
        · exact ⟨(dr / 8 % 7).toNat, by omega, by rw [Int.toNat_of_nonneg (by omega)]; rfl, rfl⟩
      rintro σ' H' ⟨mm, hmm, rfl, rfl⟩
      refine ⟨_, rfl, _, rfl, by omega, by omega, ?_⟩
      refine for_range (fun i σ H' => ∃ (ns : List Int) (y9 : Option V), σ = [some (.int c), some (.ref a), some (.int k), some (.int dr), some (.int v), some (.int n), some (.int (c % 12)), some (.ref g), some (.int (mm : Int)), y9, none, none, none, none] ∧ Ex H H' ∧ H' g = some (.lst (ns.map V.int)) ∧ ns.length = i) ⟨[], _, rfl, e03, upd_same, rfl⟩ ?_ ?_
      · rintro i σ H3 hi ⟨ns, y9, rfl, ex, eg, hnl⟩
        refine ⟨_, rfl, .inl ⟨rfl, _, .of eg⟩, _, rfl, _, rfl, _, rfl, _, _, rfl, rfl, c, 3 + (0 + (i : Int)), rfl, ⟨by omega, by omega⟩, a, vals, _, rfl, ex.seq hS, hl, fun v2 H4 e4 => ?_⟩
        have eg4 := e4 _ _ eg
        refine ⟨g, _, _, rfl, rfl, eg4, len63' (by rw [List.length_map]; omega), ?_⟩
        refine ⟨ns ++ [v2], _, rfl, Ex.mu (ex.tr e4) hg0, ?_, by rw [List.length_append, hnl]; rfl⟩
        rw [upd_same, List.map_append]
        rfl
      · rintro σ H3 ⟨ns, y9, rfl, ex, eg, hnl⟩
        -- the prices
        refine ⟨_, rfl, g, ns, rfl, .of eg, ?_⟩
        refine ⟨_, rfl, _, _, rfl, rfl, ⟨by decide, by decide⟩, _, _, rfl, rfl, by show (0 : Int) < 40; decide, _, _, rfl, rfl, 0, _, rfl, ?_⟩
        refine ⟨_, rfl, g, ns, rfl, .of eg, ?_⟩
        refine ⟨_, rfl, _, _, rfl, rfl, ⟨by decide, by decide⟩, len63 (by show 2 ≤ _; decide), fun m4 hm4 => ?_⟩
        (generalize hh : upd H3 m4 _ = H4; have e4 : Ex H3 H4 := (by rw [← hh]; exact Ex.nw hm4); have c4 := (show H4 m4 = some _ by rw [← hh]; exact upd_same); clear hh)
        refine ⟨_, rfl, _, _, rfl, rfl, by show (0 : Int) < 12; decide, rfl, .inr ⟨_, rfl, ?_⟩⟩
        have hx : ∃ z : Int, (z = 40 ∨ z = 120) ∧ atI [V.int 40, V.int 120] (if decide (V.int (k % 12) = V.int 5) = true then 1 else 0) = some (.int z) := by
          by_cases h : decide (V.int (k % 12) = V.int 5) = true
          · exact ⟨120, .inr rfl, by rw [if_pos h]; rfl⟩
          · exact ⟨40, .inl rfl, by rw [if_neg h]; rfl⟩
        obtain ⟨z, hz, hz2⟩ := hx
        refine ⟨m4, _, _, _, rfl, rfl, .of c4, hz2, _, _, rfl, rfl, by omega, _, _, rfl, rfl, 0, _, rfl, ?_⟩
        have eg4 := e4 _ _ eg
        refine ⟨_, rfl, g, ns, rfl, .of eg4, _, _, rfl, rfl, ?_⟩
        have ex4 := ex.tr e4
        refine ⟨fun σ' H' => ∃ (p1 p2 p3 : Int) (y9 : Option V), σ' = [some (.int c), some (.ref a), some (.int k), some (.int dr), some (.int v), some (.int n), some (.int (c % 12)), some (.ref g), some (.int (mm : Int)), y9, some (.int p1), some (.int p2), some (.int p3), none] ∧ H' = H4, ?_, ?_⟩
        · refine ⟨_, rfl, g, ns, rfl, .of eg4, _, _, rfl, rfl, _, rfl, iteD (fun _ => ?_) (fun _ => ⟨_, _, _, _, rfl, rfl⟩)⟩
          exact ⟨_, rfl, g, ns, rfl, .of eg4, _, _, rfl, rfl, _, _, _, _, rfl, rfl⟩
        rintro σ' H' ⟨p1, p2, p3, y9, rfl, rfl⟩
        have f1 : 0 ≤ dr / 512 % 6 := Int.emod_nonneg _ (by decide)
        have f2 : dr / 512 % 6 < 6 := Int.emod_lt_of_pos _ (by decide)
        refine ⟨_, rfl, _, rfl, _, rfl, _, rfl, _, rfl, g, ns, rfl, .of eg4, len63 (by show 6 ≤ _; decide), fun m5 hm5 => ?_⟩
        (generalize hh : upd H' m5 _ = H5; have e5 : Ex H' H5 := (by rw [← hh]; exact Ex.nw hm5); have c5 := (show H5 m5 = some _ by rw [← hh]; exact upd_same); clear hh)
        refine ⟨_, rfl, _, _, rfl, rfl, ⟨by decide, by decide⟩, _, _, rfl, rfl, by show (0 : Int) < 6; decide, m5, [p1, p3, p2, -1, 1001, ns.sum].map V.int, _, _, rfl, rfl, .of c5, menu_at rfl f1 f2, ?_⟩
        generalize List.getD _ _ _ = pr
        refine ⟨_, rfl, _, rfl, len63 (by show 3 ≤ _; decide), fun t ht => ?_⟩
        have n5 := Ex.nw (o := .tup [.str "paid", .int pr, .ref g]) ht
        exact q (.paid pr ns) (.ref t) _ ((ex4.tr e5).tr n5) ⟨t, g, rfl, upd_same, n5 _ _ (e5 _ _ eg4)⟩ (fun t' c' u' e h => by
          cases e
          rw [upd_same] at h
          cases h
          exact hg0)
    refine ⟨_, rfl, _, _, rfl, rfl, _, rfl, iteD (fun _ => ?_) (fun _ => ?_)⟩
    · refine ⟨_, rfl, _, rfl, len63 (by show 3 ≤ _; decide), fun t ht => ?_⟩
      exact q (.brought v n) (.ref t) _ (e02.tr (Ex.nw ht)) ⟨t, rfl, upd_same⟩ (no_paid upd_same (by decide))
    refine ⟨_, rfl, _, _, rfl, rfl, _, rfl, iteD (fun _ => ?_) (fun _ => ?_)⟩
    · refine ⟨_, rfl, _, rfl, len63 (by show 3 ≤ _; decide), fun t ht => ?_⟩
      exact q (.fetched v n) (.ref t) _ (e02.tr (Ex.nw ht)) ⟨t, rfl, upd_same⟩ (no_paid upd_same (by decide))
    refine ⟨_, rfl, _, _, rfl, rfl, by show (0 : Int) < 16; decide, rfl, _, rfl, iteVI (fun _ => ?_) (fun _ => ?_)⟩
    · -- another word
      have f1 : 0 ≤ dr / 16 % 4 := Int.emod_nonneg _ (by decide)
      have f2 : dr / 16 % 4 < 4 := Int.emod_lt_of_pos _ (by decide)
      have g1 : 0 ≤ dr / 64 % 4 := Int.emod_nonneg _ (by decide)
      have g2 : dr / 64 % 4 < 4 := Int.emod_lt_of_pos _ (by decide)
      obtain ⟨j, hj⟩ : ∃ j : Nat, dr / 64 % 4 = (j : Int) := ⟨_, (Int.toNat_of_nonneg g1).symm⟩
      obtain ⟨i, hi⟩ : ∃ i : Nat, dr / 16 % 4 = (i : Int) := ⟨_, (Int.toNat_of_nonneg f1).symm⟩
      obtain ⟨z, hz, hz4⟩ : ∃ z : Str, atI [V.str "Paid", V.str "", V.str "take", V.str "ins"] (dr / 16 % 4) = some (.str z) ∧ (z = "Paid" ∨ z = "" ∨ z = "take" ∨ z = "ins") := by
        have hi4 : i < 4 := by omega
        rw [hi]
        match i, hi4 with
        | 0, _ => exact ⟨_, rfl, .inl rfl⟩
        | 1, _ => exact ⟨_, rfl, .inr (.inl rfl)⟩
        | 2, _ => exact ⟨_, rfl, .inr (.inr (.inl rfl))⟩
        | 3, _ => exact ⟨_, rfl, .inr (.inr (.inr rfl))⟩
      have hzp : z ≠ "paid" := by rcases hz4 with rfl | rfl | rfl | rfl <;> decide
      refine ⟨len63 (by show 4 ≤ _; decide), fun m5 hm5 => ?_⟩
      (generalize hh : upd H2 m5 _ = H5; have e5 : Ex H2 H5 := (by rw [← hh]; exact Ex.nw hm5); have c5 := (show H5 m5 = some _ by rw [← hh]; exact upd_same); clear hh)
      refine ⟨_, rfl, _, _, rfl, rfl, ⟨by decide, by decide⟩, _, _, rfl, rfl, by show (0 : Int) < 4; decide, m5, _, _, _, rfl, rfl, .of c5, hz, len63 (by show 1 ≤ _; decide), fun t1 ht1 => ?_⟩
      (generalize hh : upd H5 t1 _ = H6; have e6 : Ex H5 H6 := (by rw [← hh]; exact Ex.nw ht1); have c6 := (show H6 t1 = some _ by rw [← hh]; exact upd_same); clear hh)
      refine ⟨_, rfl, _, rfl, len63 (by show 3 ≤ _; decide), fun t2 ht2 => ?_⟩
      (generalize hh : upd H6 t2 _ = H7; have e7 : Ex H6 H7 := (by rw [← hh]; exact Ex.nw ht2); have c7 := (show H7 t2 = some _ by rw [← hh]; exact upd_same); clear hh)
      have e07 := ((e02.tr e5).tr e6).tr e7
      have c67 := e7 _ _ c6
      refine ⟨_, rfl, _, _, rfl, rfl, ⟨by decide, by decide⟩, _, _, rfl, rfl, by show (0 : Int) < 4; decide, _, rfl, t2, _, rfl, .of c7, fun hw => ?_, fun hw p hp => ?_⟩
      · refine ⟨t1, t2, _, _, rfl, rfl, .of c67, .of c7, by simp, len63 (by show 4 ≤ _; decide), fun y => absurd y (by simp), fun _ p hp => ?_⟩
        exact q (.other z [v, n, 1]) (.ref p) _ (e07.tr (Ex.nw hp)) ⟨p, rfl, upd_same, Nat.le_refl _, hz4⟩ (no_paid upd_same hzp)
      · rw [hj, cut_take _ j (by show j ≤ 3; omega)]
        (generalize hh : upd H7 p _ = H8; have e8 : Ex H7 H8 := (by rw [← hh]; exact Ex.nw hp); have c8 := (show H8 p = some _ by rw [← hh]; exact upd_same); clear hh)
        refine ⟨t1, p, _, _, rfl, rfl, .of (e8 _ _ c67), .of c8, by simp, len63 (by rw [List.length_take]; show 1 + min j 3 ≤ _; omega), fun y => ?_, fun _ p2 hp2 => ?_⟩
        · exact q (.other z []) (.ref t1) _ (e07.tr e8) ⟨t1, rfl, e8 _ _ c67, Nat.zero_le _, hz4⟩ (no_paid (e8 _ _ c67) hzp)
        · refine q (.other z ([v, n, 1].take j)) (.ref p2) _ ((e07.tr e8).tr (Ex.nw hp2)) ⟨p2, rfl, ?_, by rw [List.length_take]; show min j 3 ≤ 3; omega, hz4⟩ (no_paid upd_same hzp)
          rw [upd_same, List.map_take]
          rfl
    refine ⟨_, rfl, rfl, _, rfl, iteVI (fun _ => ?_) (fun _ => ?_)⟩
    · have f1 : 0 ≤ dr % 2 := Int.emod_nonneg _ (by decide)
      have f2 : dr % 2 < 2 := Int.emod_lt_of_pos _ (by decide)
      refine ⟨_, rfl, _, rfl, _, _, rfl, rfl, ⟨by decide, by decide⟩, _, _, rfl, rfl, by show (0 : Int) < 60; decide, _, _, rfl, rfl, len63 (by show 2 ≤ _; decide), fun m5 hm5 => ?_⟩
      (generalize hh : upd H2 m5 _ = H5; have e5 : Ex H2 H5 := (by rw [← hh]; exact Ex.nw hm5); have c5 := (show H5 m5 = some _ by rw [← hh]; exact upd_same); clear hh)
      refine ⟨_, rfl, _, _, rfl, rfl, by show (0 : Int) < 2; decide, m5, [v, 1 + dr / 16 % 60].map V.int, _, _, rfl, rfl, .of c5, menu_at rfl f1 f2, ?_⟩
      generalize List.getD _ _ _ = pr
      refine ⟨len63 (by show 2 ≤ _; decide), fun t ht => ?_⟩
      exact q (.kin pr) (.ref t) _ ((e02.tr e5).tr (Ex.nw ht)) ⟨t, rfl, upd_same⟩ (no_paid upd_same (by decide))
    · refine ⟨_, rfl, len63 (by show 2 ≤ _; decide), fun t ht => ?_⟩
      exact q (.kout v) (.ref t) _ (e02.tr (Ex.nw ht)) ⟨t, rfl, upd_same⟩ (no_paid upd_same (by decide))
--@split
/-! ### deeds, told -/
def headW : Deed → Str
  | .paid _ _ => "paid"
  | .brought _ _ => "brought"
  | .fetched _ _ => "fetched"
  | .kin _ => "in"
  | .kout _ => "out"
  | .other z _ => z
theorem head_at {H : Hp} {x : V} {d : Deed} (h : DeedAt H x d) : ∃ t rest, x = .ref t ∧ H t = some (.tup (.str (headW d) :: rest)) ∧ (headW d = "paid" ↔ ∃ c vals, d = .paid c vals) ∧ (headW d = "brought" ↔ ∃ v c, d = .brought v c) ∧ (headW d = "fetched" ↔ ∃ v c, d = .fetched v c) ∧ (headW d = "in" ↔ ∃ v, d = .kin v) ∧ (headW d = "out" ↔ ∃ v, d = .kout v) := by
  have no : ∀ {a b : Str} {p : Prop}, a ≠ b → ¬ p → (a = b ↔ p) := fun h1 h2 => ⟨fun h => absurd h h1, fun h => absurd h h2⟩
  cases d with
  | paid c vals =>
    obtain ⟨t, u, a, b, _⟩ := h
    exact ⟨t, _, a, b, ⟨fun _ => ⟨_, _, rfl⟩, fun _ => rfl⟩, no (show ("paid" : Str) ≠ "brought" by decide) (by rintro ⟨_, _, h⟩; cases h), no (show ("paid" : Str) ≠ "fetched" by decide) (by rintro ⟨_, _, h⟩; cases h), no (show ("paid" : Str) ≠ "in" by decide) (by rintro ⟨_, h⟩; cases h), no (show ("paid" : Str) ≠ "out" by decide) (by rintro ⟨_, h⟩; cases h)⟩
  | brought v c =>
    obtain ⟨t, a, b⟩ := h
    exact ⟨t, _, a, b, no (show ("brought" : Str) ≠ "paid" by decide) (by rintro ⟨_, _, h⟩; cases h), ⟨fun _ => ⟨_, _, rfl⟩, fun _ => rfl⟩, no (show ("brought" : Str) ≠ "fetched" by decide) (by rintro ⟨_, _, h⟩; cases h), no (show ("brought" : Str) ≠ "in" by decide) (by rintro ⟨_, h⟩; cases h), no (show ("brought" : Str) ≠ "out" by decide) (by rintro ⟨_, h⟩; cases h)⟩
  | fetched v c =>
    obtain ⟨t, a, b⟩ := h
    exact ⟨t, _, a, b, no (show ("fetched" : Str) ≠ "paid" by decide) (by rintro ⟨_, _, h⟩; cases h), no (show ("fetched" : Str) ≠ "brought" by decide) (by rintro ⟨_, _, h⟩; cases h), ⟨fun _ => ⟨_, _, rfl⟩, fun _ => rfl⟩, no (show ("fetched" : Str) ≠ "in" by decide) (by rintro ⟨_, h⟩; cases h), no (show ("fetched" : Str) ≠ "out" by decide) (by rintro ⟨_, h⟩; cases h)⟩
  | kin v =>
    obtain ⟨t, a, b⟩ := h
    exact ⟨t, _, a, b, no (show ("in" : Str) ≠ "paid" by decide) (by rintro ⟨_, _, h⟩; cases h), no (show ("in" : Str) ≠ "brought" by decide) (by rintro ⟨_, _, h⟩; cases h), no (show ("in" : Str) ≠ "fetched" by decide) (by rintro ⟨_, _, h⟩; cases h), ⟨fun _ => ⟨_, rfl⟩, fun _ => rfl⟩, no (show ("in" : Str) ≠ "out" by decide) (by rintro ⟨_, h⟩; cases h)⟩
  | kout v =>
    obtain ⟨t, a, b⟩ := h
    exact ⟨t, _, a, b, no (show ("out" : Str) ≠ "paid" by decide) (by rintro ⟨_, _, h⟩; cases h), no (show ("out" : Str) ≠ "brought" by decide) (by rintro ⟨_, _, h⟩; cases h), no (show ("out" : Str) ≠ "fetched" by decide) (by rintro ⟨_, _, h⟩; cases h), no (show ("out" : Str) ≠ "in" by decide) (by rintro ⟨_, h⟩; cases h), ⟨fun _ => ⟨_, rfl⟩, fun _ => rfl⟩⟩
  | other z xs =>
    obtain ⟨t, a, b, _, hz⟩ := h
    have h5 : z ≠ "paid" ∧ z ≠ "brought" ∧ z ≠ "fetched" ∧ z ≠ "in" ∧ z ≠ "out" := by
      rcases hz with rfl | rfl | rfl | rfl <;> decide
    exact ⟨t, _, a, b, no h5.1 (by rintro ⟨_, _, h⟩; cases h), no h5.2.1 (by rintro ⟨_, _, h⟩; cases h), no h5.2.2.1 (by rintro ⟨_, _, h⟩; cases h), no h5.2.2.2.1 (by rintro ⟨_, h⟩; cases h), no h5.2.2.2.2 (by rintro ⟨_, h⟩; cases h)⟩
theorem DeedsAt.snoc {H : Hp} {x : V} {d : Deed} (hd : DeedAt H x d) : ∀ {xs : List V} {ds : List Deed}, DeedsAt H xs ds → DeedsAt H (xs ++ [x]) (ds ++ [d])
  | _, _, .nil => .cons hd .nil
  | _, _, .cons h r => .cons h (DeedsAt.snoc hd r)
/-- a deed told keeps when another list grows -/
theorem DeedAt.up {H : Hp} {f : Addr} {o : HO} {x : V} : ∀ {d : Deed}, DeedAt H x d → (∀ ys, H f ≠ some (.tup ys)) → (∀ t c u, x = .ref t → H t = some (.tup [.str "paid", c, .ref u]) → u ≠ f) → DeedAt (upd H f o) x d := by
  intro d h hf hu
  have ht : ∀ t ys, H t = some (.tup ys) → upd H f o t = some (.tup ys) := fun t ys h => by rw [upd_ne fun e => hf _ (e ▸ h)]; exact h
  cases d with
  | paid c vals =>
    obtain ⟨t, u, a, b, e⟩ := h
    exact ⟨t, u, a, ht _ _ b, by rw [upd_ne (hu t _ u a b)]; exact e⟩
  | brought v c =>
    obtain ⟨t, a, b⟩ := h
    exact ⟨t, a, ht _ _ b⟩
  | fetched v c =>
    obtain ⟨t, a, b⟩ := h
    exact ⟨t, a, ht _ _ b⟩
  | kin v =>
    obtain ⟨t, a, b⟩ := h
    exact ⟨t, a, ht _ _ b⟩
  | kout v =>
    obtain ⟨t, a, b⟩ := h
    exact ⟨t, a, ht _ _ b⟩
  | other z xs =>
    obtain ⟨t, a, b, c⟩ := h
    exact ⟨t, a, ht _ _ b, c⟩
/-! ### what is due of a price -/
def spUnpaid (K : PySem.W.Frag) : Sp := fun vs H Q _ => ∃ (d t1 u : Addr) (hs ps : List (Int × Int)) (c : Int) (vals : List Int), vs = [.ref d, .ref t1] ∧ H d = some (.dK (dkP hs)) ∧ hs.Perm ps ∧ Tl ps ∧ H t1 = some (.tup [.str "paid", .int c, .ref u]) ∧ H u = some (.lst (vals.map V.int)) ∧ Ret (.str (if dueP ps c vals = "" then "" else ansW (dueP ps c vals))) H Q
theorem ok_unpaid (T : Tx K mg) : FnOk P w K mg base CX0 1 T.a__law_unpaid T.d__law_unpaid P__law_unpaid (spUnpaid K) := by
  refine T.f__law_unpaid.ok sc__law_unpaid (fun vs H Q E h => ?_) (fun cdv A outer s H vs Q E hr h => ?_)
  · obtain ⟨d, t1, u, hs, ps, c, vals, rfl, _⟩ := h
    rfl
  · obtain ⟨d, t1, u, hs, ps, c, vals, rfl, hd, hpm, hT, ht1, hu, q⟩ := h
    refine ⟨_, (pss_cons (ps_if (PW.pt (pw_or (pt_cmpR op_lt (pe_ix ix_tup (pv 1) pe_int (fun _ _ => rfl)) pe_int (nomark _)) (pw_or1 (pt_cmpR op_gt (pe_ix ix_tup (pv 1) pe_int (fun _ _ => rfl)) pe_int (nomark _)))))
      (pss_one (ps_ret pe_str))
      pss_nil)
    (pss_cons (ps_if (pt_cmpR op_gt (pe_callB call_len_seq (by rfl) T.m_len (by decide +kernel) (pa_cons (pe_ix ix_tup (pv 1) pe_int (fun _ _ => rfl)) pa_nil)) pe_int (nomark _))
      (pss_one (ps_ret pe_str))
      pss_nil)
    (pss_cons (ps_for PassesOwn.never rfl (pi_range1 (by rfl) T.m_range (pa_cons (pe_callB call_len_seq (by rfl) T.m_len (by decide +kernel) (pa_cons (pe_ix ix_tup (pv 1) pe_int (fun _ _ => rfl)) pa_nil)) pa_nil)) (pg_name (i := 2) sc__law_unpaid.nd rfl (.inl rfl))
      (pss_cons (ps_set (i := 3) sc__law_unpaid.nd rfl (.inl rfl) (pe_ix ix_list (pe_ix ix_tup (pv 1) pe_int (fun _ _ => rfl)) (pv 2) (fun _ _ => rfl)))
      (pss_cons (ps_if (pt_cmp (pc_dnotin (hu_of hr) (pv 3) (pv 0)))
        (pss_one (ps_ret pe_str))
        pss_nil)
      (pss_one (ps_if (pt_cmpR op_eq (pe_op op_add (pe_dget (hu_of hr) (pv 0) (pv 3) (fun _ _ => rfl)) (pe_bm PySem.F.plainAttrs_list PySem.F.slot_list_count PySem.F.type_list_count mt_lcount (pe_slice sl_list (pe_ix ix_tup (pv 1) pe_int (fun _ _ => rfl)) po_none (po_some (pv 2))) (pa_cons (pv 3) pa_nil))) (pe_op op_pow pe_int pe_int) (nomark _))
        (pss_one (ps_ret pe_str))
        pss_nil)))))
    (pss_cons (ps_if (pt_cmpR op_lt (pe_callB (cr_sum rfl) (by rfl) T.m_sum (by decide +kernel) (pa_cons (pe_ix ix_tup (pv 1) pe_int (fun _ _ => rfl)) pa_nil)) (pe_ix ix_tup (pv 1) pe_int (fun _ _ => rfl)) (nomark _))
      (pss_one (ps_ret pe_str))
      pss_nil)
    (pss_cons (ps_if (pt_cmpR op_gt (pe_op op_sub (pe_callB (cr_sum rfl) (by rfl) T.m_sum (by decide +kernel) (pa_cons (pe_ix ix_tup (pv 1) pe_int (fun _ _ => rfl)) pa_nil)) (pe_ix ix_tup (pv 1) pe_int (fun _ _ => rfl))) pe_int (nomark _))
      (pss_one (ps_ret pe_str))
      pss_nil)
    (pss_one (ps_ret pe_str))))))), ?_⟩
    have nd := hT.nd
    have no : ∀ z : Str, dueP ps c vals = z → z ≠ "" → ∀ H2, Ex H H2 → Q (.str (ansW z)) H2 := fun z hz hz0 H2 e2 => by
      have := q H2 e2
      rw [hz, if_neg hz0] at this
      exact this
    have hvl : ((vals.map V.int).length : Int) = vals.length := by rw [List.length_map]
    refine ⟨_, rfl, t1, _, 1, .int c, rfl, rfl, .of ht1, rfl, _, _, rfl, rfl, _, rfl, iteD (fun z => iteT ?_) (fun z1 => ?_)⟩
    · have z' : c < 0 := z
      exact no "sum" (by unfold dueP; rw [if_neg (by omega)]) (by decide) _ Ex.rfl'
    have z1' : ¬ c < 0 := z1
    refine ⟨_, rfl, t1, _, 1, .int c, rfl, rfl, .of ht1, rfl, _, _, rfl, rfl, _, rfl, iteD (fun z => ?_) (fun z2 => ?_)⟩
    · have z' : c > 1000 := z
      exact no "sum" (by unfold dueP; rw [if_neg (by omega)]) (by decide) _ Ex.rfl'
    have z2' : ¬ c > 1000 := z2
    have hc : 0 ≤ c ∧ c ≤ 1000 := by omega
    refine ⟨_, rfl, t1, _, 2, .ref u, rfl, rfl, .of ht1, rfl, u, _, rfl, .inl (.of hu), _, _, rfl, rfl, _, rfl, iteD (fun e => ?_) (fun e => ?_)⟩
    · have e' : ((vals.map V.int).length : Int) > 60 := e
      exact no "count" (by unfold dueP; rw [if_pos hc, if_pos (by omega)]) (by decide) _ Ex.rfl'
    have e' : ¬ ((vals.map V.int).length : Int) > 60 := e
    have hl : ¬ 60 < vals.length := by omega
    refine ⟨_, rfl, t1, _, 2, .ref u, rfl, rfl, .of ht1, rfl, u, _, rfl, .inl (.of hu), _, rfl, by omega, by omega, ?_⟩
    refine for_range (fun i σ H' => ∃ y2 y3, σ = [some (.ref d), some (.ref t1), y2, y3] ∧ Ex H H' ∧ Tl (fullP ps (vals.take i)) ∧ walkDue ps (vals.take i) (vals.drop i) = walkDue ps [] vals) ⟨_, _, rfl, Ex.rfl', by rw [List.take_zero, fullP_nil]; exact hT, rfl⟩ ?_ ?_
    · rintro i σ H' hi ⟨y2, y3, rfl, ex, hTf, hw⟩
      have hi' : i < vals.length := by omega
      have hv := List.getElem?_eq_getElem hi'
      generalize vals[i] = v at hv
      have hdr : vals.drop i = v :: vals.drop (i + 1) := drop_at hv
      rw [hdr, walkDue_cons] at hw
      have iv : atI (vals.map V.int) (0 + (i : Int)) = some (.int v) := at_of (Int.zero_add _) (by rw [List.getElem?_map, hv]; rfl)
      have ht1' := ex _ _ ht1
      have hu' := ex _ _ hu
      have hd' := ex _ _ hd
      refine ⟨_, rfl, t1, _, 2, .ref u, rfl, rfl, .of ht1', rfl, _, rfl, u, _, _, _, rfl, rfl, .of hu', iv, ?_⟩
      refine ⟨_, rfl, _, rfl, d, _, rfl, DGet.k (k := Sum.inl v) hd', _, rfl, ?_⟩
      rw [val_dk, countIn_perm nd hpm]
      have hcf := countIn_full ps (vals.take i) v
      cases ht : countIn ps v with
      | none =>
        have hpd : pieceDue ps (vals.take i) v = "kind" := by
          unfold pieceDue
          rw [hcf, ht]
          rfl
        rw [hpd, if_neg (by decide)] at hw
        exact iteT (no _ (dueP_walk hc hl hw.symm (by decide)) (by decide) _ ex)
      | some tt =>
        refine iteF ?_
        have vh : valV (dkP hs) (Sum.inl v) = some (.int tt) := by rw [val_dk, countIn_perm nd hpm, ht]; rfl
        have dg : DGet H' d (.int v) (some (.int tt)) := by
          have := DGet.k (k := Sum.inl v) hd'
          rw [vh] at this
          exact this
        refine ⟨_, rfl, _, rfl, d, _, rfl, dg, _, rfl, t1, _, 2, .ref u, rfl, rfl, .of ht1', rfl, _, rfl, _, rfl, u, _, rfl, .of hu', fun l hl2 => ?_⟩
        rw [Int.zero_add, cut_take _ i (by rw [List.length_map]; omega), ← List.map_take]
        (generalize hh : upd H' l _ = H3; have e3 : Ex H' H3 := (by rw [← hh]; exact Ex.nw hl2); have c3 := (show H3 l = some _ by rw [← hh]; exact upd_same); clear hh)
        refine ⟨.inl ⟨rfl, _, .of c3⟩, _, rfl, l, vals.take i, v, rfl, rfl, .of c3, _, _, rfl, rfl, _, _, rfl, rfl, ⟨by decide, by decide, by decide⟩, rfl, _, rfl, iteVI (fun e4 => ?_) (fun e4 => ?_)⟩
        · have e4' : tt + ((vals.take i).count v : Int) = 1000000000 := e4
          have hpd : pieceDue ps (vals.take i) v = "count" := by
            unfold pieceDue
            rw [hcf, ht]
            exact if_pos e4'
          rw [hpd, if_neg (by decide)] at hw
          exact no _ (dueP_walk hc hl hw.symm (by decide)) (by decide) _ (ex.tr e3)
        · have e4' : ¬ tt + ((vals.take i).count v : Int) = 1000000000 := e4
          have hpd : pieceDue ps (vals.take i) v = "" := by
            unfold pieceDue
            rw [hcf, ht]
            exact if_neg e4'
          rw [hpd, if_pos rfl] at hw
          have htl := pieceDue_tl hTf hpd
          rw [← take_snoc hv] at htl hw
          exact ⟨_, _, rfl, ex.tr e3, htl, hw⟩
    · rintro σ H1 ⟨y2, y3, rfl, ex, hTf, hw⟩
      rw [show ((vals.map V.int).length : Int).toNat = vals.length by omega, List.drop_length] at hw
      have hde := dueP_end hc hl hw.symm
      have ht1' := ex _ _ ht1
      have hu' := ex _ _ hu
      refine ⟨_, rfl, t1, _, 2, .ref u, rfl, rfl, .of ht1', rfl, u, vals, rfl, .of hu', _, rfl, t1, _, 1, .int c, rfl, rfl, .of ht1', rfl, _, _, rfl, rfl, _, rfl, iteD (fun e2 => ?_) (fun e2 => ?_)⟩
      · have e3 : vals.sum < c := e2
        rw [if_pos e3] at hde
        exact no _ hde (by decide) _ ex
      have e3 : ¬ vals.sum < c := e2
      rw [if_neg e3] at hde
      refine ⟨_, rfl, t1, _, 2, .ref u, rfl, rfl, .of ht1', rfl, u, vals, rfl, .of hu', _, rfl, t1, _, 1, .int c, rfl, rfl, .of ht1', rfl, _, _, rfl, rfl, _, _, rfl, rfl, _, rfl, iteD (fun e4 => ?_) (fun e4 => ?_)⟩
      · have e5 : vals.sum - c > 1000 := e4
        rw [if_pos e5] at hde
        exact no _ hde (by decide) _ ex
      have e5 : ¬ vals.sum - c > 1000 := e4
      rw [if_neg e5] at hde
      have := q _ ex
      rw [hde, if_pos rfl] at this
      exact this
/-! ### deeds, copied -/
theorem DeedAt.upL {H : Hp} {g : Addr} {zs : List V} {o : HO} (hg : H g = some (.lst zs)) {x : V} {d : Deed} (h : DeedAt H x d) (hx : x ∈ zs) : DeedAt (upd H g o) x d := by
  refine h.up (fun ys z => by rw [hg] at z; cases z) (fun t c u e et hu => ?_)
  obtain ⟨t', rest, e1, e2, h1, _⟩ := head_at h
  have e3 := V.ref.inj (e.symm.trans e1)
  subst e3
  rw [et] at e2
  have e4 := List.cons.inj (HO.tup.inj (Option.some.inj e2))
  obtain ⟨c', vals, rfl⟩ := h1.mp (V.str.inj e4.1).symm
  obtain ⟨t2, u2, f1, f2, f3⟩ := h
  have e5 := V.ref.inj (e.symm.trans f1)
  subst e5
  rw [et] at f2
  cases f2
  rw [hu, hg] at f3
  have e6 := HO.lst.inj (Option.some.inj f3)
  rw [e6] at hx
  obtain ⟨n, _, hn⟩ := List.mem_map.mp hx
  rw [e] at hn
  cases hn
theorem DeedsAt.upL {H : Hp} {g : Addr} {zs : List V} {o : HO} (hg : H g = some (.lst zs)) : ∀ {xs : List V} {ds : List Deed}, DeedsAt H xs ds → (∀ x ∈ xs, x ∈ zs) → DeedsAt (upd H g o) xs ds
  | _, _, .nil, _ => .nil
  | _, _, .cons h r, hx => .cons (h.upL hg (hx _ List.mem_cons_self)) (DeedsAt.upL hg r fun x z => hx x (List.mem_cons_of_mem _ z))
/-- a deed at the end of a list of deeds -/
theorem DeedsAt.push {H0 H : Hp} {g : Addr} {ws : List V} {ds : List Deed} {x : V} {d : Deed} (hg : H g = some (.lst ws)) (h : DeedsAt H ws ds) (hx : DeedAt H x d) (hf : FreshU H0 H x) (hg0 : H0 g ≠ none) : DeedsAt (upd H g (.lst (ws ++ [x]))) (ws ++ [x]) (ds ++ [d]) := by
  refine DeedsAt.snoc (hx.up (fun ys z => by rw [hg] at z; cases z) fun t c u e et hu => ?_) (h.upL hg fun _ z => z)
  exact hg0 (hu ▸ hf t c u e et)
def spCopies (K : PySem.W.Frag) : Sp := fun vs H Q _ => ∃ (a : Addr) (ws : List V) (ds : List Deed), vs = [.ref a] ∧ SqL K H a ws ∧ DeedsAt H ws ds ∧ ds.length ≤ 1000 ∧ ∀ l ws' H2, Ex H H2 → H l = none → H2 l = some (.lst ws') → DeedsAt H2 ws' ds → Q (.ref l) H2
theorem ok_copies (T : Tx K mg) : FnOk P w K mg base CX0 1 T.a__law_copies T.d__law_copies P__law_copies (spCopies K) := by
  refine T.f__law_copies.ok sc__law_copies (fun vs H Q E h => ?_) (fun cdv A outer s H vs Q E hr h => ?_)
  · obtain ⟨a, ws, ds, rfl, _⟩ := h
    rfl
  · obtain ⟨a, ws, ds, rfl, hS, hds, hl, q⟩ := h
    refine ⟨_, (pss_cons (ps_set (i := 1) sc__law_copies.nd rfl (.inl rfl) (pe_lst pa_nil))
    (pss_cons (ps_for PassesOwn.never rfl (pi_list (pv 0)) (pg_name (i := 2) sc__law_copies.nd rfl (.inl rfl))
      (pss_one (ps_if (pt_cmpR op_eq (pe_ix ix_tup (pv 2) pe_int (fun _ _ => rfl)) pe_str (nomark _))
        (pss_one (ps_expr (pe_bm PySem.F.plainAttrs_list PySem.F.slot_list_append PySem.F.type_list_append mt_append (pv 1) (pa_cons (pe_tup (pa_cons (pe_ix ix_tup (pv 2) pe_int (fun _ _ => rfl)) (pa_cons (pe_ix ix_tup (pv 2) pe_int (fun _ _ => rfl)) (pa_cons (pe_callTy call_list_of (by rfl) T.m_list (by decide +kernel) (pa_cons (pe_ix ix_tup (pv 2) pe_int (fun _ _ => rfl)) pa_nil)) pa_nil)))) pa_nil))))
        (pss_one (ps_expr (pe_bm PySem.F.plainAttrs_list PySem.F.slot_list_append PySem.F.type_list_append mt_append (pv 1) (pa_cons (pv 2) pa_nil)))))))
    (pss_one (ps_ret (pv 1))))), ?_⟩
    have hwl := hds.len
    refine ⟨Nat.zero_le _, fun g hg => ?_⟩
    refine ⟨_, rfl, a, rfl, ⟨ws, (Ex.nw hg).seq hS⟩, for_list (xs := ws) (fun i σ H' => ∃ (ws' : List V) (y2 : Option V), σ = [some (.ref a), some (.ref g), y2] ∧ Ex H H' ∧ H' g = some (.lst ws') ∧ DeedsAt H' ws' (ds.take i)) ⟨[], _, rfl, Ex.nw hg, upd_same, .nil⟩ (fun i σ H' _ h => by
      obtain ⟨_, _, _, e, _⟩ := h
      exact e.seq hS) ?_ ?_⟩
    · rintro i x σ H1 hx ⟨ws', y2, rfl, ex, eg, hd⟩
      obtain ⟨d, hdi, hda⟩ := hds.get hx
      have hi : i < ds.length := (List.getElem?_eq_some_iff.mp hdi).1
      obtain ⟨t, rest, rfl, ht, hp, _⟩ := head_at hda
      have ht1 := ex _ _ ht
      have hwl' := hd.len
      rw [List.length_take] at hwl'
      refine ⟨_, rfl, t, _, 0, .str (headW d), rfl, rfl, .of ht1, at_of (show (0 : Int) = ((0 : Nat) : Int) from rfl) (List.getElem?_cons_zero), rfl, _, rfl, iteD (fun y => ?_) (fun y => ?_)⟩
      · obtain ⟨c, vals, rfl⟩ := hp.mp (V.str.inj y)
        obtain ⟨t', u, e, ht', hu⟩ := hda
        cases e
        have ht2 := ex _ _ ht'
        have hu2 := ex _ _ hu
        refine ⟨_, rfl, .inl ⟨rfl, _, .of eg⟩, _, rfl, t, _, 0, .str "paid", rfl, rfl, .of ht2, rfl, _, rfl, t, _, 1, .int c, rfl, rfl, .of ht2, rfl, _, rfl, t, _, 2, .ref u, rfl, rfl, .of ht2, rfl, u, _, rfl, .inl (.of hu2), fun u2 hu0 => ?_⟩
        (generalize hh : upd H1 u2 _ = H2; have e2 : Ex H1 H2 := (by rw [← hh]; exact Ex.nw hu0); have c2 := (show H2 u2 = some _ by rw [← hh]; exact upd_same); clear hh)
        refine ⟨len63 (by show 3 ≤ _; decide), fun t3 ht3 => ?_⟩
        (generalize hh : upd H2 t3 _ = H3; have e3 : Ex H2 H3 := (by rw [← hh]; exact Ex.nw ht3); have c3 := (show H3 t3 = some _ by rw [← hh]; exact upd_same); clear hh)
        have e23 := e2.tr e3
        have eg3 := e23 _ _ eg
        refine ⟨g, _, _, rfl, rfl, eg3, len63' (by omega), ?_⟩
        refine ⟨_, _, rfl, Ex.mu (ex.tr e23) hg, upd_same, ?_⟩
        rw [take_snoc hdi]
        refine DeedsAt.push (H0 := H1) eg3 (hd.ex e23) ⟨t3, u2, rfl, c3, e3 _ _ c2⟩ (fun t' c' u' e h => ?_) (by rw [eg]; exact fun z => nomatch z)
        cases e
        rw [c3] at h
        cases h
        exact hu0
      · refine ⟨_, rfl, .inl ⟨rfl, _, .of eg⟩, _, rfl, g, _, _, rfl, rfl, eg, len63' (by omega), ?_⟩
        refine ⟨_, _, rfl, Ex.mu ex hg, upd_same, ?_⟩
        rw [take_snoc hdi]
        exact DeedsAt.push (H0 := H1) eg hd (hda.ex ex) (no_paid ht1 fun z => y (congrArg V.str z)) (by rw [eg]; exact fun z => nomatch z)
    · rintro σ H1 ⟨ws', y2, rfl, ex, eg, hd⟩
      rw [List.take_of_length_le (by omega)] at hd
      exact ⟨_, rfl, q g ws' _ ex hg eg hd⟩
--@split
/-! ### a whole number -/
def spWhole : Sp := fun vs H Q _ => ∃ i : Int, vs = [.int i] ∧ Q (.bl true) H
theorem ok_whole (T : Tx K mg) : FnOk P w K mg base CX0 1 T.a__law_whole T.d__law_whole P__law_whole spWhole := by
  refine T.f__law_whole.ok sc__law_whole (fun vs H Q E h => ?_) (fun cdv A outer s H vs Q E hr h => ?_)
  · obtain ⟨i, rfl, _⟩ := h
    rfl
  · obtain ⟨i, rfl, q⟩ := h
    refine ⟨_, (pss_one (ps_ret (pe_and (pe_callB call_isi (by rfl) T.m_isinstance (by decide +kernel) (pa_cons (pv 0) (pa_cons (pe_bltn (v := .ty "int") (by rfl) T.m_int (by decide +kernel) rfl) pa_nil))) (pe_one (pe_not (pe_callB call_isi (by rfl) T.m_isinstance (by decide +kernel) (pa_cons (pv 0) (pa_cons (pe_bltn (v := .ty "bool") (by rfl) T.m_bool (by decide +kernel) rfl) pa_nil)))))))), ?_⟩
    refine ⟨_, rfl, _, _, _, _, true, rfl, .ty "int", .base (.int _), kit_ty (by decide +kernel), true, rfl, iteT ?_⟩
    exact ⟨_, rfl, _, _, _, _, false, rfl, .ty "bool", .base (.int _), kit_ty (by decide +kernel), false, rfl, q⟩
/-! ### the law's own walk over the table -/
def spLeast (K : PySem.W.Frag) : Sp := fun vs H Q _ => ∃ (a : Addr) (r : List Cell) (d v c : Nat), vs = [.ref a, .int (d : Int), .int (v : Int), .int (c : Int)] ∧ Row K H a r ∧ d < r.length ∧ 1 ≤ v ∧ v ≤ 100000 ∧ d ≤ 100000 ∧ Q (vO (leastF r v c d)) H
theorem ok_least (T : Tx K mg) : FnOk P w K mg base CX0 1 T.a__law_least T.d__law_least P__law_least (spLeast K) := by
  refine T.f__law_least.ok sc__law_least (fun vs H Q E h => ?_) (fun cdv A outer s H vs Q E hr h => ?_)
  · obtain ⟨a, r, d, v, c, rfl, _⟩ := h
    rfl
  · obtain ⟨a, r, d, v, c, rfl, hS, hd, hv1, hv2, hd2, q⟩ := h
    refine ⟨_, (pss_cons (ps_set (i := 4) sc__law_least.nd rfl (.inl rfl) pe_non)
    (pss_cons (ps_for PassesOwn.never rfl (pi_range1 (by rfl) T.m_range (pa_cons (pe_op op_add (pe_callB (call_min2 rfl) (by rfl) T.m_min (by decide +kernel) (pa_cons (pv 3) (pa_cons (pe_op op_fdiv (pv 1) (pv 2)) pa_nil))) pe_int) pa_nil)) (pg_name (i := 5) sc__law_least.nd rfl (.inl rfl))
      (pss_cons (ps_set (i := 6) sc__law_least.nd rfl (.inl rfl) (pe_ix ix_list (pv 0) (pe_op op_sub (pv 1) (pe_op op_mul (pv 5) (pv 2))) (fun _ _ => rfl)))
      (pss_one (ps_if (PW.pt (pw_and (pt_cmpR op_notN (pv 6) pe_non (nomark _)) (pw_and1 (PW.pt (pw_or (pt_cmpR op_isN (pv 4) pe_non (nomark _)) (pw_or1 (pt_cmpR op_lt (pe_op op_add (pv 6) (pv 5)) (pv 4) (nomark _))))))))
        (pss_one (ps_set (i := 4) sc__law_least.nd rfl (.inl rfl) (pe_op op_add (pv 6) (pv 5))))
        pss_nil))))
    (pss_one (ps_ret (pv 4))))), ?_⟩
    have hS' : SqL K H a (r.map vO) := hS
    obtain ⟨n, hn, hnn⟩ : ∃ n : Nat, (if (d : Int) / (v : Int) < (c : Int) then (d : Int) / (v : Int) else (c : Int)) = (n : Int) ∧ n = min c (d / v) := by
      rw [← Int.natCast_ediv]
      by_cases h : ((d / v : Nat) : Int) < (c : Int)
      · exact ⟨d / v, if_pos h, by omega⟩
      · exact ⟨c, if_neg h, by omega⟩
    have hnd : n ≤ d := by
      have : d / v ≤ d := Nat.div_le_self ..
      omega
    have hnv : n * v ≤ d := by
      rw [hnn]
      exact Nat.le_trans (Nat.mul_le_mul_right _ (Nat.min_le_right ..)) (Nat.div_mul_le_self ..)
    refine ⟨_, rfl, _, rfl, _, rfl, _, _, rfl, rfl, ⟨by omega, by omega⟩, _, _, rfl, ?_⟩
    rw [hn]
    refine ⟨_, _, rfl, rfl, _, rfl, by omega, by omega, ?_⟩
    refine for_range (fun i σ H' => ∃ y5 y6, σ = [some (.ref a), some (.int (d : Int)), some (.int (v : Int)), some (.int (c : Int)), some (vO (leastUp r v d i)), y5, y6] ∧ H' = H) ⟨_, _, rfl, rfl⟩ ?_ ?_
    · rintro i σ H' hi ⟨y5, y6, rfl, rfl⟩
      have hiv : i * v ≤ d := Nat.le_trans (Nat.mul_le_mul_right _ (by omega : i ≤ n)) hnv
      have a1 : atI (r.map vO) ((d : Int) - (0 + (i : Int)) * (v : Int)) = some (vO (rAt r (d - i * v))) := at_of (j := d - i * v) (by
        rw [Int.zero_add, ← Int.natCast_mul]
        omega) (vO_at (by omega))
      refine ⟨_, rfl, _, rfl, _, rfl, _, rfl, _, _, rfl, rfl, .inr ⟨by omega, by omega⟩, _, _, rfl, rfl, a, _, _, _, rfl, rfl, hS', a1, ?_⟩
      cases hx : rAt r (d - i * v) with
      | none =>
        refine ⟨_, rfl, rfl, _, rfl, iteDN (fun z => absurd rfl z) (fun _ => iteF ?_)⟩
        refine ⟨some (.int (0 + (i : Int))), some .non, ?_, rfl⟩
        rw [show leastUp r v d (i + 1) = leastUp r v d i by show bund _ _ _ = _; rw [hx]; rfl]
        rfl
      | some x =>
        refine ⟨_, rfl, rfl, _, rfl, iteDN (fun _ => ?_) (fun z => nomatch z)⟩
        have hup : leastUp r v d (i + 1) = bund (leastUp r v d i) (some x) (i : Int) := by show bund _ _ _ = _; rw [hx]
        cases hy : leastUp r v d i with
        | none =>
          refine ⟨_, rfl, rfl, _, rfl, iteD (fun _ => iteT ?_) (fun z => absurd rfl z)⟩
          refine ⟨_, rfl, _, rfl, _, _, rfl, rfl, some (.int (0 + (i : Int))), some (.int x), ?_, rfl⟩
          rw [hup, hy, show bund none (some x) (i : Int) = some (x + (0 + (i : Int))) by rw [Int.zero_add]; rfl]
          rfl
        | some y =>
          refine ⟨_, rfl, rfl, _, rfl, iteD (fun z => nomatch z) (fun _ => ?_)⟩
          refine ⟨_, rfl, _, rfl, _, _, rfl, rfl, _, rfl, _, _, rfl, rfl, _, rfl, iteD (fun e => ?_) (fun e => ?_)⟩
          · refine ⟨_, rfl, _, rfl, _, _, rfl, rfl, some (.int (0 + (i : Int))), some (.int x), ?_, rfl⟩
            have e' : x + (0 + (i : Int)) < y := e
            rw [hup, hy, show bund (some y) (some x) (i : Int) = some (x + (0 + (i : Int))) by
              rw [Int.zero_add] at e' ⊢
              exact if_pos e']
            rfl
          · refine ⟨some (.int (0 + (i : Int))), some (.int x), ?_, rfl⟩
            have e' : ¬ x + (0 + (i : Int)) < y := e
            rw [Int.zero_add] at e'
            rw [hup, hy, show bund (some y) (some x) (i : Int) = some y from if_neg e', ← hy]
            rfl
    · rintro σ H' ⟨y5, y6, rfl, rfl⟩
      refine ⟨_, rfl, ?_⟩
      rw [show ((n : Int) + 1).toNat = n + 1 by omega, hnn]
      exact q
/-! ### a row, looked at -/
def spRow : Sp := fun vs H Q _ => ∃ (a : Addr) (r : List Cell) (n : Int), vs = [.ref a, .int n] ∧ H a = some (.lst (r.map vO)) ∧ (r.length : Int) = n ∧ Q (.bl true) H
theorem ok_row (T : Tx K mg) : FnOk P w K mg base CX0 2 T.a__law_row T.d__law_row P__law_row spRow := by
  have G__law_whole := ok_whole (P := P) (w := w) (base := base) T
  refine T.f__law_row.ok sc__law_row (fun vs H Q E h => ?_) (fun cdv A outer s H vs Q E hr h => ?_)
  · obtain ⟨a, r, n, rfl, _⟩ := h
    rfl
  · obtain ⟨a, r, n, rfl, ha, hn, q⟩ := h
    refine ⟨_, (pss_cons (ps_if (PW.pt (pw_or (pt_not (pt_val (pe_callB call_isi (by rfl) T.m_isinstance (by decide +kernel) (pa_cons (pv 0) (pa_cons (pe_bltn (v := .ty "list") (by rfl) T.m_list (by decide +kernel) rfl) pa_nil))))) (pw_or1 (pt_cmpR op_ne (pe_callB call_len_seq (by rfl) T.m_len (by decide +kernel) (pa_cons (pv 0) pa_nil)) (pv 1) (nomark _)))))
      (pss_one (ps_ret pe_bl))
      pss_nil)
    (pss_cons (ps_for PassesOwn.never rfl (pi_list (pv 0)) (pg_name (i := 2) sc__law_row.nd rfl (.inl rfl))
      (pss_one (ps_if (PW.pt (pw_and (pt_cmpR op_notN (pv 2) pe_non (nomark _)) (pw_and1 (pt_not (pt_val (pe_call G__law_whole (hr.mono (by decide)) (by rfl) T.g__law_whole T.f__law_whole.kp T.p__law_whole .nil pass0 (pa_cons (pv 2) pa_nil)))))))
        (pss_one (ps_ret pe_bl))
        pss_nil)))
    (pss_one (ps_ret pe_bl)))), ?_⟩
    subst hn
    refine ⟨_, rfl, _, _, _, _, true, rfl, .ty "list", .base (.lst ha), kit_ty (by decide +kernel), _, rfl, iteF ?_⟩
    refine ⟨_, rfl, a, _, rfl, .inl (.of ha), _, rfl, rfl, _, rfl, iteVN (fun z => absurd (by rw [List.length_map]) z) (fun _ => ?_)⟩
    refine ⟨_, rfl, a, rfl, ⟨_, .of ha⟩, for_list (xs := r.map vO) (fun i σ H' => ∃ y2, σ = [some (.ref a), some (.int (r.length : Int)), y2] ∧ H' = H) ⟨_, rfl, rfl⟩ (fun i σ H' _ h => by obtain ⟨_, _, rfl⟩ := h; exact .of ha) ?_ ?_⟩
    · rintro i x σ H' hx ⟨y2, rfl, rfl⟩
      rw [List.getElem?_map] at hx
      obtain ⟨c, _, rfl⟩ := Option.map_eq_some_iff.mp hx
      cases c with
      | none => exact ⟨_, rfl, rfl, _, rfl, iteDN (fun z => absurd rfl z) (fun _ => iteF ⟨_, rfl, rfl⟩)⟩
      | some j => exact ⟨_, rfl, rfl, _, rfl, iteDN (fun _ => ⟨_, rfl, j, rfl, true, rfl, iteF ⟨_, rfl, rfl⟩⟩) (fun z => nomatch z)⟩
    · rintro σ H' ⟨y2, rfl, rfl⟩
      exact q
/-! ### rows as data -/
def dO : Cell → PyData
  | none => .none
  | some i => .int i
def rowD (r : List Cell) : PyData := .list (r.map dO)
theorem cell_dp {K : PySem.W.Frag} {H : Hp} (c : Cell) : Dp K H (vO c) (dO c) := by
  cases c with
  | none => exact .non
  | some i => exact .int i
theorem cells_dp {K : PySem.W.Frag} {H : Hp} : ∀ r : List Cell, DpAll K H (r.map vO) (r.map dO)
  | [] => .nil
  | c :: r => .cons (cell_dp c) (cells_dp r)
theorem row_dp {K : PySem.W.Frag} {H : Hp} {a : Addr} {r : List Cell} (h : SqL K H a (r.map vO)) : Dp K H (.ref a) (rowD r) := .lst h (cells_dp r)
theorem canLay_cells : ∀ r : List Cell, PyData.canLayAll0 (r.map dO) = true
  | [] => rfl
  | c :: r => by
    rw [List.map_cons]
    show (PyData.canLay0 (dO c) && PyData.canLayAll0 (r.map dO)) = true
    rw [canLay_cells r]
    cases c <;> rfl
theorem depth_cells : ∀ r : List Cell, PyData.depthAll (r.map dO) ≤ 3
  | [] => by decide
  | c :: r => by
    have h := depth_cells r
    rw [List.map_cons]
    show max (PyData.depth (dO c)) (PyData.depthAll (r.map dO)) ≤ 3
    have : PyData.depth (dO c) ≤ 3 := by cases c <;> simp [dO, PyData.depth]
    omega
theorem shaped_row (r : List Cell) : SeqAt.shaped (rowD r) = true := by
  unfold SeqAt.shaped
  have h1 : PyData.canLay0 (rowD r) = true := canLay_cells r
  have h2 : PyData.depth (rowD r) ≤ 64 := by
    have := depth_cells r
    simp only [rowD, PyData.depth]
    omega
  rw [h1, decide_eq_true h2]
  rfl
def rowsD (rs : List (List Cell)) : PyData := .list (rs.map rowD)
theorem canLay_rows : ∀ rs : List (List Cell), PyData.canLayAll0 (rs.map rowD) = true
  | [] => rfl
  | r :: rs => by
    rw [List.map_cons]
    show (PyData.canLay0 (rowD r) && PyData.canLayAll0 (rs.map rowD)) = true
    rw [canLay_rows rs]
    rw [show PyData.canLay0 (rowD r) = true from canLay_cells r]
    rfl
theorem depth_rows : ∀ rs : List (List Cell), PyData.depthAll (rs.map rowD) ≤ 10
  | [] => by decide
  | r :: rs => by
    have h := depth_rows rs
    rw [List.map_cons]
    show max (PyData.depth (rowD r)) (PyData.depthAll (rs.map rowD)) ≤ 10
    have : PyData.depth (rowD r) ≤ 10 := by
      have := depth_cells r
      simp only [rowD, PyData.depth]
      omega
    omega
theorem shaped_rows (rs : List (List Cell)) : SeqAt.shaped (rowsD rs) = true := by
  unfold SeqAt.shaped
  have h1 : PyData.canLay0 (rowsD rs) = true := canLay_rows rs
  have h2 : PyData.depth (rowsD rs) ≤ 64 := by
    have := depth_rows rs
    simp only [rowsD, PyData.depth]
    omega
  rw [h1, decide_eq_true h2]
  rfl
theorem rows_dpAll {K : PySem.W.Frag} {H : Hp} : ∀ {as : List Addr} {rs : List (List Cell)}, RowsAt H as rs → DpAll K H (as.map V.ref) (rs.map rowD)
  | _, _, .nil => .nil
  | _, _, .cons h r => .cons (row_dp (.of h)) (rows_dpAll r)
theorem rows_dp {K : PySem.W.Frag} {H : Hp} {R : Addr} {as : List Addr} {rs : List (List Cell)} (h : SqL K H R (as.map V.ref)) (k : RowsAt H as rs) : Dp K H (.ref R) (rowsD rs) := .lst h (rows_dpAll k)
def spWalked (K : PySem.W.Frag) : Sp := fun vs H Q _ => ∃ (R t : Addr) (as : List Addr) (ps : List (Int × Int)) (n : Nat), vs = [.ref R, .ref t, .int (n : Int)] ∧ H R = some (.lst (as.map V.ref)) ∧ RowsAt H as (rowsOf (row0 n) ps) ∧ Till K H t ps ∧ n ≤ 1000 ∧ ps.length ≤ 1000 ∧
  (∀ p ∈ ps, 1 ≤ p.1 ∧ p.1 ≤ 1000 ∧ 0 ≤ p.2) ∧ Ret (.bl true) H Q
theorem ok_walked (T : Tx K mg) : FnOk P w K mg base CX0 3 T.a__law_walked T.d__law_walked P__law_walked (spWalked K) := by
  have G__law_row := ok_row (P := P) (w := w) (base := base) T
  have G__law_least := ok_least (P := P) (w := w) (base := base) T
  refine T.f__law_walked.ok sc__law_walked (fun vs H Q E h => ?_) (fun cdv A outer s H vs Q E hr h => ?_)
  · obtain ⟨R, t, as, ps, n, rfl, _⟩ := h
    rfl
  · obtain ⟨R, t, as, ps, n, rfl, eR, hrows, ⟨xs, hS, hp⟩, hn, hl, hv, q⟩ := h
    refine ⟨_, (pss_cons (ps_if (PW.pt (pw_or (pt_not (pt_val (pe_callB call_isi (by rfl) T.m_isinstance (by decide +kernel) (pa_cons (pv 0) (pa_cons (pe_bltn (v := .ty "list") (by rfl) T.m_list (by decide +kernel) rfl) pa_nil))))) (pw_or (pt_cmpR op_ne (pe_callB call_len_seq (by rfl) T.m_len (by decide +kernel) (pa_cons (pv 0) pa_nil)) (pe_op op_add (pe_callB call_len_seq (by rfl) T.m_len (by decide +kernel) (pa_cons (pv 1) pa_nil)) pe_int) (nomark _)) (pw_or1 (pt_not (pt_val (pe_call G__law_row (hr.mono (by decide)) (by rfl) T.g__law_row T.f__law_row.kp T.p__law_row .nil pass0 (pa_cons (pe_ix ix_list (pv 0) pe_int (fun _ _ => rfl)) (pa_cons (pe_op op_add (pv 2) pe_int) pa_nil)))))))))
      (pss_one (ps_ret pe_bl))
      pss_nil)
    (pss_cons (ps_if (pt_cmpR (op_neD hr.units) (pe_ix ix_list (pv 0) pe_int (fun _ _ => rfl)) (pe_op op_cat (pe_lst (pa_cons pe_int pa_nil)) (pe_op op_rep (pe_lst (pa_cons pe_non pa_nil)) (pv 2))) (nomark _))
      (pss_one (ps_ret pe_bl))
      pss_nil)
    (pss_cons (ps_for PassesOwn.never rfl (pi_range1 (by rfl) T.m_range (pa_cons (pe_callB call_len_seq (by rfl) T.m_len (by decide +kernel) (pa_cons (pv 1) pa_nil)) pa_nil)) (pg_name (i := 3) sc__law_walked.nd rfl (.inl rfl))
      (pss_cons (ps_if (pt_not (pt_val (pe_call G__law_row (hr.mono (by decide)) (by rfl) T.g__law_row T.f__law_row.kp T.p__law_row .nil pass0 (pa_cons (pe_ix ix_list (pv 0) (pe_op op_add (pv 3) pe_int) (fun _ _ => rfl)) (pa_cons (pe_op op_add (pv 2) pe_int) pa_nil)))))
        (pss_one (ps_ret pe_bl))
        pss_nil)
      (pss_one (ps_for PassesOwn.never rfl (pi_range1 (by rfl) T.m_range (pa_cons (pe_op op_add (pv 2) pe_int) pa_nil)) (pg_name (i := 4) sc__law_walked.nd rfl (.inl rfl))
        (pss_one (ps_if (pt_cmpR op_ne (pe_ix ix_list (pe_ix ix_list (pv 0) (pe_op op_add (pv 3) pe_int) (fun _ _ => rfl)) (pv 4) (fun _ _ => rfl)) (pe_call G__law_least (hr.mono (by decide)) (by rfl) T.g__law_least T.f__law_least.kp T.p__law_least .nil pass0 (pa_cons (pe_ix ix_list (pv 0) (pv 3) (fun _ _ => rfl)) (pa_cons (pv 4) (pa_cons (pe_ix ix_tup (pe_ix ix_list (pv 1) (pv 3) (fun _ _ => rfl)) pe_int (fun _ _ => rfl)) (pa_cons (pe_ix ix_tup (pe_ix ix_list (pv 1) (pv 3) (fun _ _ => rfl)) pe_int (fun _ _ => rfl)) pa_nil))))) (nomark _))
          (pss_one (ps_ret pe_bl))
          pss_nil))))))
    (pss_one (ps_ret pe_bl))))), ?_⟩
    have hal : (as.map V.ref).length = ps.length + 1 := by rw [List.length_map, hrows.len, rowsOf_len]
    obtain ⟨a0, i0, _, ea0⟩ := at_row hrows (i := 0) (k := 0) rfl (rowsOf_at _ _ 0 (Nat.zero_le _))
    have ea0' : H a0 = some (.lst ((row0 n).map vO)) := ea0
    refine ⟨_, rfl, _, _, _, _, true, rfl, .ty "list", .base (.lst eR), kit_ty (by decide +kernel), _, rfl, iteF ?_⟩
    refine ⟨_, rfl, R, _, rfl, .inl (.of eR), _, rfl, t, xs, rfl, .inl hS, _, _, rfl, rfl, rfl, _, rfl, iteVN (fun z => absurd (by rw [hal, hp.len]; rfl) z) (fun _ => ?_)⟩
    refine ⟨_, rfl, R, _, _, .ref a0, rfl, rfl, .of eR, i0, _, rfl, _, _, rfl, rfl, a0, row0 n, _, rfl, ea0', by rw [row0_len]; rfl, true, rfl, iteF ?_⟩
    refine ⟨_, rfl, R, _, _, .ref a0, rfl, rfl, .of eR, i0, ?_⟩
    refine ⟨len63 (by show 1 ≤ _; decide), fun l1 hl1 => ?_⟩
    (generalize hh : upd H l1 _ = H1; have e1 : Ex H H1 := (by rw [← hh]; exact Ex.nw hl1); have c1 := (show H1 l1 = some _ by rw [← hh]; exact upd_same); clear hh)
    refine ⟨len63 (by show 1 ≤ _; decide), fun l2 hl2 => ?_⟩
    (generalize hh : upd H1 l2 _ = H2; have e2 : Ex H1 H2 := (by rw [← hh]; exact Ex.nw hl2); have c2 := (show H2 l2 = some _ by rw [← hh]; exact upd_same); clear hh)
    refine ⟨_, rfl, l2, _, _, rfl, rfl, c2, by omega, by omega, len63 (by rw [Int.toNat_natCast]; show 1 * n ≤ _; omega), fun l3 hl3 => ?_⟩
    rw [Int.toNat_natCast]
    (generalize hh : upd H2 l3 _ = H3; have e3 : Ex H2 H3 := (by rw [← hh]; exact Ex.nw hl3); have c3 := (show H3 l3 = some _ by rw [← hh]; exact upd_same); clear hh)
    refine ⟨l1, l3, _, _, rfl, rfl, e3 _ _ (e2 _ _ c1), c3, len63 (by simp; omega), fun l4 hl4 => ?_⟩
    rw [row0_map]
    (generalize hh : upd H3 l4 _ = H4; have e4 : Ex H3 H4 := (by rw [← hh]; exact Ex.nw hl4); have c4 := (show H4 l4 = some _ by rw [← hh]; exact upd_same); clear hh)
    have ex4 := ((e1.tr e2).tr e3).tr e4
    refine ⟨_, _, row_dp (K := K) (.of (ex4 _ _ ea0')), row_dp (K := K) (.of c4), shaped_row _, shaped_row _, ?_⟩
    rw [eqv_of_shaped (shaped_row _)]
    refine ⟨_, rfl, iteF ?_⟩
    have eR4 := ex4 _ _ eR
    have hrows4 := hrows.ex ex4
    have hS4 := ex4.seq hS
    have hp4 := hp.ex ex4
    refine ⟨_, rfl, t, xs, rfl, .inl hS4, _, rfl, by rw [hp.len]; omega, by rw [hp.len]; omega, ?_⟩
    refine for_range (fun i σ H' => ∃ y3 y4, σ = [some (.ref R), some (.ref t), some (.int (n : Int)), y3, y4] ∧ H' = H4) ⟨_, _, rfl, rfl⟩ ?_ ?_
    · rintro k σ H' hk ⟨y3, y4, rfl, rfl⟩
      have hk' : k < ps.length := by rw [Int.toNat_natCast, hp.len] at hk; exact hk
      obtain ⟨b, ib, _, eb⟩ := at_row hrows4 (i := 0 + (k : Int) + 1) (k := k + 1) (by omega) (rowsOf_at _ _ (k + 1) (by omega))
      obtain ⟨a, ia, _, ea⟩ := at_row hrows4 (i := 0 + (k : Int)) (k := k) (by omega) (rowsOf_at _ _ k (by omega))
      have hpk := List.getElem?_eq_getElem hk'
      obtain ⟨t2, hx0, h3⟩ := Prs.getL hp4 hpk
      have hpv := hv _ (List.getElem_mem hk')
      generalize ps[k] = p at hpk h3 hpv
      have hx : atI xs (0 + (k : Int)) = some (.ref t2) := at_of (Int.zero_add _) hx0
      have hll : ∀ j, (lastRow (row0 n) (ps.take j)).length = n + 1 := fun j => by rw [lastRow_len, row0_len]
      refine ⟨_, rfl, _, rfl, _, _, rfl, rfl, R, _, _, _, rfl, rfl, .of eR4, ib, _, rfl, _, _, rfl, rfl, b, _, _, rfl, eb, by rw [hll]; rfl, true, rfl, iteF ?_⟩
      refine ⟨_, rfl, _, _, rfl, rfl, _, rfl, by omega, by omega, ?_⟩
      refine for_range (fun i σ H9 => ∃ y4, σ = [some (.ref R), some (.ref t), some (.int (n : Int)), some (.int (0 + (k : Int))), y4] ∧ H9 = H') ⟨_, rfl, rfl⟩ ?_ ?_
      · rintro d σ H9 hd ⟨y4, rfl, rfl⟩
        have hd' : d < n + 1 := by omega
        have c1 : rAt (lastRow (row0 n) (ps.take (k + 1))) d = leastF (lastRow (row0 n) (ps.take k)) p.1.toNat p.2.toNat d := by
          rw [take_snoc hpk, lastRow_snoc]
          exact rAt_map (by rw [hll]; exact hd')
        have id : atI ((lastRow (row0 n) (ps.take (k + 1))).map vO) (0 + (d : Int)) = some (vO (leastF (lastRow (row0 n) (ps.take k)) p.1.toNat p.2.toNat d)) := at_of (Int.zero_add _) (by
          rw [vO_at (by rw [hll]; exact hd'), c1])
        refine ⟨_, rfl, _, rfl, _, _, rfl, rfl, R, _, _, _, rfl, rfl, .of eR4, ib, _, rfl, b, _, _, _, rfl, rfl, .of eb, id, ?_⟩
        refine ⟨_, rfl, _, rfl, R, _, _, _, rfl, rfl, .of eR4, ia, _, rfl, _, rfl, _, rfl, t, xs, _, _, rfl, rfl, hS4, hx, t2, _, 0, .int p.1, rfl, rfl, .of h3, rfl, ?_⟩
        refine ⟨_, rfl, _, rfl, t, xs, _, _, rfl, rfl, hS4, hx, t2, _, 1, .int p.2, rfl, rfl, .of h3, rfl, ?_⟩
        refine ⟨a, _, d, p.1.toNat, p.2.toNat, by rw [Int.toNat_of_nonneg (by omega), Int.toNat_of_nonneg (by omega), Int.zero_add]; rfl, .of ea, by rw [hll]; exact hd', by omega, by omega, by omega, ?_⟩
        generalize leastF _ _ _ _ = o
        have hsc : scal (vO o) (vO o) = true := by cases o <;> rfl
        exact ⟨hsc, _, rfl, iteDN (fun z => absurd rfl z) (fun _ => ⟨_, rfl, rfl⟩)⟩
      · rintro σ H9 ⟨y4, rfl, rfl⟩
        exact ⟨_, _, rfl, rfl⟩
    · rintro σ H' ⟨y3, y4, rfl, rfl⟩
      exact q _ ex4
/-! ### a change, looked at -/
def lookL (v : Int) (l : List (Int × Int)) : Int := l.foldl (fun acc q => if q.1 = v then q.2 else acc) 0
theorem lookL_snoc (v : Int) (l : List (Int × Int)) (p : Int × Int) : lookL v (l ++ [p]) = if p.1 = v then p.2 else lookL v l := by
  unfold lookL
  rw [List.foldl_append]
  rfl
theorem lookL_in {v c : Int} : ∀ {l : List (Int × Int)} (z : Int), (l.map (·.1)).Nodup → (v, c) ∈ l → l.foldl (fun acc q => if q.1 = v then q.2 else acc) z = c
  | p :: l, z, nd, h => by
    rw [List.map_cons, List.nodup_cons] at nd
    rw [List.foldl_cons]
    rcases List.mem_cons.mp h with e | e
    · subst e
      rw [if_pos rfl]
      have : ∀ (k : List (Int × Int)) (y : Int), v ∉ k.map (·.1) → k.foldl (fun acc q => if q.1 = v then q.2 else acc) y = y := by
        intro k
        induction k with
        | nil => intro y _; rfl
        | cons q k ih =>
          intro y hn
          rw [List.map_cons, List.mem_cons, not_or] at hn
          rw [List.foldl_cons, if_neg fun e => hn.1 e.symm]
          exact ih y hn.2
      exact this l c nd.1
    · exact lookL_in _ nd.2 e
def spChange (K : PySem.W.Frag) : Sp := fun vs H Q _ => ∃ (a t : Addr) (d : Int) (xs : List V) (gs ps : List (Int × Int)), vs = [.ref a, .ref t, .int d] ∧ H a = some (.lst xs) ∧ Prs H xs gs ∧ Till K H t ps ∧ (ps.map (·.1)).Nodup ∧
  gs.Pairwise (fun p q => p.1 < q.1) ∧ (∀ q ∈ gs, 1 ≤ q.1 ∧ q.1 ≤ 1000 ∧ 1 ≤ q.2 ∧ ∃ c, (q.1, c) ∈ ps ∧ q.2 ≤ c) ∧ worthP gs = d ∧ Q (.int (manyP gs)) H
theorem ok_change (T : Tx K mg) : FnOk P w K mg base CX0 2 T.a__law_change T.d__law_change P__law_change (spChange K) := by
  have G__law_whole := ok_whole (P := P) (w := w) (base := base) T
  refine T.f__law_change.ok sc__law_change (fun vs H Q E h => ?_) (fun cdv A outer s H vs Q E hr h => ?_)
  · obtain ⟨a, t, d, xs, gs, ps, rfl, _⟩ := h
    rfl
  · obtain ⟨a, t, d, xs, gs, ps, rfl, ha, hp, ⟨ts, hS, ht⟩, nd, hri, hgs, hw, q⟩ := h
    refine ⟨_, (pss_cons (ps_if (pt_not (pt_val (pe_callB call_isi (by rfl) T.m_isinstance (by decide +kernel) (pa_cons (pv 0) (pa_cons (pe_bltn (v := .ty "list") (by rfl) T.m_list (by decide +kernel) rfl) pa_nil)))))
      (pss_one (ps_ret (pe_un un_neg pe_int)))
      pss_nil)
    (pss_cons (ps_set (i := 3) sc__law_change.nd rfl (.inl rfl) (pv 2))
    (pss_cons (ps_set (i := 4) sc__law_change.nd rfl (.inl rfl) pe_int)
    (pss_cons (ps_set (i := 5) sc__law_change.nd rfl (.inl rfl) pe_int)
    (pss_cons (ps_for PassesOwn.never rfl (pi_list (pv 0)) (pg_name (i := 6) sc__law_change.nd rfl (.inl rfl))
      (pss_cons (ps_if (PW.pt (pw_or (pt_not (pt_val (pe_callB call_isi (by rfl) T.m_isinstance (by decide +kernel) (pa_cons (pv 6) (pa_cons (pe_bltn (v := .ty "tuple") (by rfl) T.m_tuple (by decide +kernel) rfl) pa_nil))))) (pw_or (pt_cmpR op_ne (pe_callB call_len_seq (by rfl) T.m_len (by decide +kernel) (pa_cons (pv 6) pa_nil)) pe_int (nomark _)) (pw_or (pt_not (pt_val (pe_call G__law_whole (hr.mono (by decide)) (by rfl) T.g__law_whole T.f__law_whole.kp T.p__law_whole .nil pass0 (pa_cons (pe_ix ix_tup (pv 6) pe_int (fun _ _ => rfl)) pa_nil)))) (pw_or1 (pt_not (pt_val (pe_call G__law_whole (hr.mono (by decide)) (by rfl) T.g__law_whole T.f__law_whole.kp T.p__law_whole .nil pass0 (pa_cons (pe_ix ix_tup (pv 6) pe_int (fun _ _ => rfl)) pa_nil)))))))))
        (pss_one (ps_ret (pe_un un_neg pe_int)))
        pss_nil)
      (pss_cons (ps_if (PW.pt (pw_or (pt_cmpR op_le (pe_ix ix_tup (pv 6) pe_int (fun _ _ => rfl)) (pv 5) (nomark _)) (pw_or1 (pt_cmpR op_lt (pe_ix ix_tup (pv 6) pe_int (fun _ _ => rfl)) pe_int (nomark _)))))
        (pss_one (ps_ret (pe_un un_neg pe_int)))
        pss_nil)
      (pss_cons (ps_set (i := 7) sc__law_change.nd rfl (.inl rfl) pe_int)
      (pss_cons (ps_for PassesOwn.never rfl (pi_list (pv 1)) (pg_name (i := 8) sc__law_change.nd rfl (.inl rfl))
        (pss_one (ps_if (pt_cmpR op_eq (pe_ix ix_tup (pv 8) pe_int (fun _ _ => rfl)) (pe_ix ix_tup (pv 6) pe_int (fun _ _ => rfl)) (nomark _))
          (pss_one (ps_set (i := 7) sc__law_change.nd rfl (.inl rfl) (pe_ix ix_tup (pv 8) pe_int (fun _ _ => rfl))))
          pss_nil)))
      (pss_cons (ps_if (pt_cmpR op_gt (pe_ix ix_tup (pv 6) pe_int (fun _ _ => rfl)) (pv 7) (nomark _))
        (pss_one (ps_ret (pe_un un_neg pe_int)))
        pss_nil)
      (pss_cons (ps_set (i := 5) sc__law_change.nd rfl (.inl rfl) (pe_ix ix_tup (pv 6) pe_int (fun _ _ => rfl)))
      (pss_cons (ps_set (i := 3) sc__law_change.nd rfl (.inl rfl) (pe_op op_sub (pv 3) (pe_op op_mul (pe_ix ix_tup (pv 6) pe_int (fun _ _ => rfl)) (pe_ix ix_tup (pv 6) pe_int (fun _ _ => rfl)))))
      (pss_one (ps_set (i := 4) sc__law_change.nd rfl (.inl rfl) (pe_op op_add (pv 4) (pe_ix ix_tup (pv 6) pe_int (fun _ _ => rfl)))))))))))))
    (pss_cons (ps_if (pt_cmpR op_ne (pv 3) pe_int (nomark _))
      (pss_one (ps_ret (pe_un un_neg pe_int)))
      pss_nil)
    (pss_one (ps_ret (pv 4))))))))), ?_⟩
    have hxl := hp.len
    have htl := ht.len
    refine ⟨_, rfl, _, _, _, _, true, rfl, .ty "list", .base (.lst ha), kit_ty (by decide +kernel), _, rfl, iteF ?_⟩
    refine ⟨_, rfl, ?_⟩
    refine ⟨_, rfl, a, rfl, ⟨xs, .of ha⟩, for_list (xs := xs) (fun i σ H' => ∃ (last : Int) (y6 y7 y8 : Option V), σ = [some (.ref a), some (.ref t), some (.int d), some (.int (d - worthP (gs.take i))), some (.int (manyP (gs.take i))), some (.int last), y6, y7, y8] ∧ H' = H ∧ ∀ q ∈ gs.drop i, last < q.1)
      ⟨0, none, none, none, by rw [List.take_zero, show worthP [] = 0 from rfl, Int.sub_zero]; rfl, rfl, fun q hq => by have := (hgs q hq).1; omega⟩ (fun i σ H' _ h => by obtain ⟨_, _, _, _, _, rfl, _⟩ := h; exact .of ha) ?_ ?_⟩
    · rintro i x σ H' hx ⟨last, y6, y7, y8, rfl, rfl, hlast⟩
      obtain ⟨p, t2, h1, rfl, h3⟩ := Prs.get hp hx
      have hpg := hgs p (List.mem_of_getElem? h1)
      obtain ⟨c, hc, hcle⟩ := hpg.2.2.2
      rw [drop_at h1] at hlast
      have hl1 := hlast p List.mem_cons_self
      have hri' : (p :: gs.drop (i + 1)).Pairwise fun p q => p.1 < q.1 := by
        rw [← drop_at h1]
        exact hri.sublist (List.drop_sublist ..)
      refine ⟨_, rfl, _, _, _, _, true, rfl, .ty "tuple", .base (.tup h3), kit_ty (by decide +kernel), _, rfl, iteF ?_⟩
      refine ⟨_, rfl, t2, _, rfl, .inr (.of h3), rfl, _, rfl, iteVN (fun z => absurd rfl z) (fun _ => ?_)⟩
      refine ⟨_, rfl, t2, _, 0, .int p.1, rfl, rfl, .of h3, rfl, p.1, rfl, true, rfl, iteF ?_⟩
      refine ⟨_, rfl, t2, _, 1, .int p.2, rfl, rfl, .of h3, rfl, p.2, rfl, true, rfl, iteF ?_⟩
      refine ⟨_, rfl, t2, _, 0, .int p.1, rfl, rfl, .of h3, rfl, _, rfl, _, _, rfl, rfl, _, rfl, iteD (fun z => absurd hl1 (by omega)) (fun _ => ?_)⟩
      refine ⟨_, rfl, t2, _, 1, .int p.2, rfl, rfl, .of h3, rfl, _, _, rfl, rfl, _, rfl, iteD (fun z => absurd hpg.2.2.1 (by omega)) (fun _ => ?_)⟩
      -- how many lie there
      refine ⟨_, rfl, t, rfl, ⟨ts, hS⟩, for_list (xs := ts) (fun j σ H9 => ∃ y8, σ = [some (.ref a), some (.ref t), some (.int d), some (.int (d - worthP (gs.take i))), some (.int (manyP (gs.take i))), some (.int last), some (.ref t2), some (.int (lookL p.1 (ps.take j))), y8] ∧ H9 = H')
        ⟨_, rfl, rfl⟩ (fun j σ H9 _ h => by obtain ⟨_, _, rfl⟩ := h; exact hS) ?_ ?_⟩
      · rintro j x σ H9 hxj ⟨y8, rfl, rfl⟩
        obtain ⟨o, t3, k1, rfl, k3⟩ := Prs.get ht hxj
        refine ⟨_, rfl, t3, _, 0, .int o.1, rfl, rfl, .of k3, rfl, _, rfl, t2, _, 0, .int p.1, rfl, rfl, .of h3, rfl, rfl, _, rfl, iteVI (fun e => ?_) (fun e => ?_)⟩
        · refine ⟨_, rfl, t3, _, 1, .int o.2, rfl, rfl, .of k3, rfl, some (.ref t3), ?_, rfl⟩
          rw [take_snoc k1, lookL_snoc, if_pos e]
          rfl
        · refine ⟨some (.ref t3), ?_, rfl⟩
          rw [take_snoc k1, lookL_snoc, if_neg e]
          rfl
      · rintro σ H9 ⟨y8, rfl, rfl⟩
        have tk : ps.take ts.length = ps := List.take_of_length_le (by omega)
        rw [tk, show lookL p.1 ps = c from lookL_in 0 nd hc]
        refine ⟨_, rfl, t2, _, 1, .int p.2, rfl, rfl, .of h3, rfl, _, rfl, _, _, rfl, rfl, _, rfl, iteD (fun z => absurd hcle (by omega)) (fun _ => ?_)⟩
        refine ⟨_, rfl, t2, _, 0, .int p.1, rfl, rfl, .of h3, rfl, ?_⟩
        refine ⟨_, rfl, _, rfl, t2, _, 0, .int p.1, rfl, rfl, .of h3, rfl, _, rfl, t2, _, 1, .int p.2, rfl, rfl, .of h3, rfl, _, _, rfl, rfl, .inl ⟨by omega, by omega⟩, _, _, rfl, rfl, ?_⟩
        refine ⟨_, rfl, _, rfl, t2, _, 1, .int p.2, rfl, rfl, .of h3, rfl, _, _, rfl, rfl, p.1, some (.ref t2), some (.int c), y8, ?_, rfl, fun q hq => (List.pairwise_cons.mp hri').1 q hq⟩
        rw [take_snoc h1, worthP_app, manyP_app]
        show _ = [_, _, _, some (V.int (d - (worthP (gs.take i) + (p.1 * p.2 + 0)))), some (V.int (manyP (gs.take i) + (p.2 + 0))), _, _, _, _]
        rw [show d - (worthP (gs.take i) + (p.1 * p.2 + 0)) = d - worthP (gs.take i) - p.1 * p.2 by omega, show manyP (gs.take i) + (p.2 + 0) = manyP (gs.take i) + p.2 by omega]
        rfl
    · rintro σ H' ⟨last, y6, y7, y8, rfl, rfl, hlast⟩
      rw [List.take_of_length_le (by rw [hxl]; exact Nat.le_refl _)]
      refine ⟨_, rfl, rfl, _, rfl, iteVN (fun z => absurd (by omega) z) (fun _ => ?_)⟩
      exact ⟨_, rfl, q⟩
/-! ### the way, walked by the law -/
def spExact (K : PySem.W.Frag) : Sp := fun vs H Q _ => ∃ (R t : Addr) (as : List Addr) (ps : List (Int × Int)) (n : Nat), vs = [.ref R, .ref t, .int (n : Int)] ∧ H R = some (.lst (as.map V.ref)) ∧ RowsAt H as (rowsOf (row0 n) ps) ∧ Till K H t ps ∧ n ≤ 1000 ∧ ps.length ≤ 1000 ∧
  (∀ p ∈ ps, 1 ≤ p.1 ∧ p.1 ≤ 1000 ∧ 0 ≤ p.2) ∧ rAt (lastRow (row0 n) ps) n ≠ none ∧
  ∀ p xs H2, Ex H H2 → H p = none → H2 p = some (.lst xs) → Prs H2 xs (given (row0 n) ps ps.length n) → Q (.ref p) H2
theorem ok_exact (T : Tx K mg) : FnOk P w K mg base CX0 1 T.a__law_exact T.d__law_exact P__law_exact (spExact K) := by
  refine T.f__law_exact.ok sc__law_exact (fun vs H Q E h => ?_) (fun cdv A outer s H vs Q E hr h => ?_)
  · obtain ⟨R, t, as, ps, n, rfl, _⟩ := h
    rfl
  · obtain ⟨R, t, as, ps, n, rfl, eR, hrows, ⟨xs, hS, hp⟩, hn, hl, hv, hc, q⟩ := h
    refine ⟨_, (pss_cons (ps_set (i := 3) sc__law_exact.nd rfl (.inl rfl) (pe_lst pa_nil))
    (pss_cons (ps_set (i := 4) sc__law_exact.nd rfl (.inl rfl) (pv 2))
    (pss_cons (ps_for PassesOwn.never rfl (pi_range3 (by rfl) T.m_range (pa_cons (pe_callB call_len_seq (by rfl) T.m_len (by decide +kernel) (pa_cons (pv 1) pa_nil)) (pa_cons pe_int (pa_cons (pe_un un_neg pe_int) pa_nil)))) (pg_name (i := 5) sc__law_exact.nd rfl (.inl rfl))
      (pss_cons (ps_set (i := 6) sc__law_exact.nd rfl (.inl rfl) (pe_ix ix_tup (pe_ix ix_list (pv 1) (pe_op op_sub (pv 5) pe_int) (fun _ _ => rfl)) pe_int (fun _ _ => rfl)))
      (pss_cons (ps_set (i := 7) sc__law_exact.nd rfl (.inl rfl) (pe_ix ix_list (pe_ix ix_list (pv 0) (pv 5) (fun _ _ => rfl)) (pv 4) (fun _ _ => rfl)))
      (pss_cons (ps_set (i := 8) sc__law_exact.nd rfl (.inl rfl) (pe_callB (call_min2 rfl) (by rfl) T.m_min (by decide +kernel) (pa_cons (pe_ix ix_tup (pe_ix ix_list (pv 1) (pe_op op_sub (pv 5) pe_int) (fun _ _ => rfl)) pe_int (fun _ _ => rfl)) (pa_cons (pe_op op_fdiv (pv 4) (pv 6)) pa_nil))))
      (pss_cons (ps_while PassesOwn.never (pt_cmpR op_ne (pe_ix ix_list (pe_ix ix_list (pv 0) (pe_op op_sub (pv 5) pe_int) (fun _ _ => rfl)) (pe_op op_sub (pv 4) (pe_op op_mul (pv 8) (pv 6))) (fun _ _ => rfl)) (pe_op op_sub (pv 7) (pv 8)) (nomark _))
        (pss_one (ps_set (i := 8) sc__law_exact.nd rfl (.inl rfl) (pe_op op_sub (pv 8) pe_int))))
      (Evl.pss_cut (ps_if (pt_cmpR op_gt (pv 8) pe_int (nomark _))
        (pss_one (ps_expr (pe_bm PySem.F.plainAttrs_list PySem.F.slot_list_append PySem.F.type_list_append mt_append (pv 3) (pa_cons (pe_tup (pa_cons (pv 6) (pa_cons (pv 8) pa_nil))) pa_nil))))
        pss_nil)
      (pss_one (ps_set (i := 4) sc__law_exact.nd rfl (.inl rfl) (pe_op op_sub (pv 4) (pe_op op_mul (pv 8) (pv 6)))))))))))
    (pss_cons (ps_expr (pe_bm0 PySem.F.plainAttrs_list PySem.F.slot_list_reverse PySem.F.type_list_reverse mt_reverse (pv 3)))
    (pss_one (ps_ret (pv 3))))))), ?_⟩
    have hpl := hp.len
    have hll : ∀ j, (lastRow (row0 n) (ps.take j)).length = n + 1 := fun j => by rw [lastRow_len, row0_len]
    obtain ⟨m, hm⟩ := Option.ne_none_iff_exists'.mp hc
    refine ⟨Nat.zero_le _, fun ch hch => ?_⟩
    refine ⟨_, rfl, ?_⟩
    refine ⟨_, rfl, t, xs, rfl, .inl ((Ex.nw hch).seq hS), ?_⟩
    refine ⟨_, rfl, _, _, _, xs.length, rfl, .neg (by omega) (by omega) (by decide) (by decide), ?_⟩
    refine for_rangeC (fun i σ H' => ∃ (k left : Nat) (x : Int) (zs : List V) (acc : List (Int × Int)) (y5 y6 y7 y8 : Option V), k + i = ps.length ∧ σ = [some (.ref R), some (.ref t), some (.int (n : Int)), some (.ref ch), some (.int (left : Int)), y5, y6, y7, y8] ∧
      Ex H H' ∧ H' ch = some (.lst zs) ∧ Prs H' zs acc ∧ left ≤ n ∧ rAt (lastRow (row0 n) (ps.take k)) left = some x ∧ given (row0 n) ps ps.length n = given (row0 n) ps k left ++ acc.reverse ∧ acc.length ≤ i)
      ⟨ps.length, n, m, [], [], none, none, none, none, rfl, rfl, Ex.nw hch, upd_same, .nil, Nat.le_refl _, by rw [List.take_length]; exact hm, by simp, Nat.le_refl _⟩ ?_ ?_
    · rintro i σ H' hi ⟨k, left, x, zs, acc, y5, y6, y7, y8, hki, rfl, ex, ech, hacc, hle, hx, hgv, hal⟩
      obtain ⟨j, rfl⟩ : ∃ j, k = j + 1 := ⟨k - 1, by omega⟩
      have ej : (xs.length : Int) + (i : Int) * -1 = ((j + 1 : Nat) : Int) := by omega
      have ej1 : ((j + 1 : Nat) : Int) - 1 = (j : Int) := by omega
      rw [ej]
      have hj : j < ps.length := by omega
      obtain ⟨t2, hx0, h3⟩ := Prs.getL hp (List.getElem?_eq_getElem hj)
      have hpj := List.getElem?_eq_getElem hj
      have hpv := hv _ (List.getElem_mem hj)
      generalize ps[j] = p at hpj h3 hpv
      have h3' := ex _ _ h3
      have hrows' := hrows.ex ex
      have eR' := ex _ _ eR
      obtain ⟨b, ib, _, eb⟩ := at_row hrows' (i := ((j + 1 : Nat) : Int) - 1) (k := j) ej1 (rowsOf_at _ _ j (by omega))
      obtain ⟨b1, ib1, _, eb1⟩ := at_row hrows' (i := ((j + 1 : Nat) : Int)) (k := j + 1) rfl (rowsOf_at _ _ (j + 1) (by omega))
      have it : atI xs (((j + 1 : Nat) : Int) - 1) = some (.ref t2) := at_of ej1 hx0
      -- the value, the count of pieces told
      refine ⟨_, rfl, _, rfl, _, _, rfl, rfl, t, xs, _, _, rfl, rfl, ex.seq hS, it, t2, _, 0, .int p.1, rfl, rfl, .of h3', rfl, ?_⟩
      refine ⟨_, rfl, _, rfl, R, _, _, .ref b1, rfl, rfl, .of eR', ib1, _, rfl, b1, _, _, _, rfl, rfl, .of eb1, at_of rfl (vO_at (by rw [hll]; omega)), ?_⟩
      rw [hx]
      obtain ⟨g1, g2, g3⟩ := step_ok hpj hpv.1 (by rw [row0_len]; omega) hx rfl
      have gs := given_succ (row0 n) ps j left hpj (g := pick (lastRow (row0 n) (ps.take j)) p.1.toNat p.2.toNat left x) (by rw [hx]; rfl)
      have hb := back_one (r := lastRow (row0 n) (ps.take j)) (v := p.1.toNat) (c := p.2.toNat) (d := left) (m := x) (by omega) (by
        rw [← hx, take_snoc hpj, lastRow_snoc]
        exact (rAt_map (by rw [hll]; omega)).symm)
      generalize hr0 : lastRow (row0 n) (ps.take j) = r at g1 g2 g3 gs hb eb
      have hrl : r.length = n + 1 := by rw [← hr0]; exact hll j
      obtain ⟨v, hv0⟩ : ∃ v : Nat, p.1 = (v : Int) := ⟨p.1.toNat, (Int.toNat_of_nonneg (by omega)).symm⟩
      obtain ⟨c, hc0⟩ : ∃ c : Nat, p.2 = (c : Int) := ⟨p.2.toNat, (Int.toNat_of_nonneg (by omega)).symm⟩
      rw [hv0, hc0, Int.toNat_natCast, Int.toNat_natCast] at g1 g2 g3 gs hb
      rw [hv0, hc0] at h3'
      rw [hv0]
      have hv1 : 1 ≤ v := by omega
      obtain ⟨N, hN, hNN⟩ : ∃ N : Nat, (if (left : Int) / (v : Int) < (c : Int) then (left : Int) / (v : Int) else (c : Int)) = (N : Int) ∧ N = min c (left / v) := by
        rw [← Int.natCast_ediv]
        by_cases h : ((left / v : Nat) : Int) < (c : Int)
        · exact ⟨left / v, if_pos h, by omega⟩
        · exact ⟨c, if_neg h, by omega⟩
      have hNv : N * v ≤ left := by
        rw [hNN]
        exact Nat.le_trans (Nat.mul_le_mul_right _ (Nat.min_le_right ..)) (Nat.div_mul_le_self ..)
      unfold pick at g1 g2 g3 gs
      rw [← hNN] at g1 g2 g3 gs hb
      refine ⟨_, rfl, _, rfl, _, _, rfl, rfl, t, xs, _, _, rfl, rfl, ex.seq hS, it, t2, _, 1, .int (c : Int), rfl, rfl, .of h3', rfl, _, rfl, _, rfl, _, _, rfl, rfl, ⟨by omega, by omega⟩, _, _, rfl, ?_⟩
      rw [hN]
      refine ⟨fun m σ H9 => σ = [some (.ref R), some (.ref t), some (.int (n : Int)), some (.ref ch), some (.int (left : Int)), some (.int ((j + 1 : Nat) : Int)), some (.int (v : Int)), some (.int x), some (.int (m : Int))] ∧ H9 = H' ∧ m ≤ N ∧ pickUp r v left x N = pickUp r v left x m, ⟨N, rfl, rfl, Nat.le_refl _, rfl⟩, ?_⟩
      rintro m σ H9 ⟨rfl, rfl, hmN, hpk⟩
      have hmv : m * v ≤ left := Nat.le_trans (Nat.mul_le_mul_right _ hmN) hNv
      have im : atI (r.map vO) ((left : Int) - (m : Int) * (v : Int)) = some (vO (rAt r (left - m * v))) := at_of (j := left - m * v) (by
        rw [← Int.natCast_mul]
        omega) (vO_at (by omega))
      refine ⟨_, rfl, _, rfl, _, _, rfl, rfl, R, _, _, .ref b, rfl, rfl, .of eR', ib, ?_⟩
      refine ⟨_, rfl, _, rfl, _, rfl, _, _, rfl, rfl, .inr ⟨by omega, by omega⟩, _, _, rfl, rfl, b, _, _, _, rfl, rfl, .of eb, im, ?_⟩
      refine ⟨_, rfl, _, rfl, _, _, rfl, rfl, vO_scal _ _, _, rfl, iteDN (fun e => ?_) (fun e => ?_)⟩
      · -- one less
        have e' : ¬ rAt r (left - m * v) = some (x - (m : Int)) := fun z => e (vO_int.mpr z)
        have hm0 : m ≠ 0 := by
          rintro rfl
          rw [show pickUp r v left x 0 = 0 from rfl] at hpk
          rw [hpk] at g3
          exact e' g3
        obtain ⟨m', rfl⟩ : ∃ m', m = m' + 1 := ⟨m - 1, by omega⟩
        refine ⟨_, fun σ' H' z => ⟨m', Nat.lt_succ_self _, z⟩, ?_⟩
        refine ⟨_, rfl, _, _, rfl, rfl, ?_, rfl, by omega, ?_⟩
        · show [_, _, _, _, _, _, _, _, some (V.int (((m' + 1 : Nat) : Int) - 1))] = _
          rw [show ((m' + 1 : Nat) : Int) - 1 = (m' : Int) by omega]
        · rw [hpk]
          exact if_neg e'
      · have e' := vO_int.mp e
        have hpm : pickUp r v left x N = m := by
          rw [hpk]
          cases m with
          | zero => rfl
          | succ m' => exact if_pos e'
        rw [hpm] at g1 g2 g3 gs
        have el : (left : Int) - (m : Int) * (v : Int) = ((left - m * v : Nat) : Int) := by
          rw [← Int.natCast_mul]
          omega
        refine ⟨fun σ' H2 => ∃ (zs : List V) (acc : List (Int × Int)), σ' = [some (.ref R), some (.ref t), some (.int (n : Int)), some (.ref ch), some (.int (left : Int)), some (.int ((j + 1 : Nat) : Int)), some (.int (v : Int)), some (.int x), some (.int (m : Int))] ∧ Ex H H2 ∧ H2 ch = some (.lst zs) ∧ Prs H2 zs acc ∧
          given (row0 n) ps ps.length n = given (row0 n) ps j (left - m * v) ++ acc.reverse ∧ acc.length ≤ i + 1, ?_, ?_⟩
        · refine ⟨_, rfl, _, _, rfl, rfl, _, rfl, iteD (fun z => ?_) (fun z => ?_)⟩
          · have z' : 0 < m := by omega
            rw [if_pos z'] at gs
            refine ⟨_, rfl, .inl ⟨rfl, zs, .of ech⟩, _, rfl, _, rfl, len63 (by show 2 ≤ _; decide), fun t4 ht4 => ?_⟩
            have nct : ch ≠ t4 := ne_of_none ech ht4
            have ech' : (upd H9 t4 (.tup [.int (v : Int), .int (m : Int)])) ch = some (.lst zs) := by rw [upd_ne nct]; exact ech
            refine ⟨ch, zs, _, rfl, rfl, ech', len63' (by rw [hacc.len]; omega), zs ++ [.ref t4], acc ++ [((v : Int), (m : Int))], rfl, Ex.mu (ex.tr (Ex.nw ht4)) hch, upd_same, ?_, ?_, by rw [List.length_append]; show _ + 1 ≤ _; omega⟩
            · refine Prs.up (by intro ys y; rw [ech'] at y; cases y) ?_
              exact Prs.snoc (hacc.ex (Ex.nw ht4)) ⟨t4, rfl, upd_same⟩
            · rw [hgv, gs, List.reverse_append, List.append_assoc]
              rfl
          · have z' : m = 0 := by omega
            refine ⟨zs, acc, rfl, ex, ech, hacc, ?_, by omega⟩
            subst z'
            rw [if_neg (Nat.lt_irrefl 0), List.append_nil] at gs
            rw [hgv, gs]
        rintro σ' H2 ⟨zs2, acc2, rfl, ex2, ech2, hacc2, hgv2, hal2⟩
        refine ⟨_, rfl, _, rfl, _, rfl, _, _, rfl, rfl, .inr ⟨by omega, by omega⟩, _, _, rfl, rfl, ?_⟩
        refine ⟨j, left - m * v, x - (m : Int), zs2, acc2, some (.int ((j + 1 : Nat) : Int)), some (.int (v : Int)), some (.int x), some (.int (m : Int)), by omega, by rw [← el]; rfl, ex2, ech2, hacc2, by omega, ?_, hgv2, hal2⟩
        rw [hr0]
        exact g3
    · rintro σ H' ⟨k, left, x, zs, acc, y5, y6, y7, y8, hki, rfl, ex, ech, hacc, hle, hx, hgv, hal⟩
      obtain rfl : k = 0 := by omega
      refine ⟨_, rfl, .inl ⟨rfl, zs, .of ech⟩, ch, zs, rfl, rfl, ech, ?_⟩
      refine ⟨_, rfl, q ch _ _ (Ex.mu ex hch) hch upd_same ?_⟩
      rw [hgv]
      exact (Prs.rev hacc).up (by intro ys y; rw [ech] at y; cases y)
--@split
/-! ### a price, looked at -/
/-- counted in a comprehension -/
theorem pe_countK {K : PySem.W.Frag} {X : Cx} {o e : Expr} {es : List Expr} {to : TE} {t : TA} {apos cpos : Pos} (hK : X.K = K) (ho : PE X o to) (ha : PA X (e :: es) t)
    (h1 : attributeBase o "count" X.env (eval o X.env) = eval o X.env := by rfl)
    (h2 : ((backTo cpos (starEach (e :: es) X.env)).all (fun x => !x.1) && (backToKw cpos (keywordEach [] X.env)).all (fun x => x.1.isSome)
      && decide ((e :: es).length + ([] : List Keyword).length + (if ([] : List Keyword).isEmpty then 0 else 1) < 30)) = true := by rfl)
    (h3 : (apos.endLine == cpos.line) = true := by rfl) (h4 : starEach (e :: es) X.env = (false, eval e X.env) :: starEach es X.env := by rfl) (h5 : (backTo cpos (starEach es X.env)).any (·.1) = false := by rfl) :
    PE X (.Call (.Attribute o "count" apos) (e :: es) [] cpos) (tBM K "list" (rCntI K) to t) := by
  subst hK
  exact pe_bm PySem.F.plainAttrs_list PySem.F.slot_list_count PySem.F.type_list_count mt_lcount ho ha h1 h2 h3 h4 h5
/-- a comprehension over a locked dict's keys -/
theorem lc_keys {d : Addr} {od : Obj} {kvs : List (Key × V)} {g : TG} {tt : TT} {te : TE} {us : List Nat} {σ : L2.St} {H1 : Hp} {D : Addr} {Qd : Hp → Prop} (Pv : Nat → Hp → Prop) (h0 : Pv 0 (upd H1 D (.lst []))) (hl : ∀ i H, i ≤ kvs.length → Pv i H → H d = some (.frz od (.dK kvs)))
    (hs : ∀ (i : Nat) (k : Key) (v : V) (H : Hp), kvs[i]? = some (k, v) → Pv i H → g (kV k) (wipe σ us) H fun σ2 H2 => wipe σ2 us = wipe σ us ∧ tt σ2 H2 fun b H3 =>
      if b = true then te σ2 H3 fun y H4 => ∃ acc, H4 D = some (.lst acc) ∧ acc.length < sizeLine ∧ Pv (i + 1) (upd H4 D (.lst (acc ++ [y]))) else Pv (i + 1) H3) (hd : ∀ H, Pv kvs.length H → Qd H) :
    ∃ W : Nat → Nat → Hp → Prop, (∃ m, W 0 m (upd H1 D (.lst []))) ∧ ∀ i m H, W i m H →
      ((Itk d od kvs).stop i H ∧ Qd H) ∨ ((Itk d od kvs).go i H ∧ ∃ Nx : Hp → Prop, (∀ H', Nx H' → ∃ m', m' < m ∧ W (i + 1) m' H') ∧ ∀ x H', (Itk d od kvs).yld i H x H' → g x (wipe σ us) H' fun σ2 H2 => wipe σ2 us = wipe σ us ∧ tt σ2 H2 fun b H3 =>
        if b = true then te σ2 H3 fun y H4 => ∃ acc, H4 D = some (.lst acc) ∧ acc.length < sizeLine ∧ Nx (upd H4 D (.lst (acc ++ [y]))) else Nx H3) := by
  refine ⟨fun i m H => m = kvs.length - i ∧ i ≤ kvs.length ∧ Pv i H, ⟨kvs.length, by simp, Nat.zero_le _, h0⟩, ?_⟩
  rintro i m H ⟨rfl, hi, pv⟩
  have sq := hl i H hi pv
  by_cases hlt : i < kvs.length
  · refine .inr ⟨⟨sq, hlt⟩, Pv (i + 1), fun H' z => ⟨kvs.length - (i + 1), by omega, rfl, hlt, z⟩, fun x H' y => ?_⟩
    obtain ⟨rfl, k, v, hk, rfl⟩ := y
    exact hs i k v H' hk pv
  · obtain rfl : i = kvs.length := by omega
    exact .inl ⟨⟨sq, Nat.le_refl _⟩, hd H pv⟩
theorem Ex.unlock {d : Addr} {u x : HO} {H H' : Hp} (hd : H d = some u) (e : Ex (upd H d x) H') : Ex H (upd H' d u) := fun t o h => by
  by_cases z : t = d
  · subst z
    rw [hd] at h
    cases h
    exact upd_same
  · rw [upd_ne z]
    exact e t o (by rw [upd_ne z]; exact h)
theorem dk_get {hs : List (Int × Int)} {i : Nat} {k : Key} {v : V} (h : (dkP hs)[i]? = some (k, v)) : ∃ p, hs[i]? = some p ∧ k = Sum.inl p.1 ∧ v = .int p.2 := by
  unfold dkP at h
  rw [List.getElem?_map] at h
  cases e : hs[i]? with
  | none => rw [e] at h; cases h
  | some p =>
    rw [e] at h
    cases h
    exact ⟨p, rfl, rfl, rfl⟩
/-- what is held, as pairs of value and count, sorted: the new list -/
theorem addC_at {A B : List (Int × Int)} {v t n : Int} (nd : ((A ++ (v, t) :: B).map (·.1)).Nodup) : addC (A ++ (v, t) :: B) v (n - t) = A ++ [(v, n)] ++ B := by
  rw [List.map_append, List.map_cons, List.nodup_append] at nd
  obtain ⟨_, n2, n3⟩ := nd
  rw [List.nodup_cons] at n2
  have ha : ∀ p ∈ A, (if p.1 = v then (p.1, p.2 + (n - t)) else p) = p := fun p hp => if_neg fun z => n3 p.1 (List.mem_map.mpr ⟨p, hp, rfl⟩) v List.mem_cons_self z
  have hb : ∀ p ∈ B, (if p.1 = v then (p.1, p.2 + (n - t)) else p) = p := fun p hp => if_neg fun z => n2.1 (List.mem_map.mpr ⟨p, hp, z⟩)
  unfold addC
  rw [List.map_append, List.map_cons, List.map_congr_left ha, List.map_congr_left hb, List.map_id', List.map_id', if_pos rfl, List.append_assoc]
  show A ++ (v, t + (n - t)) :: B = A ++ (v, n) :: B
  rw [show t + (n - t) = n by omega]
theorem sum_own {v : Int} : ∀ {gs : List (Int × Int)}, (gs.map (·.1)).Nodup → ((gs.filter fun q => decide (q.1 = v)).map fun q => q.2).sum = ownOf gs v
  | [], _ => rfl
  | p :: gs, nd => by
    rw [List.map_cons, List.nodup_cons] at nd
    rw [ownOf_cons]
    by_cases e : p.1 = v
    · rw [if_pos e, List.filter_cons_of_pos (by simpa using e), List.map_cons, List.sum_cons, List.filter_eq_nil_iff.mpr fun q hq => by
        have : q.1 ≠ v := fun z => nd.1 (by rw [e, ← z]; exact List.mem_map.mpr ⟨q, hq, rfl⟩)
        simpa using this]
      simp
    · rw [if_neg e, List.filter_cons_of_neg (by simpa using e)]
      exact sum_own nd.2
/-- an answer, as data -/
def ansE (a : Ans) : PyData := .tuple [.str a.1, .list (a.2.map dP)]
theorem strOk_ansW (z : Str) : PyData.strOk (ansW z) = true := by
  unfold ansW
  repeat' split
  all_goals decide +kernel
theorem shaped_ansE {a : Ans} (hz : PyData.strOk a.1 = true) : SeqAt.shaped (ansE a) = true := by
  unfold SeqAt.shaped
  have h1 : PyData.canLay0 (ansE a) = true := by
    show (PyData.strOk a.1 && (PyData.canLayAll0 (a.2.map dP) && true)) = true
    rw [canLay_dPs, hz]
    rfl
  have h2 : PyData.depth (ansE a) ≤ 64 := by
    have b := depth_dPs a.2
    simp only [ansE, PyData.depth, PyData.depthAll]
    omega
  rw [h1, decide_eq_true h2]
  rfl
theorem ansE_dp {K : PySem.W.Frag} {H : Hp} {an g : Addr} {ys : List V} {a : Ans} (h1 : H an = some (.tup [.str a.1, .ref g])) (h2 : H g = some (.lst ys)) (h3 : Prs H ys a.2) : Dp K H (.ref an) (ansE a) :=
  .tup (.of h1) (.cons (.str _) (.cons (till_dp ⟨ys, .of h2, h3⟩) .nil))
def spPaidL (K : PySem.W.Frag) : Sp := fun vs H Q _ => ∃ (d t1 u an g : Addr) (ys : List V) (hs ps : List (Int × Int)) (c : Int) (vals : List Int), vs = [.ref d, .ref t1, .ref an] ∧ H d = some (.dK (dkP hs)) ∧ hs.Perm ps ∧ Tl ps ∧ H t1 = some (.tup [.str "paid", .int c, .ref u]) ∧ H u = some (.lst (vals.map V.int)) ∧
  H an = some (.tup [.str (ansW (wordD ps (.paid c vals))), .ref g]) ∧ H g = some (.lst ys) ∧ Prs H ys (givD ps (.paid c vals)) ∧ NewHeld d ps (.paid c vals) H (fun H2 => Q (.bl true) H2)
theorem ok_paidL (T : Tx K mg) : FnOk P w K mg base CX0 4 T.a__law_paid T.d__law_paid P__law_paid (spPaidL K) := by
  have G__law_unpaid := ok_unpaid (P := P) (w := w) (base := base) T
  have G__law_walked := ok_walked (P := P) (w := w) (base := base) T
  have G__law_change := ok_change (P := P) (w := w) (base := base) T
  have G__law_exact := ok_exact (P := P) (w := w) (base := base) T
  have G_table := ok_table (P := P) (w := w) (base := base) T
  refine T.f__law_paid.ok sc__law_paid (fun vs H Q E h => ?_) (fun cdv A outer s H vs Q E hr h => ?_)
  · obtain ⟨d, t1, u, an, g, ys, hs, ps, c, vals, rfl, _⟩ := h
    rfl
  · obtain ⟨d, t1, u, an, g, ys, hs, ps, c, vals, rfl, hd, hpm, hT, ht1, hu, han, hg, hys, q⟩ := h
    refine ⟨_, (pss_cons (ps_set (i := 3) sc__law_paid.nd rfl (.inl rfl) (pe_call G__law_unpaid (hr.mono (by decide)) (by rfl) T.g__law_unpaid T.f__law_unpaid.kp T.p__law_unpaid .nil pass0 (pa_cons (pv 0) (pa_cons (pv 1) pa_nil))))
    (pss_cons (ps_if (pt_cmpR op_ne (pv 3) pe_str (nomark _))
      (pss_one (ps_ret (pe_cmpR (op_eqD hr.units) (pv 2) (pe_tup (pa_cons (pv 3) (pa_cons (pe_lst pa_nil) pa_nil))) (nomark _))))
      pss_nil)
    (pss_cons (ps_set (i := 4) sc__law_paid.nd rfl (.inl rfl) (pe_op op_sub (pe_callB (cr_sum rfl) (by rfl) T.m_sum (by decide +kernel) (pa_cons (pe_ix ix_tup (pv 1) pe_int (fun _ _ => rfl)) pa_nil)) (pe_ix ix_tup (pv 1) pe_int (fun _ _ => rfl))))
    (pss_cons (ps_set (i := 5) sc__law_paid.nd rfl (.inl rfl) (pe_callB cr_sortedPO (by rfl) T.m_sorted (by decide +kernel) (pa_cons (pe_lock (pe_lc (own := [("_law_value_here", 8)]) (g := gName 8) rfl sc__law_paid.nd (pi_keys (pv 0)) (blkOk_by (own := [("_law_value_here", 8)]) (N := N__law_paid) (sc := defScope s__law_paid) (by decide +kernel)) (fun _ _ _ _ _ => pg_name (i := 8) sc__law_paid.nd rfl (.inl rfl) (.inr rfl)) (fun _ _ _ _ _ => pts_nil) (fun _ _ _ _ _ => (pe_tup (pa_cons (pv 8) (pa_cons (pe_op op_add (pe_dget (hu_of hr) (pv 0) (pv 8) (fun _ _ => rfl)) (pe_countK (K := K) (by rfl) (pe_ix (r := rIxT K) ix_tup (pv 1) pe_int (fun _ _ => rfl)) (pa_cons (pv 8) pa_nil))) pa_nil)))))) pa_nil)))
    (pss_cons (ps_set (i := 6) sc__law_paid.nd rfl (.inl rfl) (pe_call G_table (hr.mono (by decide)) (by rfl) T.g_table T.f_table.kp T.p_table .nil passL (pa_cons (pe_callTy call_list_of (by rfl) T.m_list (by decide +kernel) (pa_cons (pv 5) pa_nil)) (pa_cons (pv 4) pa_nil))))
    (pss_cons (ps_if (pt_not (pt_val (pe_call G__law_walked (hr.mono (by decide)) (by rfl) T.g__law_walked T.f__law_walked.kp T.p__law_walked .nil pass0 (pa_cons (pv 6) (pa_cons (pv 5) (pa_cons (pv 4) pa_nil))))))
      (pss_one (ps_ret pe_bl))
      pss_nil)
    (pss_cons (ps_if (pt_cmpR op_isN (pe_ix ix_list (pe_ix ix_list (pv 6) (pe_callB call_len_seq (by rfl) T.m_len (by decide +kernel) (pa_cons (pv 5) pa_nil)) (fun _ _ => rfl)) (pv 4) (fun _ _ => rfl)) pe_non (nomark _))
      (pss_one (ps_ret (pe_cmpR (op_eqD hr.units) (pv 2) (pe_tup (pa_cons pe_str (pa_cons (pe_lst pa_nil) pa_nil))) (nomark _))))
      pss_nil)
    (pss_cons (ps_if (PW.pt (pw_or (pt_cmpR op_ne (pe_ix ix_tup (pv 2) pe_int (fun _ _ => rfl)) pe_str (nomark _)) (pw_or1 (pt_cmpR op_ne (pe_call G__law_change (hr.mono (by decide)) (by rfl) T.g__law_change T.f__law_change.kp T.p__law_change .nil pass0 (pa_cons (pe_ix ix_tup (pv 2) pe_int (fun _ _ => rfl)) (pa_cons (pv 5) (pa_cons (pv 4) pa_nil)))) (pe_ix ix_list (pe_ix ix_list (pv 6) (pe_callB call_len_seq (by rfl) T.m_len (by decide +kernel) (pa_cons (pv 5) pa_nil)) (fun _ _ => rfl)) (pv 4) (fun _ _ => rfl)) (nomark _)))))
      (pss_one (ps_ret pe_bl))
      pss_nil)
    (pss_cons (ps_if (pt_cmpR (op_neD hr.units) (pe_ix ix_tup (pv 2) pe_int (fun _ _ => rfl)) (pe_call G__law_exact (hr.mono (by decide)) (by rfl) T.g__law_exact T.f__law_exact.kp T.p__law_exact .nil pass0 (pa_cons (pv 6) (pa_cons (pv 5) (pa_cons (pv 4) pa_nil)))) (nomark _))
      (pss_one (ps_ret pe_bl))
      pss_nil)
    (pss_cons (ps_for PassesOwn.never rfl (pi_list (pv 5)) (pg_name (i := 7) sc__law_paid.nd rfl (.inr rfl))
      (pss_one (ps_dput (hu_of hr) (pv 0) (pe_ix ix_tup (pv 7) pe_int (fun _ _ => rfl)) (pe_op op_sub (pe_ix ix_tup (pv 7) pe_int (fun _ _ => rfl)) (pe_callB (cr_sum rfl) (by rfl) T.m_sum (by decide +kernel) (pa_cons (pe_lc (own := [("_law_one", 9)]) (g := gName 9) rfl sc__law_paid.nd (pi_list (pe_ix ix_tup (pv 2) pe_int (fun _ _ => rfl))) (blkOk_by (own := [("_law_one", 9)]) (N := N__law_paid) (sc := defScope s__law_paid) (by decide +kernel)) (fun _ _ _ _ _ => pg_name (i := 9) sc__law_paid.nd rfl (.inl rfl) (.inr rfl)) (fun _ _ _ _ _ => (pts_one (pt_cmpR op_eq (pe_ix (r := rIxT K) ix_tup (pv 9) pe_int (fun _ _ => rfl)) (pe_ix (r := rIxT K) ix_tup (pv 7) pe_int (fun _ _ => rfl)) (nomark _)))) (fun _ _ _ _ _ => (pe_ix (r := rIxT K) ix_tup (pv 9) pe_int (fun _ _ => rfl)))) pa_nil))) rfl)))
    (pss_one (ps_ret pe_bl)))))))))))), ?_⟩
    have nd := hT.nd
    have ndh : (hs.map (·.1)).Nodup := (hpm.map _).nodup_iff.mpr nd
    -- refused
    have no : ∀ z : Str, wordD ps (.paid c vals) = z → z ≠ "" → (∀ H2, Ex H H2 → Dp K H2 (.ref an) (ansE (ansW z, []))) ∧ ∀ H2, Ex H H2 → Q (.bl true) H2 := fun z hz hz0 => by
      have hw0 : ¬ wordD ps (.paid c vals) = "" := fun y => hz0 (hz.symm.trans y)
      refine ⟨fun H2 e2 => ?_, fun H2 e2 => q hs H2 (e2 _ _ hd) (Fr.ex e2) (by unfold behD; rw [if_neg hw0]; exact hpm)⟩
      have h1 := e2 _ _ han
      rw [hz] at h1
      unfold givD at hys
      rw [if_neg hw0] at hys
      exact ansE_dp h1 (e2 _ _ hg) (hys.ex e2)
    refine ⟨_, rfl, _, rfl, d, t1, u, hs, ps, c, vals, rfl, hd, hpm, hT, ht1, hu, fun H1 e1 => ?_⟩
    by_cases hdue : dueP ps c vals = ""
    case neg =>
      rw [if_neg hdue]
      obtain ⟨n1, n2⟩ := no (dueP ps c vals) (by show outP ps c vals = _; unfold outP; rw [if_neg hdue]) hdue
      refine ⟨_, rfl, rfl, _, rfl, iteDN (fun _ => ?_) (fun y => ?_)⟩
      · refine ⟨_, rfl, _, rfl, Nat.zero_le _, fun e he => ?_⟩
        (generalize hh : upd H1 e _ = H2; have e2 : Ex H1 H2 := (by rw [← hh]; exact Ex.nw he); have c2 := (show H2 e = some _ by rw [← hh]; exact upd_same); clear hh)
        refine ⟨len63 (by show 2 ≤ _; decide), fun t ht => ?_⟩
        (generalize hh : upd H2 t _ = H3; have e3 : Ex H2 H3 := (by rw [← hh]; exact Ex.nw ht); have c3 := (show H3 t = some _ by rw [← hh]; exact upd_same); clear hh)
        have e13 := (e1.tr e2).tr e3
        have sh := shaped_ansE (a := (ansW (dueP ps c vals), [])) (strOk_ansW _)
        refine ⟨_, _, n1 _ e13, ansE_dp (a := (ansW (dueP ps c vals), [])) c3 (e3 _ _ c2) .nil, sh, sh, ?_⟩
        rw [eqv_of_shaped sh]
        exact n2 _ e13
      · refine absurd (V.str.inj y) ?_
        unfold ansW
        rw [if_neg hdue]
        repeat' split
        all_goals decide
    rw [if_pos hdue]
    refine ⟨_, rfl, rfl, _, rfl, iteDN (fun y => absurd rfl y) (fun _ => ?_)⟩
    have ht11 := e1 _ _ ht1
    have hu1 := e1 _ _ hu
    have hd1 := e1 _ _ hd
    obtain ⟨_, _, hw, hs0, hs1⟩ := dueP_ok hdue
    have hn : vals.sum - c = ((sumP c vals : Nat) : Int) := by
      unfold sumP
      omega
    refine ⟨_, rfl, t1, _, 2, .ref u, rfl, rfl, .of ht11, rfl, u, vals, rfl, .of hu1, _, rfl, t1, _, 1, .int c, rfl, rfl, .of ht11, rfl, _, _, rfl, rfl, ?_⟩
    show gName 4 (.int (vals.sum - c)) _ _ _
    rw [hn]
    have hTf := walk_tl (r := vals) (pre := []) (by rw [fullP_nil]; exact hT) hw
    rw [List.nil_append] at hTf
    have hn1 : sumP c vals ≤ 1000 := by
      unfold sumP
      omega
    have hcl : cellP ps c vals = rAt (lastRow (row0 (sumP c vals)) (fullP ps vals)) (sumP c vals) := rfl
    have hgv : gsP ps c vals = given (row0 (sumP c vals)) (fullP ps vals) (fullP ps vals).length (sumP c vals) := rfl
    have hfl10 := hTf.len
    have hsl : hs.length ≤ 10 := by rw [hpm.length_eq]; exact hT.len.2
    -- what lies there, sorted
    refine ⟨d, _, hd1, trivial, fun od => ⟨_, rfl, d, od, rfl, .inl ⟨_, upd_same, fun D hD => ?_⟩⟩⟩
    have hDd : D ≠ d := fun z => by rw [z, upd_same] at hD; cases hD
    have hD1 : H1 D = none := by rw [upd_ne hDd] at hD; exact hD
    refine lc_keys (kvs := dkP hs) (fun i H' => ∃ zs : List V, Ex (upd H1 d (.frz od (.dK (dkP hs)))) H' ∧ H' D = some (.lst zs) ∧ zs.length = i ∧ Prs H' zs (fullP (hs.take i) vals)) ⟨[], Ex.nw hD, upd_same, rfl, .nil⟩ (fun i H' _ h => by
      obtain ⟨_, e, _⟩ := h
      exact e _ _ upd_same) ?_ ?_
    · rintro i k v H2 hk ⟨zs, ex, eD, hzl, hzs⟩
      obtain ⟨p, hp, rfl, rfl⟩ := dk_get hk
      have hi : i < hs.length := (List.getElem?_eq_some_iff.mp hp).1
      have hfr : ∀ t o, H1 t = some o → (∀ kvs, o ≠ .dK kvs) → H2 t = some o := fun t o h hk => ex t o (by rw [upd_ne fun z => hk _ (by rw [z, hd1] at h; exact (Option.some.inj h).symm)]; exact h)
      have ht12 := hfr _ _ ht11 (fun _ z => nomatch z)
      have hu12 := hfr _ _ hu1 (fun _ z => nomatch z)
      have vh : valV (dkP hs) (Sum.inl p.1) = some (.int p.2) := by rw [val_dk, countIn_nd ndh (List.mem_of_getElem? hp)]; rfl
      have dg : DGet H2 d (.int p.1) (some (.int p.2)) := .inl ⟨dkP hs, Sum.inl p.1, .inr ⟨od, ex _ _ upd_same⟩, rfl, vh.symm⟩
      refine ⟨rfl, t_yes ?_⟩
      refine ⟨_, rfl, _, rfl, _, rfl, d, _, rfl, dg, _, rfl, t1, _, 2, .ref u, rfl, rfl, .of ht12, rfl, .inl ⟨rfl, _, .of hu12⟩, _, rfl, u, vals, p.1, rfl, rfl, .of hu12, _, _, rfl, rfl, len63 (by show 2 ≤ _; decide), fun t3 ht3 => ?_⟩
      (generalize hh : upd H2 t3 _ = H3; have e3 : Ex H2 H3 := (by rw [← hh]; exact Ex.nw ht3); have c3 := (show H3 t3 = some _ by rw [← hh]; exact upd_same); clear hh)
      have eD3 := e3 _ _ eD
      refine ⟨zs, eD3, len63' (by omega), zs ++ [.ref t3], Ex.mu (ex.tr e3) hD, upd_same, by rw [List.length_append, hzl]; rfl, ?_⟩
      rw [take_snoc hp]
      unfold fullP
      rw [List.map_append]
      refine Prs.up (by intro bs y; rw [eD3] at y; cases y) ?_
      exact Prs.snoc (hzs.ex e3) ⟨t3, rfl, c3⟩
    rintro H2 ⟨zs, ex, eD, hzl, hzs⟩
    rw [dkP_len, List.take_of_length_le (Nat.le_refl _)] at hzs
    refine ⟨ex _ _ upd_same, ?_⟩
    have e12 : Ex H1 (upd H2 d (.dK (dkP hs))) := Ex.unlock hd1 ex
    have ef0 : (upd H2 d (.dK (dkP hs))) D = some (.lst zs) := by rw [upd_ne hDd]; exact eD
    have hz0 : Prs (upd H2 d (.dK (dkP hs))) zs (fullP hs vals) := hzs.up (fun bs y => by rw [ex _ _ upd_same] at y; cases y)
    generalize upd H2 d (.dK (dkP hs)) = H3 at e12 ef0 hz0
    have hfpm : (fullP hs vals).Perm (fullP ps vals) := hpm.map _
    have hfnd : ((fullP hs vals).map (·.1)).Nodup := (hfpm.map _).nodup_iff.mpr hTf.nd
    refine ⟨D, zs, pairAt H3, rfl, .of ef0, hz0.all, fun fs f z1 z2 hf => ?_⟩
    obtain ⟨qs, hq0, hqpm, hris⟩ := sorted_prs hz0 hfnd z1 z2
    have hqs : qs = fullP ps vals := rising_uniq hris hTf.ris (hqpm.trans hfpm)
    subst hqs
    (generalize hh : upd H3 f _ = H4; have e4 : Ex H3 H4 := (by rw [← hh]; exact Ex.nw hf); have ef := (show H4 f = some _ by rw [← hh]; exact upd_same); clear hh)
    have hfs := hq0.ex e4
    have ex4 := (e1.tr e12).tr e4
    have hfit : ∀ p ∈ fullP ps vals, 1 ≤ p.1 ∧ p.1 ≤ 1000 ∧ 0 ≤ p.2 := fun p hp => ⟨(hTf.val p hp).1, (hTf.val p hp).2, (hTf.cnt p hp).1⟩
    have hfl := hfs.len
    have hfull : (fullP ps vals).length = ps.length := fullP_len ..
    -- the table
    refine ⟨_, rfl, f, fs, rfl, .inl (.of ef), fun f2 hf2 => ?_⟩
    (generalize hh : upd H4 f2 _ = H5; have e5 : Ex H4 H5 := (by rw [← hh]; exact Ex.nw hf2); have c5 := (show H5 f2 = some _ by rw [← hh]; exact upd_same); clear hh)
    refine ⟨_, rfl, f2, fullP ps vals, ((sumP c vals : Nat) : Int), rfl, ⟨fs, .of c5, hfs.ex e5⟩, by omega, hfit, fun _ => ?_, fun z => absurd ⟨by omega, by omega⟩ z⟩
    rw [Int.toNat_natCast]
    intro R as H6 e6 hfr hnd eR hrows
    have e56 := e5.tr e6
    refine ⟨_, rfl, _, rfl, _, rfl, R, f, as, fullP ps vals, sumP c vals, rfl, eR, hrows, ⟨fs, .of (e56 _ _ ef), hfs.ex e56⟩, hn1, by omega, hfit, fun H7 e7 => ⟨true, rfl, iteF ?_⟩⟩
    have e57 := e56.tr e7
    have ex7 := ex4.tr e57
    have ef7 := e57 _ _ ef
    have hfs7 := hfs.ex e57
    have eR7 := e7 _ _ eR
    have hrows7 := hrows.ex e7
    obtain ⟨z, iz, _, ez⟩ := at_row hrows7 (i := (fs.length : Int)) (k := (fullP ps vals).length) (by omega) (rowsOf_at _ _ (fullP ps vals).length (Nat.le_refl _))
    rw [List.take_length] at ez
    have hlz : (lastRow (row0 (sumP c vals)) (fullP ps vals)).length = sumP c vals + 1 := by rw [lastRow_len, row0_len]
    have inz : atI ((lastRow (row0 (sumP c vals)) (fullP ps vals)).map vO) ((sumP c vals : Nat) : Int) = some (vO (rAt (lastRow (row0 (sumP c vals)) (fullP ps vals)) (sumP c vals))) := at_of rfl (vO_at (by omega))
    rw [← hcl] at inz
    cases hcell : cellP ps c vals with
    | none =>
      rw [hcell] at inz
      have hwd : wordD ps (.paid c vals) = "change" := by
        show outP ps c vals = _
        unfold outP
        rw [if_pos hdue, if_pos hcell]
      obtain ⟨n1, n2⟩ := no "change" hwd (by decide)
      refine ⟨_, rfl, _, rfl, f, fs, rfl, .inl (.of ef7), R, _, _, .ref z, rfl, rfl, .of eR7, iz, _, rfl, z, _, _, _, rfl, rfl, .of ez, inz, rfl, _, rfl, iteD (fun _ => ?_) (fun y => absurd rfl y)⟩
      refine ⟨_, rfl, Nat.zero_le _, fun e he => ?_⟩
      (generalize hh : upd H7 e _ = H8; have e8 : Ex H7 H8 := (by rw [← hh]; exact Ex.nw he); have c8 := (show H8 e = some _ by rw [← hh]; exact upd_same); clear hh)
      refine ⟨len63 (by show 2 ≤ _; decide), fun t ht => ?_⟩
      (generalize hh : upd H8 t _ = H9; have e9 : Ex H8 H9 := (by rw [← hh]; exact Ex.nw ht); have c9 := (show H9 t = some _ by rw [← hh]; exact upd_same); clear hh)
      have e19 := (ex7.tr e8).tr e9
      have sh := shaped_ansE (a := (ansW "change", [])) (strOk_ansW _)
      have c9' : H9 t = some (.tup [.str (ansW "change"), .ref e]) := by rw [show ansW "change" = "no change" by decide]; exact c9
      refine ⟨_, _, n1 _ e19, ansE_dp (a := (ansW "change", [])) c9' (e9 _ _ c8) .nil, sh, sh, ?_⟩
      rw [eqv_of_shaped sh]
      exact n2 _ e19
    | some m =>
      rw [hcell] at inz
      obtain ⟨w1, w2, w3, w4, w5⟩ := gsP_ok hT hdue hcell
      have hw0 : wordD ps (.paid c vals) = "" := by
        show outP ps c vals = _
        unfold outP
        rw [if_pos hdue, if_neg (by rw [hcell]; exact fun y => nomatch y)]
      have hbeh : behD ps (.paid c vals) = (fullP ps vals).map fun p => (p.1, p.2 - ownOf (gsP ps c vals) p.1) := by
        unfold behD
        rw [if_pos hw0]
        rfl
      rw [hw0] at han
      unfold givD at hys
      rw [if_pos hw0] at hys
      replace hys : Prs H ys (gsP ps c vals) := hys
      have hdn : ansW "" = "done" := by decide
      rw [hdn] at han
      have han7 := ex7 _ _ han
      have eg7 := ex7 _ _ hg
      have hys7 := hys.ex ex7
      refine ⟨_, rfl, _, rfl, f, fs, rfl, .inl (.of ef7), R, _, _, .ref z, rfl, rfl, .of eR7, iz, _, rfl, z, _, _, _, rfl, rfl, .of ez, inz, rfl, _, rfl, iteD (fun y => nomatch y) (fun _ => ?_)⟩
      refine ⟨_, rfl, an, _, 0, .str "done", rfl, rfl, .of han7, rfl, rfl, _, rfl, iteDN (fun y => absurd rfl y) (fun _ => ?_)⟩
      refine ⟨_, rfl, an, _, 1, .ref g, rfl, rfl, .of han7, rfl, _, rfl, _, rfl, ?_⟩
      refine ⟨g, f, ((sumP c vals : Nat) : Int), ys, gsP ps c vals, fullP ps vals, rfl, eg7, hys7, ⟨fs, .of ef7, hfs7⟩, hTf.nd, w4, w3, w1, ?_⟩
      refine ⟨_, rfl, _, rfl, f, fs, rfl, .inl (.of ef7), R, _, _, .ref z, rfl, rfl, .of eR7, iz, _, rfl, z, _, _, _, rfl, rfl, .of ez, inz, rfl, _, rfl, iteDN (fun y => absurd (by rw [w2]; rfl) y) (fun _ => ?_)⟩
      refine ⟨_, rfl, an, _, 1, .ref g, rfl, rfl, .of han7, rfl, _, rfl, _, rfl, _, rfl, R, f, as, fullP ps vals, sumP c vals, rfl, eR7, hrows7, ⟨fs, .of ef7, hfs7⟩, hn1, by omega, hfit, (by rw [← hcl, hcell]; exact fun y => nomatch y), fun p2 xs2 H8 e8 hp2 ep2 hpr2 => ?_⟩
      have ex8 := ex7.tr e8
      have eg8 := e8 _ _ eg7
      have hys8 := hys7.ex e8
      have han8 := e8 _ _ han7
      have ef8 := e8 _ _ ef7
      have hfs8 := hfs7.ex e8
      have hd8 := ex8 _ _ hd
      refine ⟨_, _, till_dp (K := K) ⟨ys, .of eg8, hys8⟩, till_dp (K := K) ⟨xs2, .of ep2, hgv ▸ hpr2⟩, shaped_till (gsP ps c vals), shaped_till (gsP ps c vals), ?_⟩
      rw [eqv_of_shaped (shaped_till (gsP ps c vals))]
      refine ⟨_, rfl, iteF ?_⟩
      have hgl := hys8.len
      have hd8t : ∀ bs, H8 d ≠ some (.tup bs) := fun bs y => by rw [hd8] at y; cases y
      refine ⟨_, rfl, f, rfl, ⟨fs, .of ef8⟩, for_list (xs := fs) (fun i σ H' => ∃ (hs' : List (Int × Int)) (y7 y8 y9 : Option V), σ = [some (.ref d), some (.ref t1), some (.ref an), some (.str ""), some (.int ((sumP c vals : Nat) : Int)), some (.ref f), some (.ref R), y7, y8, y9] ∧ Fr d H8 H' ∧ H' d = some (.dK (dkP hs')) ∧ hs'.Perm ((((fullP ps vals).take i).map fun p => (p.1, p.2 - ownOf (gsP ps c vals) p.1)) ++ ps.drop i)) ⟨hs, _, _, _, rfl, Fr.rfl', hd8, by simpa using hpm⟩ (fun i σ H' _ h => by
        obtain ⟨_, _, _, _, _, e, _⟩ := h
        exact .of (e _ _ (fun y => by rw [y, hd8] at ef8; cases ef8) ef8)) ?_ ?_⟩
      · rintro i x σ H9 hx ⟨hs', y7, y8, y9, rfl, fr, hd9, hpm'⟩
        have hn9 : ∀ t o, H8 t = some o → (∀ kvs, o ≠ .dK kvs) → H9 t = some o := fun t o h hk => fr t o (fun y => hk _ (by rw [y, hd8] at h; exact (Option.some.inj h).symm)) h
        obtain ⟨q1, t2, h1, rfl, h3⟩ := Prs.get hfs8 hx
        have hi : i < ps.length := by
          have := (List.getElem?_eq_some_iff.mp h1).1
          omega
        have h39 := hn9 _ _ h3 (fun _ z => nomatch z)
        have han9 := hn9 _ _ han8 (fun _ z => nomatch z)
        have eg9 := hn9 _ _ eg8 (fun _ z => nomatch z)
        have hys9 := hys8.fr fr hd8t
        refine ⟨_, rfl, t2, _, 1, .int q1.2, rfl, rfl, .of h39, rfl, ?_⟩
        refine ⟨_, rfl, an, _, 1, .ref g, rfl, rfl, .of han9, rfl, g, rfl, ⟨ys, .of eg9⟩, fun D hD => lc_list (xs := ys) (fun k H' => Ex H9 H' ∧ H' D = some (.lst (((((gsP ps c vals).take k).filter fun q => decide (q.1 = q1.1)).map fun q => q.2).map V.int))) ⟨Ex.nw hD, upd_same⟩ (fun k H' _ h => .of (h.1 _ _ eg9)) ?_ ?_⟩
        · rintro k y H10 hy ⟨ex10, eD⟩
          obtain ⟨q2, t3, k1, rfl, k3⟩ := Prs.get hys9 hy
          have k3' := ex10 _ _ k3
          have h3' := ex10 _ _ h39
          refine ⟨rfl, ?_⟩
          refine ⟨_, rfl, t3, _, 0, .int q2.1, rfl, rfl, .of k3', rfl, _, rfl, t2, _, 0, .int q1.1, rfl, rfl, .of h3', rfl, rfl, _, rfl, iteVI (fun e => ?_) (fun e => ?_)⟩
          · refine ⟨_, rfl, t3, _, 1, .int q2.2, rfl, rfl, .of k3', rfl, _, eD, len63' (by rw [List.length_map, List.length_map]; have := List.length_filter_le (fun q : Int × Int => decide (q.1 = q1.1)) ((gsP ps c vals).take k); rw [List.length_take] at this; omega), Ex.mu ex10 hD, ?_⟩
            rw [upd_same, take_snoc k1, List.filter_append, show List.filter (fun q : Int × Int => decide (q.1 = q1.1)) [q2] = [q2] from List.filter_cons_of_pos (by simpa using e), List.map_append, List.map_append]
            rfl
          · refine ⟨ex10, ?_⟩
            rw [take_snoc k1, List.filter_append, show List.filter (fun q : Int × Int => decide (q.1 = q1.1)) [q2] = [] from List.filter_cons_of_neg (by simpa using e), List.append_nil]
            exact eD
        rintro H10 ⟨ex10, eD⟩
        rw [show (gsP ps c vals).take ys.length = gsP ps c vals from List.take_of_length_le (by omega)] at eD
        refine ⟨D, _, rfl, .of eD, ?_⟩
        rw [sum_own (rising_nd w4)]
        have hd10 := ex10 _ _ hd9
        have hl' := hpm'.length_eq
        rw [List.length_append, List.length_map, List.length_take, List.length_drop] at hl'
        refine ⟨_, _, rfl, rfl, _, rfl, _, rfl, t2, _, 0, .int q1.1, rfl, rfl, .of (ex10 _ _ h39), rfl, d, _, rfl, DPut.k (k := Sum.inl q1.1) hd10 (len63' (by rw [dkP_len]; omega)), ?_⟩
        obtain ⟨r, hr, hq1⟩ : ∃ r, ps[i]? = some r ∧ q1 = (r.1, r.2 + (vals.count r.1 : Int)) := by
          unfold fullP at h1
          rw [List.getElem?_map] at h1
          cases er : ps[i]? with
          | none => rw [er] at h1; cases h1
          | some r => rw [er] at h1; exact ⟨r, rfl, (Option.some.inj h1).symm⟩
        have hv1 : q1.1 = r.1 := by rw [hq1]
        generalize hA : (((fullP ps vals).take i).map fun p => (p.1, p.2 - ownOf (gsP ps c vals) p.1)) = A at hpm'
        have hdr : ps.drop i = (q1.1, r.2) :: ps.drop (i + 1) := by rw [drop_at hr, hv1]
        rw [hdr] at hpm'
        have hkeys : ((A ++ (q1.1, r.2) :: ps.drop (i + 1)).map (·.1)).Nodup := by
          rw [← hdr, List.map_append, ← hA, List.map_map]
          have : (fullP ps vals).take i = (ps.take i).map fun r => (r.1, r.2 + (vals.count r.1 : Int)) := by
            unfold fullP
            rw [List.map_take]
          rw [this, List.map_map]
          have e : (ps.take i).map (((fun x : Int × Int => x.1) ∘ fun p : Int × Int => (p.1, p.2 - ownOf (gsP ps c vals) p.1)) ∘ fun r : Int × Int => (r.1, r.2 + (vals.count r.1 : Int))) = (ps.take i).map (·.1) := rfl
          rw [e, ← List.map_append, List.take_append_drop]
          exact nd
        have ndh' : (hs'.map (·.1)).Nodup := (hpm'.map _).nodup_iff.mpr hkeys
        have hct : countIn hs' q1.1 = some r.2 := by
          rw [countIn_perm hkeys hpm']
          exact countIn_nd hkeys (p := (q1.1, r.2)) (List.mem_append_right _ List.mem_cons_self)
        rw [put_dk ndh' hct]
        refine ⟨_, _, _, _, rfl, (fr.tr (Fr.ex ex10)).tr Fr.upd, upd_same, ?_⟩
        have hp2 := addC_perm hpm' q1.1 (q1.2 - ownOf (gsP ps c vals) q1.1 - r.2)
        rw [addC_at hkeys] at hp2
        rw [take_snoc h1, List.map_append, hA]
        exact hp2
      · rintro σ H9 ⟨hs', y7, y8, y9, rfl, fr, hd9, hpm'⟩
        rw [show (fullP ps vals).take fs.length = fullP ps vals from List.take_of_length_le (by omega), List.drop_eq_nil_of_le (by omega), List.append_nil] at hpm'
        exact q hs' H9 hd9 ((Fr.ex ex8).tr fr) (hbeh ▸ hpm')
--@split
/-! ### an answer, looked at -/
theorem givD_nil {ps : List (Int × Int)} {dd : Deed} (h : headW dd ≠ "paid") : givD ps dd = [] := by
  cases dd with
  | paid c vals => exact absurd rfl h
  | brought v c => unfold givD chgD; split <;> rfl
  | fetched v c => unfold givD chgD; split <;> rfl
  | kin v => unfold givD chgD; split <;> rfl
  | kout v => unfold givD chgD; split <;> rfl
  | other z xs => unfold givD chgD; split <;> rfl
def spRight (K : PySem.W.Frag) : Sp := fun vs H Q _ => ∃ (d an g : Addr) (x : V) (ys : List V) (hs ps : List (Int × Int)) (dd : Deed), vs = [.ref d, x, .ref an] ∧ H d = some (.dK (dkP hs)) ∧ hs.Perm ps ∧ Tl ps ∧ DeedAt H x dd ∧
  H an = some (.tup [.str (ansW (wordD ps dd)), .ref g]) ∧ H g = some (.lst ys) ∧ Prs H ys (givD ps dd) ∧ NewHeld d ps dd H (fun H2 => Q (.bl true) H2)
theorem ok_right (T : Tx K mg) : FnOk P w K mg base CX0 5 T.a__law_right T.d__law_right P__law_right (spRight K) := by
  have G__law_paid := ok_paidL (P := P) (w := w) (base := base) T
  have G__law_moved := ok_moved (P := P) (w := w) (base := base) T
  have G__law_kind := ok_kindL (P := P) (w := w) (base := base) T
  refine T.f__law_right.ok sc__law_right (fun vs H Q E h => ?_) (fun cdv A outer s H vs Q E hr h => ?_)
  · obtain ⟨d, an, g, x, ys, hs, ps, dd, rfl, _⟩ := h
    rfl
  · obtain ⟨d, an, g, x, ys, hs, ps, dd, rfl, hd, hpm, hT, hdd, han, hg, hys, q⟩ := h
    refine ⟨_, (pss_cons (ps_if (PW.pt (pw_or (pt_not (pt_val (pe_callB call_isi (by rfl) T.m_isinstance (by decide +kernel) (pa_cons (pv 2) (pa_cons (pe_bltn (v := .ty "tuple") (by rfl) T.m_tuple (by decide +kernel) rfl) pa_nil))))) (pw_or (pt_cmpR op_ne (pe_callB call_len_seq (by rfl) T.m_len (by decide +kernel) (pa_cons (pv 2) pa_nil)) pe_int (nomark _)) (pw_or1 (pt_not (pt_val (pe_callB call_isi (by rfl) T.m_isinstance (by decide +kernel) (pa_cons (pe_ix ix_tup (pv 2) pe_int (fun _ _ => rfl)) (pa_cons (pe_bltn (v := .ty "list") (by rfl) T.m_list (by decide +kernel) rfl) pa_nil)))))))))
      (pss_one (ps_ret pe_bl))
      pss_nil)
    (pss_cons (ps_if (pt_cmpR op_eq (pe_ix ix_tup (pv 1) pe_int (fun _ _ => rfl)) pe_str (nomark _))
      (pss_one (ps_ret (pe_call G__law_paid (hr.mono (by decide)) (by rfl) T.g__law_paid T.f__law_paid.kp T.p__law_paid .nil pass0 (pa_cons (pv 0) (pa_cons (pv 1) (pa_cons (pv 2) pa_nil))))))
      pss_nil)
    (pss_cons (ps_set (i := 3) sc__law_right.nd rfl (.inl rfl) pe_str)
    (Evl.pss_cut (ps_if (PW.pt (pw_or (pt_cmpR op_eq (pe_ix ix_tup (pv 1) pe_int (fun _ _ => rfl)) pe_str (nomark _)) (pw_or1 (pt_cmpR op_eq (pe_ix ix_tup (pv 1) pe_int (fun _ _ => rfl)) pe_str (nomark _)))))
      (pss_one (ps_set (i := 3) sc__law_right.nd rfl (.inl rfl) (pe_call G__law_moved (hr.mono (by decide)) (by rfl) T.g__law_moved T.f__law_moved.kp T.p__law_moved .nil pass0 (pa_cons (pv 0) (pa_cons (pv 1) pa_nil)))))
      pss_nil)
    (Evl.pss_cut (ps_if (PW.pt (pw_or (pt_cmpR op_eq (pe_ix ix_tup (pv 1) pe_int (fun _ _ => rfl)) pe_str (nomark _)) (pw_or1 (pt_cmpR op_eq (pe_ix ix_tup (pv 1) pe_int (fun _ _ => rfl)) pe_str (nomark _)))))
      (pss_one (ps_set (i := 3) sc__law_right.nd rfl (.inl rfl) (pe_call G__law_kind (hr.mono (by decide)) (by rfl) T.g__law_kind T.f__law_kind.kp T.p__law_kind .nil pass0 (pa_cons (pv 0) (pa_cons (pv 1) pa_nil)))))
      pss_nil)
    (pss_one (ps_ret (pe_cmpR (op_eqD hr.units) (pv 2) (pe_tup (pa_cons (pv 3) (pa_cons (pe_lst pa_nil) pa_nil))) (nomark _))))))))), ?_⟩
    obtain ⟨t, rest, rfl, ht, hp, hb, hf, hi, ho⟩ := head_at hdd
    have i0 : ∀ {rest : List V} {w : Str}, atI (V.str w :: rest) 0 = some (.str w) := at_of (show (0 : Int) = ((0 : Nat) : Int) from rfl) List.getElem?_cons_zero
    refine ⟨_, rfl, _, _, _, _, true, rfl, .ty "tuple", .base (.tup han), kit_ty (by decide +kernel), _, rfl, iteF ?_⟩
    refine ⟨_, rfl, an, _, rfl, .inr (.of han), rfl, _, rfl, iteVN (fun z => absurd rfl z) (fun _ => ?_)⟩
    refine ⟨_, rfl, an, _, 1, .ref g, rfl, rfl, .of han, rfl, _, _, _, _, true, rfl, .ty "list", .base (.lst hg), kit_ty (by decide +kernel), _, rfl, iteF ?_⟩
    refine ⟨_, rfl, t, _, 0, .str (headW dd), rfl, rfl, .of ht, i0, rfl, _, rfl, iteD (fun y => ?_) (fun y => ?_)⟩
    · obtain ⟨c, vals, rfl⟩ := hp.mp (V.str.inj y)
      obtain ⟨t', u, e, ht', hu⟩ := hdd
      cases e
      exact ⟨_, rfl, _, rfl, _, rfl, d, t, u, an, g, ys, hs, ps, c, vals, rfl, hd, hpm, hT, ht', hu, han, hg, hys, q⟩
    have hnp : headW dd ≠ "paid" := fun z => y (congrArg V.str z)
    rw [givD_nil hnp] at hys
    refine ⟨fun σ' H' => ∃ (w : Str) (hs' : List (Int × Int)), σ' = [some (.ref d), some (.ref t), some (.ref an), some (.str w)] ∧ H' d = some (.dK (dkP hs')) ∧ Fr d H H' ∧ ((headW dd = "brought" ∨ headW dd = "fetched") → w = ansW (wordD ps dd) ∧ hs'.Perm (behD ps dd)) ∧ (¬ (headW dd = "brought" ∨ headW dd = "fetched") → w = "no deed" ∧ hs' = hs), ?_, ?_⟩
    · refine ⟨_, rfl, t, _, 0, .str (headW dd), rfl, rfl, .of ht, i0, rfl, _, rfl, iteD (fun y1 => iteT ?_) (fun y1 => ?_)⟩
      · obtain ⟨v, c, rfl⟩ := hb.mp (V.str.inj y1)
        obtain ⟨t', e, ht'⟩ := hdd
        cases e
        exact ⟨_, rfl, _, rfl, .inl ⟨d, t, hs, ps, v, c, rfl, hd, hpm, hT, ht', fun hs' H2 h1 h2 h3 => ⟨_, hs', rfl, h1, h2, fun _ => ⟨rfl, h3⟩, fun z => absurd (.inl rfl) z⟩⟩⟩
      · refine ⟨_, rfl, t, _, 0, .str (headW dd), rfl, rfl, .of ht, i0, rfl, _, rfl, iteD (fun y2 => ?_) (fun y2 => ?_)⟩
        · obtain ⟨v, c, rfl⟩ := hf.mp (V.str.inj y2)
          obtain ⟨t', e, ht'⟩ := hdd
          cases e
          exact ⟨_, rfl, _, rfl, .inr ⟨d, t, hs, ps, v, c, rfl, hd, hpm, hT, ht', fun hs' H2 h1 h2 h3 => ⟨_, hs', rfl, h1, h2, fun _ => ⟨rfl, h3⟩, fun z => absurd (.inr rfl) z⟩⟩⟩
        · exact ⟨_, hs, rfl, hd, Fr.rfl', fun z => z.elim (fun z => absurd (congrArg V.str z) y1) (fun z => absurd (congrArg V.str z) y2), fun _ => ⟨rfl, rfl⟩⟩
    rintro σ' H1 ⟨w1, hs1, rfl, hd1, fr1, c1, c2⟩
    have hn1 : ∀ t o, H t = some o → (∀ kvs, o ≠ .dK kvs) → H1 t = some o := fun t o h hk => fr1 t o (fun z => hk _ (by rw [z, hd] at h; exact (Option.some.inj h).symm)) h
    have ht1 := hn1 _ _ ht (fun _ z => nomatch z)
    have hdd1 := hdd.fr fr1 hd
    refine ⟨fun σ' H' => ∃ (hs' : List (Int × Int)), σ' = [some (.ref d), some (.ref t), some (.ref an), some (.str (ansW (wordD ps dd)))] ∧ H' d = some (.dK (dkP hs')) ∧ Fr d H H' ∧ hs'.Perm (behD ps dd), ?_, ?_⟩
    · refine ⟨_, rfl, t, _, 0, .str (headW dd), rfl, rfl, .of ht1, i0, rfl, _, rfl, iteD (fun y1 => iteT ?_) (fun y1 => ?_)⟩
      · obtain ⟨v, rfl⟩ := hi.mp (V.str.inj y1)
        obtain ⟨t', e, ht'⟩ := hdd1
        cases e
        obtain ⟨rfl, rfl⟩ := c2 (fun z => z.elim (fun z => absurd z (show ("in" : Str) ≠ "brought" by decide)) (fun z => absurd z (show ("in" : Str) ≠ "fetched" by decide)))
        exact ⟨_, rfl, _, rfl, .inl ⟨d, t, hs1, ps, v, rfl, hd1, hpm, hT, ht', fun hs' H2 h1 h2 h3 => ⟨hs', rfl, h1, fr1.tr h2, h3⟩⟩⟩
      · refine ⟨_, rfl, t, _, 0, .str (headW dd), rfl, rfl, .of ht1, i0, rfl, _, rfl, iteD (fun y2 => ?_) (fun y2 => ?_)⟩
        · obtain ⟨v, rfl⟩ := ho.mp (V.str.inj y2)
          obtain ⟨t', e, ht'⟩ := hdd1
          cases e
          obtain ⟨rfl, rfl⟩ := c2 (fun z => z.elim (fun z => absurd z (show ("out" : Str) ≠ "brought" by decide)) (fun z => absurd z (show ("out" : Str) ≠ "fetched" by decide)))
          exact ⟨_, rfl, _, rfl, .inr ⟨d, t, hs1, ps, v, rfl, hd1, hpm, hT, ht', fun hs' H2 h1 h2 h3 => ⟨hs', rfl, h1, fr1.tr h2, h3⟩⟩⟩
        · by_cases hbf : headW dd = "brought" ∨ headW dd = "fetched"
          · obtain ⟨rfl, hpm1⟩ := c1 hbf
            exact ⟨hs1, rfl, hd1, fr1, hpm1⟩
          · obtain ⟨rfl, rfl⟩ := c2 hbf
            cases dd with
            | paid c vals => exact absurd rfl hnp
            | brought v c => exact absurd (.inl rfl) hbf
            | fetched v c => exact absurd (.inr rfl) hbf
            | kin v => exact absurd rfl y1
            | kout v => exact absurd rfl y2
            | other z xs => exact ⟨hs1, rfl, hd1, fr1, by unfold behD; rw [if_neg (show ¬ wordD ps (.other z xs) = "" from by show ¬ ("deed" : Str) = ""; decide)]; exact hpm⟩
    rintro σ' H2 ⟨hs2, rfl, hd2, fr2, hpm2⟩
    have hn2 : ∀ t o, H t = some o → (∀ kvs, o ≠ .dK kvs) → H2 t = some o := fun t o h hk => fr2 t o (fun z => hk _ (by rw [z, hd] at h; exact (Option.some.inj h).symm)) h
    have hdt : ∀ zs, H d ≠ some (.tup zs) := fun zs z => by rw [hd] at z; cases z
    refine ⟨_, rfl, _, rfl, Nat.zero_le _, fun e he => ?_⟩
    (generalize hh : upd H2 e _ = H3; have e3 : Ex H2 H3 := (by rw [← hh]; exact Ex.nw he); have c3 := (show H3 e = some _ by rw [← hh]; exact upd_same); clear hh)
    refine ⟨len63 (by show 2 ≤ _; decide), fun t9 ht9 => ?_⟩
    (generalize hh : upd H3 t9 _ = H4; have e4 : Ex H3 H4 := (by rw [← hh]; exact Ex.nw ht9); have c4 := (show H4 t9 = some _ by rw [← hh]; exact upd_same); clear hh)
    have e34 := e3.tr e4
    have sh := shaped_ansE (a := (ansW (wordD ps dd), [])) (strOk_ansW _)
    refine ⟨_, _, ansE_dp (a := (ansW (wordD ps dd), [])) (e34 _ _ (hn2 _ _ han (fun _ z => nomatch z))) (e34 _ _ (hn2 _ _ hg (fun _ z => nomatch z))) ((hys.fr fr2 hdt).ex e34), ansE_dp (a := (ansW (wordD ps dd), [])) c4 (e4 _ _ c3) .nil, sh, sh, ?_⟩
    rw [eqv_of_shaped sh]
    exact q hs2 H4 (e34 _ _ hd2) (fr2.tr (Fr.ex e34)) hpm2
--@split
/-! ### again, with what was given spoilt -/
theorem depth_ansEs : ∀ as : List Ans, PyData.depthAll (as.map ansE) ≤ 8
  | [] => by simp [PyData.depthAll]
  | a :: r => by
    have h := depth_ansEs r
    have b := depth_dPs a.2
    rw [List.map_cons]
    simp only [ansE, PyData.depth, PyData.depthAll] at h ⊢
    omega
theorem canLay_ansEs : ∀ as : List Ans, (∀ a ∈ as, PyData.strOk a.1 = true) → PyData.canLayAll0 (as.map ansE) = true
  | [], _ => rfl
  | a :: r, h => by
    rw [List.map_cons]
    show (PyData.canLay0 (ansE a) && PyData.canLayAll0 (r.map ansE)) = true
    rw [canLay_ansEs r fun x z => h x (List.mem_cons_of_mem _ z)]
    show ((PyData.strOk a.1 && (PyData.canLayAll0 (a.2.map dP) && true)) && true) = true
    rw [canLay_dPs, h a List.mem_cons_self]
    rfl
def ansL (as : List Ans) : PyData := .list (as.map ansE)
theorem shaped_ansL {as : List Ans} (h : ∀ a ∈ as, PyData.strOk a.1 = true) : SeqAt.shaped (ansL as) = true := by
  unfold SeqAt.shaped
  have h1 : PyData.canLay0 (ansL as) = true := canLay_ansEs as h
  have h2 : PyData.depth (ansL as) ≤ 64 := by
    have b := depth_ansEs as
    simp only [ansL, PyData.depth]
    omega
  rw [h1, decide_eq_true h2]
  rfl
theorem answers_ok : ∀ (ds : List Deed) (ps : List (Int × Int)), ∀ a ∈ answers ps ds, PyData.strOk a.1 = true
  | [], _, a, h => nomatch h
  | d :: ds, ps, a, h => by
    rcases List.mem_cons.mp h with e | e
    · rw [e]
      exact strOk_ansW _
    · exact answers_ok ds _ a e
theorem AnsAt.dp {K : PySem.W.Frag} {H : Hp} : ∀ {xs : List V} {as : List Ans} {gs : List Addr}, AnsAt H xs as gs → DpAll K H xs (as.map ansE)
  | _, _, _, .nil => .nil
  | _, _, _, .cons h1 h2 h3 r => .cons (ansE_dp h1 h2 h3) (AnsAt.dp r)
theorem AnsAt.tail {H : Hp} : ∀ {xs : List V} {as : List Ans} {gs : List Addr} (i : Nat), AnsAt H xs as gs → AnsAt H (xs.drop i) (as.drop i) (gs.drop i)
  | _, _, _, 0, h => h
  | _, _, _, _ + 1, .nil => .nil
  | _, _, _, i + 1, .cons _ _ _ r => AnsAt.tail i r
theorem AnsAt.here {H : Hp} {xs : List V} {as : List Ans} {gs : List Addr} {i : Nat} (h : AnsAt H (xs.drop i) (as.drop i) (gs.drop i)) (hi : i < xs.length) : ∃ an g ys a, xs[i]? = some (.ref an) ∧ as[i]? = some a ∧ H an = some (.tup [.str a.1, .ref g]) ∧ H g = some (.lst ys) ∧ Prs H ys a.2 ∧ gs[i]? = some g ∧ gs.drop i = g :: gs.drop (i + 1) ∧ AnsAt H (xs.drop (i + 1)) (as.drop (i + 1)) (gs.drop (i + 1)) := by
  rw [← List.tail_drop, ← List.tail_drop, ← List.tail_drop, ← List.head?_drop, ← List.head?_drop, ← List.head?_drop]
  have hl : 0 < (xs.drop i).length := by
    rw [List.length_drop]
    omega
  generalize xs.drop i = X at *
  generalize as.drop i = B at *
  generalize gs.drop i = G at *
  cases h with
  | nil => exact absurd hl (by simp)
  | cons h1 h2 h3 r => exact ⟨_, _, _, _, rfl, rfl, h1, h2, h3, rfl, rfl, r⟩
theorem given_len (r0 : List Cell) (ps : List (Int × Int)) : ∀ k d : Nat, (given r0 ps k d).length ≤ k
  | 0, _ => Nat.le_refl _
  | k + 1, d => by
    have h := given_len r0 ps k (d - pick (lastRow r0 (ps.take k)) (ps.getD k (0, 0)).1.toNat (ps.getD k (0, 0)).2.toNat d (cellI (rAt (lastRow r0 (ps.take (k + 1))) d)) * (ps.getD k (0, 0)).1.toNat)
    unfold given
    rw [List.length_append]
    have h2 : ∀ (c : Prop) [Decidable c] (x : Int × Int), (if c then [x] else []).length ≤ 1 := fun c _ x => by split <;> simp
    exact Nat.add_le_add h (h2 _ _)
theorem givD_len {ps : List (Int × Int)} (hT : Tl ps) (d : Deed) : (givD ps d).length ≤ 10 := by
  by_cases h : headW d = "paid"
  · unfold givD
    split
    · cases d with
      | paid c vals =>
        refine Nat.le_trans (given_len _ _ _ _) ?_
        rw [fullP_len]
        exact hT.len.2
      | brought v c => exact Nat.zero_le _
      | fetched v c => exact Nat.zero_le _
      | kin v => exact Nat.zero_le _
      | kout v => exact Nat.zero_le _
      | other z xs => exact Nat.zero_le _
    · exact Nat.zero_le _
  · rw [givD_nil h]
    exact Nat.zero_le _
theorem answers_gl : ∀ {ds : List Deed} {ps : List (Int × Int)}, Tl ps → ∀ a ∈ answers ps ds, a.2.length ≤ 10
  | [], _, _, a, h => nomatch h
  | d :: ds, ps, hT, a, h => by
    rcases List.mem_cons.mp h with e | e
    · rw [e]
      exact givD_len hT d
    · exact answers_gl (behD_tl hT d) a e
def spAgain (K : PySem.W.Frag) : Sp := fun vs H Q _ => ∃ (t dl l du b A : Addr) (xs ws bs as dx : List V) (gs : List Addr) (ps : List (Int × Int)) (ds : List Deed) (H0 : Hp), vs = [.ref t, .ref dl, .ref l, .ref du] ∧ Ex H0 H ∧ H0 t = some (.lst xs) ∧ Prs H0 xs ps ∧ Tl ps ∧ H0 dl = some (.lst ws) ∧ DeedsAt H0 ws ds ∧ ds.length ≤ 100 ∧
  (∀ g ∈ gs, H0 g = none) ∧ H0 b = none ∧ gs.Nodup ∧ b ∉ gs ∧ A ∉ gs ∧ du ∉ gs ∧ b ≠ A ∧ du ≠ b ∧ H l = some (.tup [.ref b, .ref A]) ∧ H b = some (.lst bs) ∧ H A = some (.lst as) ∧ AnsAt H as (answers ps ds) gs ∧ H du = some (.lst dx) ∧ Prs H dx (foldD ps ds) ∧ ∀ H', Ex H0 H' → Q (.bl true) H'
theorem ok_again (T : Tx K mg) : FnOk P w K mg base CX0 9 T.a__law_again T.d__law_again P__law_again (spAgain K) := by
  have G_day := ok_day (P := P) (w := w) (base := base) T
  refine T.f__law_again.ok sc__law_again (fun vs H Q E h => ?_) (fun cdv A outer s H vs Q E hr h => ?_)
  · obtain ⟨t, dl, l, du, b, A, xs, ws, bs, as, dx, gs, ps, ds, H0, rfl, _⟩ := h
    rfl
  · obtain ⟨t, dl, l, du, b, L, xs, ws, bs, as, dx, gs, ps, ds, H0, rfl, e0, ht, hp, hT, hdl, hds, hdn, hgs, hb0, hnd, hbg, hLg, hdg, hbL, hdb, el, eb, eL, has, edu, hdx, q⟩ := h
    refine ⟨_, (pss_cons (ps_setLc (i := 4) (own := [("_law_answer", 7)]) (g := gName 7) rfl sc__law_again.nd rfl rfl (sw_true rfl rfl rfl (by decide +kernel)) (pi_list (pe_ix ix_tup (pv 2) pe_int (fun _ _ => rfl))) (blkOk_by (own := [("_law_answer", 7)]) (N := N__law_again) (sc := defScope s__law_again) (by decide +kernel)) (fun _ _ _ _ _ => pg_name (i := 7) sc__law_again.nd rfl (.inl rfl) (.inr rfl)) (fun _ _ _ _ _ => pts_nil) (fun _ _ _ _ _ => (pe_tup (pa_cons (pe_ix (r := rIxT K) ix_tup (pv 7) pe_int (fun _ _ => rfl)) (pa_cons (pe_callTy (r := rListK K) call_list_of (by rfl) T.m_list (by decide +kernel) (pa_cons (pe_ix (r := rIxT K) ix_tup (pv 7) pe_int (fun _ _ => rfl)) pa_nil)) pa_nil)))))
    (pss_cons (ps_for PassesOwn.never rfl (pi_range1 (by rfl) T.m_range (pa_cons (pe_callB call_len_seq (by rfl) T.m_len (by decide +kernel) (pa_cons (pv 4) pa_nil)) pa_nil)) (pg_name (i := 5) sc__law_again.nd rfl (.inl rfl))
      (pss_cons (ps_expr (pe_bm PySem.F.plainAttrs_list PySem.F.slot_list_append PySem.F.type_list_append mt_append (pe_ix ix_tup (pe_ix ix_list (pe_ix ix_tup (pv 2) pe_int (fun _ _ => rfl)) (pv 5) (fun _ _ => rfl)) pe_int (fun _ _ => rfl)) (pa_cons (pe_tup (pa_cons pe_int (pa_cons pe_int pa_nil))) pa_nil)))
      (pss_one (ps_if (pt_cmpR (op_neD hr.units) (pe_lc (own := [("_law_answer", 7)]) (g := gName 7) rfl sc__law_again.nd (pi_list (pe_slice sl_list (pe_ix ix_tup (pv 2) pe_int (fun _ _ => rfl)) (po_some (pe_op op_add (pv 5) pe_int)) po_none)) (blkOk_by (own := [("_law_answer", 7)]) (N := N__law_again) (sc := defScope s__law_again) (by decide +kernel)) (fun _ _ _ _ _ => pg_name (i := 7) sc__law_again.nd rfl (.inl rfl) (.inr rfl)) (fun _ _ _ _ _ => pts_nil) (fun _ _ _ _ _ => (pe_tup (pa_cons (pe_ix (r := rIxT K) ix_tup (pv 7) pe_int (fun _ _ => rfl)) (pa_cons (pe_callTy (r := rListK K) call_list_of (by rfl) T.m_list (by decide +kernel) (pa_cons (pe_ix (r := rIxT K) ix_tup (pv 7) pe_int (fun _ _ => rfl)) pa_nil)) pa_nil))))) (pe_slice sl_list (pv 4) (po_some (pe_op op_add (pv 5) pe_int)) po_none) (nomark _))
        (pss_one (ps_ret pe_bl))
        pss_nil))))
    (pss_cons (ps_expr (pe_bm0 PySem.F.plainAttrs_list PySem.F.slot_list_clear PySem.F.type_list_clear mt_clear (pe_ix ix_tup (pv 2) pe_int (fun _ _ => rfl))))
    (pss_cons (ps_set (i := 6) sc__law_again.nd rfl (.inl rfl) (pe_call G_day (hr.mono (by decide)) (by rfl) T.g_day T.f_day.kp T.p_day .nil pass0 (pa_cons (pv 0) (pa_cons (pv 1) pa_nil))))
    (pss_one (ps_ret (pe_and (pe_cmpR (op_eqD hr.units) (pe_ix ix_tup (pv 6) pe_int (fun _ _ => rfl)) (pv 3) (nomark _)) (pe_one (pe_cmpR (op_eqD hr.units) (pe_ix ix_tup (pv 6) pe_int (fun _ _ => rfl)) (pv 4) (nomark _)))))))))), ?_⟩
    have hansl := has.len
    have hal := answers_len ps ds
    have hasl : as.length ≤ 100 := by omega
    refine ⟨_, rfl, l, _, 1, .ref L, rfl, rfl, .of el, rfl, L, rfl, ⟨as, .of eL⟩, fun D hD => lc_list (xs := as) (fun i H' => ∃ (zs : List V) (gz : List Addr), Ex H H' ∧ H' D = some (.lst zs) ∧ zs.length = i ∧ AnsAt H' zs ((answers ps ds).take i) gz ∧ D ∉ gz ∧ (∀ g ∈ gz, H g = none)) ⟨[], [], Ex.nw hD, upd_same, rfl, .nil, by simp, by simp⟩ (fun i H' _ h => by
      obtain ⟨_, _, e, _⟩ := h
      exact .of (e _ _ eL)) ?_ ?_⟩
    · rintro j x J2 hx ⟨zs, gz, exc, eD, hzl, hz, hDg, hfz⟩
      obtain ⟨an, g, ys, a, rfl, ha, _, j1, j2, j3⟩ := AnsAt.get (has) hx
      have j1' := exc _ _ j1
      have j2' := exc _ _ j2
      have hj : j < as.length := (List.getElem?_eq_some_iff.mp hx).1
      have hbd : as.length ≤ 1000 := by omega
      refine ⟨rfl, t_yes ?_⟩
      refine ⟨_, rfl, an, _, 0, .str a.1, rfl, rfl, .of j1', rfl, _, rfl, an, _, 1, .ref g, rfl, rfl, .of j1', rfl, g, _, rfl, .inl (.of j2'), fun g2 hg2 => ?_⟩
      (generalize hh : upd J2 g2 _ = J3; have e3 : Ex J2 J3 := (by rw [← hh]; exact Ex.nw hg2); have c3 := (show J3 g2 = some _ by rw [← hh]; exact upd_same); clear hh)
      refine ⟨len63 (by show 2 ≤ _; decide), fun t3 ht3 => ?_⟩
      (generalize hh : upd J3 t3 _ = J4; have e4 : Ex J3 J4 := (by rw [← hh]; exact Ex.nw ht3); have c4 := (show J4 t3 = some _ by rw [← hh]; exact upd_same); clear hh)
      have e34 := e3.tr e4
      have eD4 := e34 _ _ eD
      have hDt : ∀ ys, J4 D ≠ some (.tup ys) := fun ys z => by rw [eD4] at z; cases z
      have nDg : D ≠ g2 := ne_of_none eD hg2
      refine ⟨zs, eD4, len63' (by omega), zs ++ [.ref t3], gz ++ [g2], Ex.mu (exc.tr e34) hD, upd_same, by rw [List.length_append, hzl]; rfl, ?_, ?_, ?_⟩
      · rw [take_snoc ha]
        refine AnsAt.snoc (a := a) ?_ ?_ (((j3.ex exc).ex e34).up hDt) (AnsAt.up hDt hDg (hz.ex e34))
        · rw [upd_ne fun z => hDt _ (z ▸ c4)]
          exact c4
        · rw [upd_ne nDg.symm]
          exact e4 _ _ c3
      · intro z
        rcases List.mem_append.mp z with z | z
        · exact hDg z
        · exact nDg (List.mem_singleton.mp z)
      · intro g' hg'
        rcases List.mem_append.mp hg' with z | z
        · exact hfz g' z
        · rw [List.mem_singleton.mp z]
          exact none_back exc hg2
    rintro H1 ⟨kx, gk, e1, ekp, hkl, hk, hDgk, hfk⟩
    rw [List.take_of_length_le (by omega)] at hk
    have ngk : ∀ g ∈ gs, g ∉ gk := fun g hg z => by
      obtain ⟨ys, y⟩ := has.mem hg
      rw [hfk g z] at y
      cases y
    have nDgs : D ∉ gs := fun z => by
      obtain ⟨ys, y⟩ := has.mem z
      rw [hD] at y
      cases y
    have nbk : b ∉ gk := fun z => by
      rw [hfk b z] at eb
      cases eb
    have nDb : D ≠ b := fun z => by rw [← z, hD] at eb; cases eb
    refine ⟨_, rfl, D, _, rfl, .inl (.of ekp), _, rfl, by omega, by omega, ?_⟩
    refine for_range (fun i σ H' => ∃ (y5 : Option V), σ = [some (.ref t), some (.ref dl), some (.ref l), some (.ref du), some (.ref D), y5, none, none] ∧ Ex H0 H' ∧ H' l = some (.tup [.ref b, .ref L]) ∧ H' b = some (.lst bs) ∧ H' L = some (.lst as) ∧ AnsAt H' (as.drop i) ((answers ps ds).drop i) (gs.drop i) ∧ H' D = some (.lst kx) ∧ AnsAt H' kx (answers ps ds) gk ∧ H' du = some (.lst dx) ∧ Prs H' dx (foldD ps ds)) ⟨_, rfl, e0.tr e1, e1 _ _ el, e1 _ _ eb, e1 _ _ eL, has.ex e1, ekp, hk, e1 _ _ edu, hdx.ex e1⟩ ?_ ?_
    · rintro i σ H2 hi ⟨y5, rfl, ex, fl, fb, fL, fas, fkp, fk, fdu, fdx⟩
      have hi' : i < as.length := by omega
      obtain ⟨an, g, ys, a0, hx, ha0, f1, f2, f3, hgi, hgd, fr⟩ := fas.here hi'
      have hgm : g ∈ gs := List.mem_of_getElem? hgi
      have iat : atI as (0 + (i : Int)) = some (.ref an) := at_of (Int.zero_add _) hx
      refine ⟨_, rfl, l, _, 1, .ref L, rfl, rfl, .of fl, rfl, _, rfl, L, as, _, .ref an, rfl, rfl, .of fL, iat, an, _, 1, .ref g, rfl, rfl, .of f1, rfl, .inl ⟨rfl, _, .of f2⟩, len63 (by show 2 ≤ _; decide), fun t7 ht7 => ?_⟩
      have hyl : ys.length ≤ 10 := by
        rw [f3.len]
        exact answers_gl hT _ (List.mem_of_getElem? ha0)
      (generalize hh : upd H2 t7 _ = H3; have e3 : Ex H2 H3 := (by rw [← hh]; exact Ex.nw ht7); have c3 := (show H3 t7 = some _ by rw [← hh]; exact upd_same); clear hh)
      have f2' := e3 _ _ f2
      refine ⟨g, ys, _, rfl, rfl, f2', len63' (by omega), ?_⟩
      have hgt : ∀ zs, H3 g ≠ some (.tup zs) := fun zs z => by rw [f2'] at z; cases z
      have nd' : g ∉ gs.drop (i + 1) := by
        have : (gs.drop i).Nodup := hnd.sublist (List.drop_sublist ..)
        rw [hgd, List.nodup_cons] at this
        exact this.1
      have nn : ∀ {z : Addr} {o : HO}, H3 z = some o → z ≠ g → ∀ o', (upd H3 g o') z = some o := fun h hz o' => by rw [upd_ne hz]; exact h
      have ex4 : Ex H0 (upd H3 g (.lst (ys ++ [.ref t7]))) := Ex.mu (ex.tr e3) (hgs g hgm)
      have gl : l ≠ g := fun z => by rw [z] at fl; rw [fl] at f2; cases f2
      have fl4 := nn (e3 _ _ fl) gl (.lst (ys ++ [.ref t7]))
      have fb4 := nn (e3 _ _ fb) (fun z => hbg (z ▸ hgm)) (.lst (ys ++ [.ref t7]))
      have fL4 := nn (e3 _ _ fL) (fun z => hLg (z ▸ hgm)) (.lst (ys ++ [.ref t7]))
      have fkp4 := nn (e3 _ _ fkp) (fun z => nDgs (z ▸ hgm)) (.lst (ys ++ [.ref t7]))
      have fdu4 := nn (e3 _ _ fdu) (fun z => hdg (z ▸ hgm)) (.lst (ys ++ [.ref t7]))
      have fas4 := AnsAt.up (o := .lst (ys ++ [.ref t7])) hgt nd' (fr.ex e3)
      have fk4 := AnsAt.up (o := .lst (ys ++ [.ref t7])) hgt (ngk g hgm) (fk.ex e3)
      have fdx4 := (fdx.ex e3).up (o := .lst (ys ++ [.ref t7])) hgt
      generalize upd H3 g (.lst (ys ++ [.ref t7])) = H4 at *
      have i1 : (0 + (i : Int) + 1) = ((i + 1 : Nat) : Int) := by omega
      refine ⟨_, rfl, l, _, 1, .ref L, rfl, rfl, .of fl4, rfl, _, rfl, _, _, rfl, rfl, _, rfl, L, as, rfl, .of fL4, fun s hs => ?_⟩
      rw [i1, cut_drop as (i + 1) (by omega)]
      (generalize hh : upd H4 s _ = H5; have e5 : Ex H4 H5 := (by rw [← hh]; exact Ex.nw hs); have c5 := (show H5 s = some _ by rw [← hh]; exact upd_same); clear hh)
      refine ⟨s, rfl, ⟨as.drop (i + 1), .of c5⟩, fun D hD => lc_list (xs := as.drop (i + 1)) (fun nn H' => ∃ (zs : List V) (gz : List Addr), Ex H5 H' ∧ H' D = some (.lst zs) ∧ zs.length = nn ∧ AnsAt H' zs (((answers ps ds).drop (i + 1)).take nn) gz ∧ D ∉ gz ∧ (∀ g ∈ gz, H5 g = none)) ⟨[], [], Ex.nw hD, upd_same, rfl, .nil, by simp, by simp⟩ (fun i H' _ h => by
        obtain ⟨_, _, e, _⟩ := h
        exact .of (e _ _ c5)) ?_ ?_⟩
      · rintro j x J2 hx ⟨zs, gz, exc, eD, hzl, hz, hDg, hfz⟩
        obtain ⟨an, g, ys, a, rfl, ha, _, j1, j2, j3⟩ := AnsAt.get (fas4.ex e5) hx
        have j1' := exc _ _ j1
        have j2' := exc _ _ j2
        have hj : j < (as.drop (i + 1)).length := (List.getElem?_eq_some_iff.mp hx).1
        have hbd : (as.drop (i + 1)).length ≤ 1000 := by rw [List.length_drop]; omega
        refine ⟨rfl, t_yes ?_⟩
        refine ⟨_, rfl, an, _, 0, .str a.1, rfl, rfl, .of j1', rfl, _, rfl, an, _, 1, .ref g, rfl, rfl, .of j1', rfl, g, _, rfl, .inl (.of j2'), fun g2 hg2 => ?_⟩
        (generalize hh : upd J2 g2 _ = J3; have e3 : Ex J2 J3 := (by rw [← hh]; exact Ex.nw hg2); have c3 := (show J3 g2 = some _ by rw [← hh]; exact upd_same); clear hh)
        refine ⟨len63 (by show 2 ≤ _; decide), fun t3 ht3 => ?_⟩
        (generalize hh : upd J3 t3 _ = J4; have e4 : Ex J3 J4 := (by rw [← hh]; exact Ex.nw ht3); have c4 := (show J4 t3 = some _ by rw [← hh]; exact upd_same); clear hh)
        have e34 := e3.tr e4
        have eD4 := e34 _ _ eD
        have hDt : ∀ ys, J4 D ≠ some (.tup ys) := fun ys z => by rw [eD4] at z; cases z
        have nDg : D ≠ g2 := ne_of_none eD hg2
        refine ⟨zs, eD4, len63' (by omega), zs ++ [.ref t3], gz ++ [g2], Ex.mu (exc.tr e34) hD, upd_same, by rw [List.length_append, hzl]; rfl, ?_, ?_, ?_⟩
        · rw [take_snoc ha]
          refine AnsAt.snoc (a := a) ?_ ?_ (((j3.ex exc).ex e34).up hDt) (AnsAt.up hDt hDg (hz.ex e34))
          · rw [upd_ne fun z => hDt _ (z ▸ c4)]
            exact c4
          · rw [upd_ne nDg.symm]
            exact e4 _ _ c3
        · intro z
          rcases List.mem_append.mp z with z | z
          · exact hDg z
          · exact nDg (List.mem_singleton.mp z)
        · intro g' hg'
          rcases List.mem_append.mp hg' with z | z
          · exact hfz g' z
          · rw [List.mem_singleton.mp z]
            exact none_back exc hg2
      rintro H6 ⟨zx, gz, e6, ezp, hzl, hz, _, _⟩
      have hzl' : ((answers ps ds).drop (i + 1)).length ≤ (as.drop (i + 1)).length := by rw [List.length_drop, List.length_drop]; omega
      rw [List.take_of_length_le hzl'] at hz
      have e56 := e5.tr e6
      have fkp6 := e56 _ _ fkp4
      refine ⟨_, rfl, _, rfl, _, _, rfl, rfl, _, rfl, _, kx, rfl, .of fkp6, fun s2 hs2 => ?_⟩
      rw [i1, cut_drop kx (i + 1) (by omega)]
      (generalize hh : upd H6 s2 _ = H7; have e7 : Ex H6 H7 := (by rw [← hh]; exact Ex.nw hs2); have c7 := (show H7 s2 = some _ by rw [← hh]; exact upd_same); clear hh)
      have oks : ∀ a ∈ (answers ps ds).drop (i + 1), PyData.strOk a.1 = true := fun a z => answers_ok ds ps a (List.mem_of_mem_drop z)
      have sh := shaped_ansL oks
      have dp1 : Dp K H7 (.ref D) (ansL ((answers ps ds).drop (i + 1))) := .lst (.of (e7 _ _ ezp)) (hz.ex e7).dp
      have dp2 : Dp K H7 (.ref s2) (ansL ((answers ps ds).drop (i + 1))) := .lst (.of c7) ((fk4.tail (i + 1)).ex (e56.tr e7)).dp
      refine ⟨_, _, dp1, dp2, sh, sh, ?_⟩
      rw [eqv_of_shaped sh]
      refine ⟨_, rfl, iteF ?_⟩
      have e47 := e56.tr e7
      exact ⟨_, rfl, ex4.tr e47, e47 _ _ fl4, e47 _ _ fb4, e47 _ _ fL4, fas4.ex e47, e47 _ _ fkp4, fk4.ex e47, e47 _ _ fdu4, fdx4.ex e47⟩
    · rintro σ H2 ⟨y5, rfl, ex, fl, fb, fL, fas, fkp, fk, fdu, fdx⟩
      have fbt : ∀ zs, H2 b ≠ some (.tup zs) := fun zs z => by rw [fb] at z; cases z
      refine ⟨_, rfl, l, _, 0, .ref b, rfl, rfl, .of fl, rfl, .inl ⟨rfl, _, .of fb⟩, b, bs, rfl, rfl, fb, ?_⟩
      have ex3 : Ex H0 (upd H2 b (.lst [])) := Ex.mu ex hb0
      have fkp3 : (upd H2 b (.lst [])) D = some (.lst kx) := by rw [upd_ne nDb]; exact fkp
      have fdu3 : (upd H2 b (.lst [])) du = some (.lst dx) := by rw [upd_ne hdb]; exact fdu
      have fk3 := AnsAt.up (o := .lst []) fbt nbk fk
      have fdx3 := fdx.up (o := .lst []) fbt
      generalize upd H2 b (.lst []) = H3 at *
      refine ⟨_, rfl, _, rfl, t, dl, xs, ws, ps, ds, rfl, ex3 _ _ ht, hp.ex ex3, hT, .of (ex3 _ _ hdl), hds.ex ex3, by omega, fun l2 b2 A2 xs2 as2 gs2 H4 e4 _ _ _ _ _ _ _ _ _ _ _ el2 eb2 eA2 hx2 ha2 => ?_⟩
      have sh1 := shaped_till (foldD ps ds)
      have sh2 := shaped_ansL (answers_ok ds ps)
      refine ⟨_, rfl, l2, _, 0, .ref b2, rfl, rfl, .of el2, rfl, _, rfl, _, _, till_dp (K := K) ⟨xs2, .of eb2, hx2⟩, till_dp (K := K) ⟨dx, .of (e4 _ _ fdu3), fdx3.ex e4⟩, sh1, sh1, ?_⟩
      rw [eqv_of_shaped sh1]
      refine ⟨true, rfl, ?_⟩
      rw [if_pos rfl]
      refine ⟨_, rfl, l2, _, 1, .ref A2, rfl, rfl, .of el2, rfl, _, rfl, _, _, .lst (.of eA2) ha2.dp, .lst (.of (e4 _ _ fkp3)) (fk3.ex e4).dp, sh2, sh2, ?_⟩
      rw [show PyData.eqv (.list ((answers ps ds).map ansE)) (.list ((answers ps ds).map ansE)) = true from eqv_of_shaped sh2]
      exact q _ (ex3.tr e4)
--@split
/-! ### a till, looked at -/
def spAlike (K : PySem.W.Frag) : Sp := fun vs H Q _ => ∃ (a b : Addr) (xs : List V) (ps : List (Int × Int)), vs = [.ref a, .ref b] ∧ H a = some (.lst xs) ∧ Prs H xs ps ∧ Till K H b ps ∧ Q (.bl true) H
theorem ok_alike (T : Tx K mg) : FnOk P w K mg base CX0 2 T.a__law_alike T.d__law_alike P__law_alike (spAlike K) := by
  have G__law_whole := ok_whole (P := P) (w := w) (base := base) T
  refine T.f__law_alike.ok sc__law_alike (fun vs H Q E h => ?_) (fun cdv A outer s H vs Q E hr h => ?_)
  · obtain ⟨a, b, xs, ps, rfl, _⟩ := h
    rfl
  · obtain ⟨a, b, xs, ps, rfl, ha, hp, hb, q⟩ := h
    refine ⟨_, (pss_cons (ps_if (PW.pt (pw_or (pt_not (pt_val (pe_callB call_isi (by rfl) T.m_isinstance (by decide +kernel) (pa_cons (pv 0) (pa_cons (pe_bltn (v := .ty "list") (by rfl) T.m_list (by decide +kernel) rfl) pa_nil))))) (pw_or1 (pt_cmpR (op_neD hr.units) (pv 0) (pv 1) (nomark _)))))
      (pss_one (ps_ret pe_bl))
      pss_nil)
    (pss_cons (ps_for PassesOwn.never rfl (pi_list (pv 0)) (pg_name (i := 2) sc__law_alike.nd rfl (.inl rfl))
      (pss_one (ps_if (PW.pt (pw_or (pt_not (pt_val (pe_callB call_isi (by rfl) T.m_isinstance (by decide +kernel) (pa_cons (pv 2) (pa_cons (pe_bltn (v := .ty "tuple") (by rfl) T.m_tuple (by decide +kernel) rfl) pa_nil))))) (pw_or (pt_not (pt_val (pe_call G__law_whole (hr.mono (by decide)) (by rfl) T.g__law_whole T.f__law_whole.kp T.p__law_whole .nil pass0 (pa_cons (pe_ix ix_tup (pv 2) pe_int (fun _ _ => rfl)) pa_nil)))) (pw_or1 (pt_not (pt_val (pe_call G__law_whole (hr.mono (by decide)) (by rfl) T.g__law_whole T.f__law_whole.kp T.p__law_whole .nil pass0 (pa_cons (pe_ix ix_tup (pv 2) pe_int (fun _ _ => rfl)) pa_nil))))))))
        (pss_one (ps_ret pe_bl))
        pss_nil)))
    (pss_one (ps_ret pe_bl)))), ?_⟩
    have hxl := hp.len
    refine ⟨_, rfl, _, _, _, _, true, rfl, .ty "list", .base (.lst ha), kit_ty (by decide +kernel), _, rfl, iteF ?_⟩
    refine ⟨_, rfl, _, rfl, _, _, till_dp (K := K) ⟨xs, .of ha, hp⟩, till_dp hb, shaped_till ps, shaped_till ps, ?_⟩
    rw [eqv_of_shaped (shaped_till ps)]
    refine ⟨_, rfl, iteF ?_⟩
    refine ⟨_, rfl, a, rfl, ⟨xs, .of ha⟩, for_list (xs := xs) (fun i σ H' => ∃ y2, σ = [some (.ref a), some (.ref b), y2] ∧ H' = H) ⟨_, rfl, rfl⟩ (fun i σ H' _ h => by obtain ⟨_, _, rfl⟩ := h; exact .of ha) ?_ ?_⟩
    · rintro i x σ H' hx ⟨y2, rfl, rfl⟩
      obtain ⟨p, t, h1, rfl, h3⟩ := Prs.get hp hx
      refine ⟨_, rfl, _, _, _, _, true, rfl, .ty "tuple", .base (.tup h3), kit_ty (by decide +kernel), _, rfl, iteF ?_⟩
      refine ⟨_, rfl, t, _, 0, .int p.1, rfl, rfl, .of h3, rfl, p.1, rfl, true, rfl, iteF ?_⟩
      refine ⟨_, rfl, t, _, 1, .int p.2, rfl, rfl, .of h3, rfl, p.2, rfl, true, rfl, iteF ?_⟩
      exact ⟨_, rfl, rfl⟩
    · rintro σ H' ⟨y2, rfl, rfl⟩
      exact q
/-! ### the law -/
/-- a loop over enumerate -/
theorem for_enum {K : PySem.W.Frag} {a : Addr} {xs : List V} {g : TG} {tb : TS} {D : Ends} {σ : L2.St} {H : Hp} (Pv : Nat → L2.St → Hp → Prop) (h0 : Pv 0 σ H) (hl : ∀ i σ H, i ≤ xs.length → Pv i σ H → SqL K H a xs)
    (hs : ∀ (i : Nat) (x : V) (T : Addr) (σ : L2.St) (H : Hp), xs[i]? = some x → Pv i σ H → H T = none → g (.ref T) σ (upd H T (.tup [.int (i : Int), x])) fun σ2 H2 => tb { D with nx := Pv (i + 1), ct := Pv (i + 1), bk := D.nx } σ2 H2) (hd : ∀ σ H, Pv xs.length σ H → D.nx σ H) :
    ∃ W : Nat → Nat → L2.St → Hp → Prop, (∃ m, W 0 m σ H) ∧ ∀ i m σ H, W i m σ H →
      ((Ite K a).stop i H ∧ D.nx σ H) ∨ ((Ite K a).go i H ∧ ∃ N : L2.St → Hp → Prop, (∀ σ' H', N σ' H' → ∃ m', m' < m ∧ W (i + 1) m' σ' H') ∧ ∀ v H', (Ite K a).yld i H v H' → g v σ H' fun σ2 H2 => tb { D with nx := N, ct := N, bk := D.nx } σ2 H2) := by
  refine ⟨fun i m σ H => m = xs.length - i ∧ i ≤ xs.length ∧ Pv i σ H, ⟨xs.length, by simp, Nat.zero_le _, h0⟩, ?_⟩
  rintro i m σ H ⟨rfl, hi, p⟩
  have sq := hl i σ H hi p
  by_cases hlt : i < xs.length
  · refine .inr ⟨⟨xs, xs[i], sq, List.getElem?_eq_getElem hlt⟩, Pv (i + 1), fun σ' H' p' => ⟨xs.length - (i + 1), by omega, rfl, hlt, p'⟩, fun v H' y => ?_⟩
    obtain ⟨T, x, rfl, hT, rfl, hx⟩ := y
    exact hs i x T σ H (hx xs sq) p hT
  · obtain rfl : i = xs.length := by omega
    exact .inl ⟨⟨xs, sq, Nat.le_refl _⟩, hd σ H p⟩
/-- what is paid does not lie in the list of values -/
def NU (H : Hp) (v : Addr) (x : V) : Prop := ∀ t c u, x = .ref t → H t = some (.tup [.str "paid", c, .ref u]) → u ≠ v
def NUs (H : Hp) (v : Addr) (xs : List V) : Prop := ∀ x ∈ xs, NU H v x
theorem NU.keep {H H' : Hp} {v : Addr} {x : V} {d : Deed} (hk : ∀ t zs, H t = some (.tup zs) → H' t = some (.tup zs)) (hd : DeedAt H x d) (h : NU H v x) : NU H' v x := by
  intro t c u e et
  obtain ⟨t', rest, e1, e2, _⟩ := head_at hd
  have e3 := V.ref.inj (e.symm.trans e1)
  subst e3
  have e4 := hk _ _ e2
  rw [et] at e4
  rw [← Option.some.inj e4] at e2
  exact h t c u e e2
theorem NUs.keep {H H' : Hp} {v : Addr} (hk : ∀ t zs, H t = some (.tup zs) → H' t = some (.tup zs)) : ∀ {xs : List V} {ds : List Deed}, DeedsAt H xs ds → NUs H v xs → NUs H' v xs
  | _, _, .nil, _ => fun _ z => nomatch z
  | _, _, .cons h r, n => fun x hx => by
    rcases List.mem_cons.mp hx with e | e
    · subst e
      exact NU.keep hk h (n _ List.mem_cons_self)
    · exact NUs.keep hk r (fun y hy => n y (List.mem_cons_of_mem _ hy)) x e
theorem DeedsAt.upV {H : Hp} {v : Addr} {o : HO} (hv : ∀ ys, H v ≠ some (.tup ys)) : ∀ {xs : List V} {ds : List Deed}, DeedsAt H xs ds → NUs H v xs → DeedsAt (upd H v o) xs ds
  | _, _, .nil, _ => .nil
  | _, _, .cons h r, n => .cons (h.up hv fun t c u e et => n _ List.mem_cons_self t c u e et) (DeedsAt.upV hv r fun y hy => n y (List.mem_cons_of_mem _ hy))
theorem upd_tup {H : Hp} {f : Addr} {o : HO} (hf : ∀ ys, H f ≠ some (.tup ys)) : ∀ t zs, H t = some (.tup zs) → upd H f o t = some (.tup zs) := fun t zs h => by
  rw [upd_ne (fun e : t = f => hf zs (by rw [← e]; exact h))]
  exact h
/-- deeds as data -/
theorem ints_dp {K : PySem.W.Frag} {H : Hp} : ∀ l : List Int, DpAll K H (l.map V.int) (l.map PyData.int)
  | [] => .nil
  | i :: l => .cons (.int i) (ints_dp l)
def deedE : Deed → PyData
  | .paid c vals => .tuple [.str "paid", .int c, .list (vals.map PyData.int)]
  | .brought v c => .tuple [.str "brought", .int v, .int c]
  | .fetched v c => .tuple [.str "fetched", .int v, .int c]
  | .kin v => .tuple [.str "in", .int v]
  | .kout v => .tuple [.str "out", .int v]
  | .other z xs => .tuple (.str z :: xs.map PyData.int)
theorem DeedAt.dp {K : PySem.W.Frag} {H : Hp} {x : V} : ∀ {d : Deed}, DeedAt H x d → Dp K H x (deedE d)
  | .paid _ _, ⟨_, _, a, b, c⟩ => a ▸ .tup (.of b) (.cons (.str _) (.cons (.int _) (.cons (.lst (.of c) (ints_dp _)) .nil)))
  | .brought _ _, ⟨_, a, b⟩ => a ▸ .tup (.of b) (.cons (.str _) (.cons (.int _) (.cons (.int _) .nil)))
  | .fetched _ _, ⟨_, a, b⟩ => a ▸ .tup (.of b) (.cons (.str _) (.cons (.int _) (.cons (.int _) .nil)))
  | .kin _, ⟨_, a, b⟩ => a ▸ .tup (.of b) (.cons (.str _) (.cons (.int _) .nil))
  | .kout _, ⟨_, a, b⟩ => a ▸ .tup (.of b) (.cons (.str _) (.cons (.int _) .nil))
  | .other _ _, ⟨_, a, b, _⟩ => a ▸ .tup (.of b) (.cons (.str _) (ints_dp _))
theorem DeedsAt.dp {K : PySem.W.Frag} {H : Hp} : ∀ {xs : List V} {ds : List Deed}, DeedsAt H xs ds → DpAll K H xs (ds.map deedE)
  | _, _, .nil => .nil
  | _, _, .cons h r => .cons h.dp (DeedsAt.dp r)
theorem canLay_deed {H : Hp} {x : V} {d : Deed} (h : DeedAt H x d) : PyData.canLay0 (deedE d) = true := by
  cases d with
  | paid c vals =>
    show (PyData.strOk "paid" && (true && ((PyData.canLayAll0 (vals.map PyData.int)) && true))) = true
    rw [canLay_ints]
    decide +kernel
  | brought v c =>
    show (PyData.strOk "brought" && (true && (true && true))) = true
    decide +kernel
  | fetched v c =>
    show (PyData.strOk "fetched" && (true && (true && true))) = true
    decide +kernel
  | kin v =>
    show (PyData.strOk "in" && (true && true)) = true
    decide +kernel
  | kout v =>
    show (PyData.strOk "out" && (true && true)) = true
    decide +kernel
  | other z xs =>
    obtain ⟨_, _, _, _, hz⟩ := h
    show (PyData.strOk z && PyData.canLayAll0 (xs.map PyData.int)) = true
    rw [canLay_ints]
    rcases hz with rfl | rfl | rfl | rfl <;> decide +kernel
theorem depth_deed (d : Deed) : PyData.depth (deedE d) ≤ 8 := by
  cases d with
  | paid c vals =>
    have b := depth_ints vals
    simp only [deedE, PyData.depth, PyData.depthAll]
    omega
  | other z xs =>
    have b := depth_ints xs
    simp only [deedE, PyData.depth, PyData.depthAll]
    omega
  | brought v c => simp [deedE, PyData.depth, PyData.depthAll]
  | fetched v c => simp [deedE, PyData.depth, PyData.depthAll]
  | kin v => simp [deedE, PyData.depth, PyData.depthAll]
  | kout v => simp [deedE, PyData.depth, PyData.depthAll]
def deedL (ds : List Deed) : PyData := .list (ds.map deedE)
theorem canLay_deeds {H : Hp} : ∀ {xs : List V} {ds : List Deed}, DeedsAt H xs ds → PyData.canLayAll0 (ds.map deedE) = true
  | _, _, .nil => rfl
  | _, d :: ds, .cons h r => by
    show (PyData.canLay0 (deedE d) && PyData.canLayAll0 (ds.map deedE)) = true
    rw [canLay_deed h, canLay_deeds r]
    rfl
theorem depth_deeds : ∀ ds : List Deed, PyData.depthAll (ds.map deedE) ≤ 8
  | [] => by simp [PyData.depthAll]
  | d :: r => by
    have h := depth_deeds r
    have b := depth_deed d
    rw [List.map_cons]
    simp only [PyData.depthAll] at h ⊢
    omega
theorem shaped_deedL {H : Hp} {xs : List V} {ds : List Deed} (h : DeedsAt H xs ds) : SeqAt.shaped (deedL ds) = true := by
  unfold SeqAt.shaped
  have h1 : PyData.canLay0 (deedL ds) = true := canLay_deeds h
  have h2 : PyData.depth (deedL ds) ≤ 64 := by
    have b := depth_deeds ds
    simp only [deedL, PyData.depth]
    omega
  rw [h1, decide_eq_true h2]
  rfl
theorem answers_at : ∀ {ds : List Deed} {ps : List (Int × Int)} {i : Nat} {dd : Deed}, ds[i]? = some dd → (answers ps ds)[i]? = some (ansD (foldD ps (ds.take i)) dd)
  | [], _, _, _, h => by simp at h
  | d :: ds, ps, 0, dd, h => by
    simp at h
    subst h
    rfl
  | d :: ds, ps, i + 1, dd, h => by
    show (answers (behD ps d) ds)[i]? = _
    rw [answers_at (i := i) (dd := dd) (by simpa using h)]
    rfl
theorem AnsAt.fr {d : Addr} {H H2 : Hp} (f : Fr d H H2) {kvs : List (Key × V)} (hd : H d = some (.dK kvs)) : ∀ {xs : List V} {as : List Ans} {gs : List Addr}, AnsAt H xs as gs → AnsAt H2 xs as gs
  | _, _, _, .nil => .nil
  | _, _, _, .cons h1 h2 h3 r => .cons (f _ _ (fun e => by rw [e, hd] at h1; cases h1) h1) (f _ _ (fun e => by rw [e, hd] at h2; cases h2) h2) (h3.fr f (fun zs z => by rw [hd] at z; cases z)) (AnsAt.fr f hd r)
theorem DeedsAt.fr {d : Addr} {H H2 : Hp} (f : Fr d H H2) {kvs : List (Key × V)} (hd : H d = some (.dK kvs)) : ∀ {xs : List V} {ds : List Deed}, DeedsAt H xs ds → DeedsAt H2 xs ds
  | _, _, .nil => .nil
  | _, _, .cons h r => .cons (h.fr f hd) (DeedsAt.fr f hd r)
theorem DeedsAt.takeN {H : Hp} : ∀ {xs : List V} {ds : List Deed} (k : Nat), DeedsAt H xs ds → DeedsAt H (xs.take k) (ds.take k)
  | _, _, 0, _ => .nil
  | _, _, _ + 1, .nil => .nil
  | _, _, k + 1, .cons h r => .cons h (DeedsAt.takeN k r)
theorem DeedsAt.dropN {H : Hp} : ∀ {xs : List V} {ds : List Deed} (k : Nat), DeedsAt H xs ds → DeedsAt H (xs.drop k) (ds.drop k)
  | _, _, 0, h => h
  | _, _, _ + 1, .nil => .nil
  | _, _, k + 1, .cons _ r => DeedsAt.dropN k r
theorem DpAll.app {K : PySem.W.Frag} {H : Hp} : ∀ {xs ys : List V} {a b : List PyData}, DpAll K H xs a → DpAll K H ys b → DpAll K H (xs ++ ys) (a ++ b)
  | _, _, _, _, .nil, h => h
  | _, _, _, _, .cons h r, g => .cons h (DpAll.app r g)
def keptE (bs : List (Int × Int)) (as : List Ans) : PyData := .list [.list (bs.map dP), .list (as.map ansE)]
theorem shaped_keptE {bs : List (Int × Int)} {as : List Ans} (h : ∀ a ∈ as, PyData.strOk a.1 = true) : SeqAt.shaped (keptE bs as) = true := by
  unfold SeqAt.shaped
  have h1 : PyData.canLay0 (keptE bs as) = true := by
    show (PyData.canLayAll0 (bs.map dP) && (PyData.canLayAll0 (as.map ansE) && true)) = true
    rw [canLay_dPs, canLay_ansEs as h]
    rfl
  have h2 : PyData.depth (keptE bs as) ≤ 64 := by
    have a := depth_dPs bs
    have b := depth_ansEs as
    simp only [keptE, PyData.depth, PyData.depthAll]
    omega
  rw [h1, decide_eq_true h2]
  rfl
def spLaw (K : PySem.W.Frag) : Sp := fun vs H Q _ => ∃ (a : Addr) (ns : List Int), vs = [.ref a] ∧ SqL K H a (ns.map V.int) ∧ ns.length ≤ 63 ∧ ∀ H', Q (.bl true) H'
theorem ok_law (T : Tx K mg) : FnOk P w K mg base CX0 10 T.a_law T.d_law P_law (spLaw K) := by
  have G__law_pairs := ok_pairs (P := P) (w := w) (base := base) T
  have G__law_deed := ok_deedL (P := P) (w := w) (base := base) T
  have G__law_copies := ok_copies (P := P) (w := w) (base := base) T
  have G__law_right := ok_right (P := P) (w := w) (base := base) T
  have G__law_alike := ok_alike (P := P) (w := w) (base := base) T
  have G__law_again := ok_again (P := P) (w := w) (base := base) T
  have G_day := ok_day (P := P) (w := w) (base := base) T
  refine T.f_law.ok sc_law (fun vs H Q E h => ?_) (fun cdv A outer s H vs Q E hr h => ?_)
  · obtain ⟨a, ns, rfl, _⟩ := h
    rfl
  · obtain ⟨a, ns, rfl, hS, hnl, q⟩ := h
    refine ⟨_, (pss_cons (ps_set (i := 1) sc_law.nd rfl (.inl rfl) (pe_callB cr_sortedPO (by rfl) T.m_sorted (by decide +kernel) (pa_cons (pe_call G__law_pairs (hr.mono (by decide)) (by rfl) T.g__law_pairs T.f__law_pairs.kp T.p__law_pairs .nil pass0 (pa_cons (pv 0) pa_nil)) pa_nil)))
    (pss_cons (ps_set (i := 2) sc_law.nd rfl (.inr rfl) pe_dnewK)
    (pss_cons (ps_for PassesOwn.never rfl (pi_list (pv 1)) (pg_name (i := 3) sc_law.nd rfl (.inl rfl))
      (pss_one (ps_dput (hu_of hr) (pv 2) (pe_ix ix_tup (pv 3) pe_int (fun _ _ => rfl)) (pe_ix ix_tup (pv 3) pe_int (fun _ _ => rfl)) rfl)))
    (pss_cons (ps_set (i := 4) sc_law.nd rfl (.inl rfl) (pe_lst pa_nil))
    (pss_cons (ps_setLc (i := 5) (own := [("_law_pair", 3)]) (g := gName 3) rfl sc_law.nd rfl rfl (sw_true rfl rfl rfl (by decide +kernel)) (pi_list (pv 1)) (blkOk_by (own := [("_law_pair", 3)]) (N := N_law) (sc := defScope s_law) (by decide +kernel)) (fun _ _ _ _ _ => pg_name (i := 3) sc_law.nd rfl (.inl rfl) (.inr rfl)) (fun _ _ _ _ _ => pts_nil) (fun _ _ _ _ _ => (pe_ix (r := rIxT K) ix_tup (pv 3) pe_int (fun _ _ => rfl))))
    (pss_cons (ps_for PassesOwn.never rfl (pi_enum (by rfl) T.m_enumerate (pa_cons (pe_slice sl_list (pv 0) (po_some pe_int) (po_some pe_int)) pa_nil)) (pg_tup rfl (pgs_cons (pg_name (i := 6) sc_law.nd rfl (.inl rfl)) (pgs_cons (pg_name (i := 7) sc_law.nd rfl (.inl rfl)) pgs_nil)))
      (pss_cons (ps_expr (pe_bm PySem.F.plainAttrs_list PySem.F.slot_list_append PySem.F.type_list_append mt_append (pv 4) (pa_cons (pe_call G__law_deed (hr.mono (by decide)) (by rfl) T.g__law_deed T.f__law_deed.kp T.p__law_deed .nil pass0 (pa_cons (pv 7) (pa_cons (pv 5) (pa_cons (pv 6) pa_nil)))) pa_nil)))
      (pss_one (ps_if (pt_cmpR op_eq (pe_ix ix_tup (pe_ix ix_list (pv 4) (pe_op op_sub (pe_callB call_len_seq (by rfl) T.m_len (by decide +kernel) (pa_cons (pv 4) pa_nil)) pe_int) (fun _ _ => rfl)) pe_int (fun _ _ => rfl)) pe_str (nomark _))
        (pss_one (ps_expr (pe_bm PySem.F.plainAttrs_list PySem.F.slot_list_append PySem.F.type_list_append mt_append (pv 5) (pa_cons (pe_ix ix_tup (pe_ix ix_list (pv 4) (pe_op op_sub (pe_callB call_len_seq (by rfl) T.m_len (by decide +kernel) (pa_cons (pv 4) pa_nil)) pe_int) (fun _ _ => rfl)) pe_int (fun _ _ => rfl)) pa_nil))))
        pss_nil))))
    (pss_cons (ps_set (i := 8) sc_law.nd rfl (.inl rfl) (pe_call G__law_copies (hr.mono (by decide)) (by rfl) T.g__law_copies T.f__law_copies.kp T.p__law_copies .nil pass0 (pa_cons (pv 4) pa_nil)))
    (pss_cons (ps_set (i := 9) sc_law.nd rfl (.inl rfl) (pe_callTy call_list_of (by rfl) T.m_list (by decide +kernel) (pa_cons (pv 1) pa_nil)))
    (pss_cons (ps_set (i := 10) sc_law.nd rfl (.inl rfl) (pe_call G_day (hr.mono (by decide)) (by rfl) T.g_day T.f_day.kp T.p_day .nil pass0 (pa_cons (pv 9) (pa_cons (pv 8) pa_nil))))
    (pss_cons (ps_if (PW.pt (pw_or (pt_cmpR (op_neD hr.units) (pv 9) (pv 1) (nomark _)) (pw_or (pt_cmpR (op_neD hr.units) (pv 8) (pv 4) (nomark _)) (pw_or (pt_not (pt_val (pe_callB call_isi (by rfl) T.m_isinstance (by decide +kernel) (pa_cons (pv 10) (pa_cons (pe_bltn (v := .ty "tuple") (by rfl) T.m_tuple (by decide +kernel) rfl) pa_nil))))) (pw_or1 (pt_cmpR op_ne (pe_callB call_len_seq (by rfl) T.m_len (by decide +kernel) (pa_cons (pv 10) pa_nil)) pe_int (nomark _)))))))
      (pss_one (ps_ret pe_bl))
      pss_nil)
    (pss_cons (ps_if (PW.pt (pw_or (pt_not (pt_val (pe_callB call_isi (by rfl) T.m_isinstance (by decide +kernel) (pa_cons (pe_ix ix_tup (pv 10) pe_int (fun _ _ => rfl)) (pa_cons (pe_bltn (v := .ty "list") (by rfl) T.m_list (by decide +kernel) rfl) pa_nil))))) (pw_or1 (pt_cmpR op_ne (pe_callB call_len_seq (by rfl) T.m_len (by decide +kernel) (pa_cons (pe_ix ix_tup (pv 10) pe_int (fun _ _ => rfl)) pa_nil)) (pe_callB call_len_seq (by rfl) T.m_len (by decide +kernel) (pa_cons (pv 4) pa_nil)) (nomark _)))))
      (pss_one (ps_ret pe_bl))
      pss_nil)
    (pss_cons (ps_for PassesOwn.never rfl (pi_zip (by rfl) T.m_zip (pa_cons (pv 4) (pa_cons (pe_ix ix_tup (pv 10) pe_int (fun _ _ => rfl)) pa_nil))) (pg_tup rfl (pgs_cons (pg_name (i := 11) sc_law.nd rfl (.inl rfl)) (pgs_cons (pg_name (i := 12) sc_law.nd rfl (.inl rfl)) pgs_nil)))
      (pss_one (ps_if (pt_not (pt_val (pe_call G__law_right (hr.mono (by decide)) (by rfl) T.g__law_right T.f__law_right.kp T.p__law_right .nil pass0 (pa_cons (pv 2) (pa_cons (pv 11) (pa_cons (pv 12) pa_nil))))))
        (pss_one (ps_ret pe_bl))
        pss_nil)))
    (pss_cons (ps_set (i := 13) sc_law.nd rfl (.inl rfl) (pe_lst (pa_cons (pe_callTy call_list_of (by rfl) T.m_list (by decide +kernel) (pa_cons (pe_ix ix_tup (pv 10) pe_int (fun _ _ => rfl)) pa_nil)) (pa_cons (pe_lc (own := [("_law_answer", 12)]) (g := gName 12) rfl sc_law.nd (pi_list (pe_ix ix_tup (pv 10) pe_int (fun _ _ => rfl))) (blkOk_by (own := [("_law_answer", 12)]) (N := N_law) (sc := defScope s_law) (by decide +kernel)) (fun _ _ _ _ _ => pg_name (i := 12) sc_law.nd rfl (.inl rfl) (.inr rfl)) (fun _ _ _ _ _ => pts_nil) (fun _ _ _ _ _ => (pe_tup (pa_cons (pe_ix (r := rIxT K) ix_tup (pv 12) pe_int (fun _ _ => rfl)) (pa_cons (pe_callTy (r := rListK K) call_list_of (by rfl) T.m_list (by decide +kernel) (pa_cons (pe_ix (r := rIxT K) ix_tup (pv 12) pe_int (fun _ _ => rfl)) pa_nil)) pa_nil))))) pa_nil))))
    (Evl.pss_cut (ps_if (pt_cmpR op_lt (pe_callB call_len_seq (by rfl) T.m_len (by decide +kernel) (pa_cons (pv 4) pa_nil)) pe_int (nomark _))
      (pss_cons (ps_set (i := 14) sc_law.nd rfl (.inl rfl) (pe_op op_fdiv (pe_callB call_len_seq (by rfl) T.m_len (by decide +kernel) (pa_cons (pv 4) pa_nil)) pe_int))
      (pss_cons (ps_set (i := 15) sc_law.nd rfl (.inl rfl) (pe_call G_day (hr.mono (by decide)) (by rfl) T.g_day T.f_day.kp T.p_day .nil pass0 (pa_cons (pe_callTy call_list_of (by rfl) T.m_list (by decide +kernel) (pa_cons (pv 1) pa_nil)) (pa_cons (pe_call G__law_copies (hr.mono (by decide)) (by rfl) T.g__law_copies T.f__law_copies.kp T.p__law_copies .nil pass0 (pa_cons (pe_slice sl_list (pv 4) po_none (po_some (pv 14))) pa_nil)) pa_nil))))
      (pss_cons (ps_set (i := 16) sc_law.nd rfl (.inl rfl) (pe_call G_day (hr.mono (by decide)) (by rfl) T.g_day T.f_day.kp T.p_day .nil pass0 (pa_cons (pe_ix ix_tup (pv 15) pe_int (fun _ _ => rfl)) (pa_cons (pe_call G__law_copies (hr.mono (by decide)) (by rfl) T.g__law_copies T.f__law_copies.kp T.p__law_copies .nil pass0 (pa_cons (pe_slice sl_list (pv 4) (po_some (pv 14)) po_none) pa_nil)) pa_nil))))
      (pss_one (ps_if (PW.pt (pw_or (pt_cmpR (op_neD hr.units) (pe_op op_cat (pe_ix ix_tup (pv 15) pe_int (fun _ _ => rfl)) (pe_ix ix_tup (pv 16) pe_int (fun _ _ => rfl))) (pe_ix ix_tup (pv 10) pe_int (fun _ _ => rfl)) (nomark _)) (pw_or1 (pt_cmpR (op_neD hr.units) (pe_ix ix_tup (pv 16) pe_int (fun _ _ => rfl)) (pe_ix ix_tup (pv 10) pe_int (fun _ _ => rfl)) (nomark _)))))
        (pss_one (ps_ret pe_bl))
        pss_nil)))))
      pss_nil)
    (pss_cons (ps_if (pt_cmpR (op_neD hr.units) (pe_lst (pa_cons (pe_ix ix_tup (pv 10) pe_int (fun _ _ => rfl)) (pa_cons (pe_ix ix_tup (pv 10) pe_int (fun _ _ => rfl)) pa_nil))) (pv 13) (nomark _))
      (pss_one (ps_ret pe_bl))
      pss_nil)
    (pss_cons (ps_set (i := 17) sc_law.nd rfl (.inl rfl) (pe_callB cr_sortedPO (by rfl) T.m_sorted (by decide +kernel) (pa_cons (pe_lock (pe_lc (own := [("_law_value_here", 18)]) (g := gName 18) rfl sc_law.nd (pi_keys (pv 2)) (blkOk_by (own := [("_law_value_here", 18)]) (N := N_law) (sc := defScope s_law) (by decide +kernel)) (fun _ _ _ _ _ => pg_name (i := 18) sc_law.nd rfl (.inl rfl) (.inr rfl)) (fun _ _ _ _ _ => pts_nil) (fun _ _ _ _ _ => (pe_tup (pa_cons (pv 18) (pa_cons (pe_dget (hu_of hr) (pv 2) (pv 18) (fun _ _ => rfl)) pa_nil)))))) pa_nil)))
    (pss_cons (ps_if (pt_not (pt_val (pe_call G__law_alike (hr.mono (by decide)) (by rfl) T.g__law_alike T.f__law_alike.kp T.p__law_alike .nil pass0 (pa_cons (pe_ix ix_tup (pv 10) pe_int (fun _ _ => rfl)) (pa_cons (pv 17) pa_nil)))))
      (pss_one (ps_ret pe_bl))
      pss_nil)
    (pss_cons (ps_if (pt_cmpR op_gt (pe_callB call_len_seq (by rfl) T.m_len (by decide +kernel) (pa_cons (pv 4) pa_nil)) pe_int (nomark _))
      (pss_one (ps_ret pe_bl))
      pss_nil)
    (pss_one (ps_ret (pe_and (pe_call G__law_again (hr.mono (by decide)) (by rfl) T.g__law_again T.f__law_again.kp T.p__law_again .nil pass0 (pa_cons (pv 9) (pa_cons (pv 8) (pa_cons (pv 10) (pa_cons (pv 17) pa_nil))))) (pe_one (pe_cmpR (op_eqD hr.units) (pv 9) (pv 1) (nomark _)))))))))))))))))))))))), ?_⟩
    refine ⟨_, rfl, a, ns, rfl, hS, fun p xs ps H2 e2 hp ep hpr dr h1 h10 => ?_⟩
    refine ⟨p, xs, pairAt H2, rfl, .of ep, hpr.all, fun ts t z1 z2 ht => ?_⟩
    obtain ⟨qs, hq0, hpm, hris⟩ := sorted_prs hpr dr.nd z1 z2
    have drq := dr.perm hpm
    have hT : Tl qs := ⟨hris, drq.val, drq.cnt, by rw [hpm.length_eq]; exact ⟨h1, h10⟩⟩
    (generalize hh : upd H2 t _ = H3; have e3 : Ex H2 H3 := (by rw [← hh]; exact Ex.nw ht); have ct := (show H3 t = some _ by rw [← hh]; exact upd_same); clear hh)
    have ex3 := Ex.tr e2 e3
    have hq3 := hq0.ex e3
    have hl10 := hT.len
    have htl := hq3.len
    -- what is held
    refine fun d hd => ?_
    refine ⟨_, rfl, t, rfl, ⟨ts, (Ex.nw hd).seq (.of ct)⟩, for_list (xs := ts) (fun i σ H' => ∃ y3 : Option V, σ = [some (.ref a), some (.ref t), some (.ref d), y3, none, none, none, none, none, none, none, none, none, none, none, none, none, none, none] ∧ Ex H3 H' ∧ H' d = some (.dK (dkP (qs.take i)))) ⟨_, rfl, Ex.nw hd, upd_same⟩ (fun i σ H' _ h => by
      obtain ⟨_, _, e, _⟩ := h
      exact .of (e _ _ ct)) ?_ ?_⟩
    · rintro i x σ H4 hx ⟨y3, rfl, ex, eD⟩
      obtain ⟨p1, t2, k1, rfl, k3⟩ := Prs.get hq3 hx
      have k3' := ex _ _ k3
      refine ⟨_, rfl, t2, _, 1, .int p1.2, rfl, rfl, .of k3', rfl, _, rfl, _, rfl, t2, _, 0, .int p1.1, rfl, rfl, .of k3', rfl, d, _, rfl, DPut.k (k := Sum.inl p1.1) eD (len63' (by rw [dkP_len, List.length_take]; omega)), ?_⟩
      have hnone : countIn (qs.take i) p1.1 = none := by
        refine countIn_none fun q hq z => ?_
        have hnd := hT.nd
        rw [← List.take_append_drop i qs, drop_at k1, List.map_append, List.map_cons, List.nodup_append] at hnd
        exact hnd.2.2 q.1 (List.mem_map.mpr ⟨q, hq, rfl⟩) p1.1 List.mem_cons_self z
      rw [put_new_dk hnone]
      refine ⟨_, rfl, Ex.mu ex hd, ?_⟩
      rw [upd_same, take_snoc k1]
    rintro σ H4 ⟨y3, rfl, e4, eD⟩
    rw [List.take_of_length_le (by omega)] at eD
    have ct4 := e4 _ _ ct
    have hq4 := hq3.ex e4
    -- the deeds
    refine ⟨Nat.zero_le _, fun f hf => ?_⟩
    (generalize hh : upd H4 f _ = H5; have e5 : Ex H4 H5 := (by rw [← hh]; exact Ex.nw hf); have cf := (show H5 f = some _ by rw [← hh]; exact upd_same); clear hh)
    refine ⟨_, rfl, t, rfl, ⟨ts, .of (e5 _ _ ct4)⟩, fun v hv => lc_list (xs := ts) (fun i H' => Ex H5 H' ∧ H' v = some (.lst (((qs.take i).map fun q => q.1).map V.int))) ⟨Ex.nw hv, upd_same⟩ (fun i H' _ h => .of (h.1 _ _ (e5 _ _ ct4))) ?_ ?_⟩
    · rintro i x H' hx ⟨ex, eD⟩
      obtain ⟨p1, t2, k1, rfl, k3⟩ := Prs.get hq4 hx
      have k3' := ex _ _ (e5 _ _ k3)
      refine ⟨rfl, t_yes ?_⟩
      refine ⟨_, rfl, t2, _, 0, .int p1.1, rfl, rfl, .of k3', rfl, _, eD, len63' (by rw [List.length_map, List.length_map, List.length_take]; omega), Ex.mu ex hv, ?_⟩
      rw [upd_same, take_snoc k1, List.map_append, List.map_append]
      rfl
    rintro H6 ⟨e6, cv⟩
    rw [List.take_of_length_le (by omega)] at cv
    have hv4 : H4 v = none := none_back e5 hv
    have nfv : f ≠ v := ne_of_none cf hv
    have e46 := e5.tr e6
    have cf6 := e6 _ _ cf
    have ex46 := (ex3.tr e4).tr e46
    refine ⟨_, rfl, _, rfl, _, rfl, a, _, rfl, ex46.seq hS, fun s hs => ?_⟩
    obtain ⟨ms, hms, hml⟩ : ∃ ms : List Int, cutV (ns.map V.int) (some 3) (some 27) = ms.map V.int ∧ ms.length ≤ 63 := by
      refine ⟨(ns.drop (HT.sIx (ns.map V.int).length 0 (some 3))).take (HT.sIx (ns.map V.int).length (ns.map V.int).length (some 27) - HT.sIx (ns.map V.int).length 0 (some 3)), ?_, ?_⟩
      · unfold cutV
        rw [List.map_take, List.map_drop]
      · rw [List.length_take, List.length_drop]
        omega
    rw [hms]
    (generalize hh : upd H6 s _ = H7; have e7 : Ex H6 H7 := (by rw [← hh]; exact Ex.nw hs); have cs := (show H7 s = some _ by rw [← hh]; exact upd_same); clear hh)
    have hf7 : f ≠ s := ne_of_none cf6 hs
    have hv7 : v ≠ s := ne_of_none cv hs
    have cf7 := e7 _ _ cf6
    have cv7 := e7 _ _ cv
    have hs4 : H4 s = none := none_back e46 hs
    have e47 := e46.tr e7
    generalize hvl : (qs.map fun q => q.1) = vs0 at cv7
    have hvl0 : vs0.length ≤ 10 := by rw [← hvl, List.length_map]; exact hl10.2
    -- drawn one by one
    have hX : ∀ H', (H' s = some (.lst (ms.map V.int))) → SqL K H' s (ms.map V.int) := fun H' h => .of h
    refine ⟨s, _, rfl, .of cs, for_enum (xs := ms.map V.int) (fun i σ H' => ∃ (ws : List V) (ds : List Deed) (vals : List Int) (y3 y6 y7 : Option V), σ = [some (.ref a), some (.ref t), some (.ref d), y3, some (.ref f), some (.ref v), y6, y7, none, none, none, none, none, none, none, none, none, none, none] ∧ Ex H4 H' ∧ H' s = some (.lst (ms.map V.int)) ∧ H' f = some (.lst ws) ∧ DeedsAt H' ws ds ∧ ds.length = i ∧ H' v = some (.lst (vals.map V.int)) ∧ vals.length ≤ 10 + i ∧ NUs H' v ws) ⟨[], [], vs0, _, _, _, rfl, e47, cs, cf7, .nil, rfl, cv7, by omega, fun _ z => nomatch z⟩ (fun i σ H' _ h => by
      obtain ⟨_, _, _, _, _, _, _, _, h, _⟩ := h
      exact hX _ h) ?_ ?_⟩
    · rintro i x T0 σ H8 hx ⟨ws, ds, vals, y3, y6, y7, rfl, ex, hs8, hf8, hds, hdl, hv8, hvl8, hnu⟩ hT0
      rw [List.getElem?_map] at hx
      have him : i < ms.length := by
        cases e : ms[i]? with
        | none => rw [e] at hx; cases hx
        | some c => exact (List.getElem?_eq_some_iff.mp e).1
      obtain ⟨c, rfl⟩ : ∃ c, x = .int c := by
        cases e : ms[i]? with
        | none => rw [e] at hx; cases hx
        | some c => rw [e] at hx; exact ⟨c, (Option.some.inj hx).symm⟩
      have e9 := Ex.nw (o := .tup [.int (i : Int), .int c]) hT0
      refine ⟨T0, _, rfl, .of upd_same, rfl, _, _, rfl, _, _, rfl, rfl, ?_⟩
      generalize upd H8 T0 (.tup [.int (i : Int), .int c]) = H9 at e9
      have hf9 := e9 _ _ hf8
      have hv9 := e9 _ _ hv8
      have hwl := hds.len
      refine ⟨_, rfl, .inl ⟨rfl, _, .of hf9⟩, _, rfl, _, rfl, _, rfl, v, vals, c, _, rfl, .of hv9, by omega, fun dd x H10 e10 hdd hfu => ?_⟩
      have hf10 := e10 _ _ hf9
      have hv10 := e10 _ _ hv9
      have hs10 := e10 _ _ (e9 _ _ hs8)
      refine ⟨f, ws, _, rfl, rfl, hf10, len63' (by omega), ?_⟩
      have hft : ∀ ys, H10 f ≠ some (.tup ys) := fun ys z => by rw [hf10] at z; cases z
      have ex11 : Ex H4 (upd H10 f (.lst (ws ++ [x]))) := Ex.mu ((ex.tr e9).tr e10) hf
      have hds11 := DeedsAt.push (H0 := H9) hf10 (hds.ex (e9.tr e10)) hdd hfu (by rw [hf9]; exact fun z => nomatch z)
      have nfs : s ≠ f := hf7.symm
      have hs11 : (upd H10 f (.lst (ws ++ [x]))) s = some (.lst (ms.map V.int)) := by rw [upd_ne nfs]; exact hs10
      have hv11 : (upd H10 f (.lst (ws ++ [x]))) v = some (.lst (vals.map V.int)) := by rw [upd_ne nfv.symm]; exact hv10
      have hf11 : (upd H10 f (.lst (ws ++ [x]))) f = some (.lst (ws ++ [x])) := upd_same
      have hnu10 : NUs H10 v (ws ++ [x]) := by
        intro y hy
        rcases List.mem_append.mp hy with z | z
        · exact NUs.keep (fun t zs h => (e9.tr e10) _ _ h) hds hnu y z
        · rw [List.mem_singleton.mp z]
          intro t' c' u' e et huv
          have := hfu t' c' u' e et
          rw [huv, hv9] at this
          cases this
      have hds10 := DeedsAt.snoc hdd (hds.ex (e9.tr e10))
      have hnu11 : NUs (upd H10 f (.lst (ws ++ [x]))) v (ws ++ [x]) := NUs.keep (upd_tup hft) hds10 hnu10
      have hdd11 : DeedAt (upd H10 f (.lst (ws ++ [x]))) x dd := by
        obtain ⟨d', h1, h2⟩ := hds11.get (i := ws.length) (x := x) List.getElem?_concat_length
        rw [hwl, List.getElem?_concat_length] at h1
        rw [Option.some.inj h1]
        exact h2
      generalize upd H10 f (.lst (ws ++ [x])) = H11 at *
      obtain ⟨tt, rest, rfl, htt, _, _, _, hi, _⟩ := head_at hdd11
      have i0 : ∀ {rest : List V} {w : Str}, atI (V.str w :: rest) 0 = some (.str w) := at_of (show (0 : Int) = ((0 : Nat) : Int) from rfl) List.getElem?_cons_zero
      have il : atI (ws ++ [V.ref tt]) (((ws ++ [V.ref tt]).length : Int) - 1) = some (V.ref tt) := at_of (show (((ws ++ [V.ref tt]).length : Int) - 1) = ((ws.length : Nat) : Int) by rw [List.length_append, List.length_singleton]; omega) List.getElem?_concat_length
      refine ⟨_, rfl, _, rfl, f, _, rfl, .inl (.of hf11), _, _, rfl, rfl, f, _, _, .ref tt, rfl, rfl, .of hf11, il, tt, _, 0, .str (headW dd), rfl, rfl, .of htt, i0, rfl, _, rfl, iteD (fun y => ?_) (fun y => ?_)⟩
      · obtain ⟨v0, rfl⟩ := hi.mp (V.str.inj y)
        obtain ⟨t', e, ht'⟩ := hdd11
        cases e
        refine ⟨_, rfl, .inl ⟨rfl, _, .of hv11⟩, _, rfl, _, rfl, f, _, rfl, .inl (.of hf11), _, _, rfl, rfl, f, _, _, .ref tt, rfl, rfl, .of hf11, il, tt, _, 1, .int v0, rfl, rfl, .of ht', rfl, ?_⟩
        refine ⟨v, _, _, rfl, rfl, hv11, len63' (by rw [List.length_map]; omega), ?_⟩
        have hvt : ∀ ys, H11 v ≠ some (.tup ys) := fun ys z => by rw [hv11] at z; cases z
        refine ⟨ws ++ [.ref tt], ds ++ [.kin v0], vals ++ [v0], _, _, _, rfl, Ex.mu ex11 hv4, ?_, ?_, DeedsAt.upV hvt hds11 hnu11, by rw [List.length_append, hdl]; rfl, ?_, by rw [List.length_append]; show vals.length + 1 ≤ _; omega, NUs.keep (upd_tup hvt) hds11 hnu11⟩
        · rw [upd_ne hv7.symm]
          exact hs11
        · rw [upd_ne nfv]
          exact hf11
        · rw [upd_same, List.map_append]
          rfl
      · exact ⟨ws ++ [.ref tt], ds ++ [dd], vals, _, _, _, rfl, ex11, hs11, hf11, hds11, by rw [List.length_append, hdl]; rfl, hv11, by omega, hnu11⟩
    · rintro σ H8 ⟨ws, ds, vals, y3, y6, y7, rfl, ex, hs8, hf8, hds, hdl, hv8, hvl8, hnu⟩
      rw [List.length_map] at hdl
      have ct8 := ex _ _ ct4
      have hq8 := hq4.ex ex
      have eD8 := ex _ _ eD
      refine ⟨_, rfl, f, ws, ds, rfl, .of hf8, hds, by omega, fun l1 ws1 H9 e9 hl1 el1 hds1 => ?_⟩
      refine ⟨_, rfl, t, ts, rfl, .inl (.of (e9 _ _ ct8)), fun f1 hf1 => ?_⟩
      (generalize hh : upd H9 f1 _ = H10; have e10 : Ex H9 H10 := (by rw [← hh]; exact Ex.nw hf1); have cf1 := (show H10 f1 = some _ by rw [← hh]; exact upd_same); clear hh)
      have e810 := e9.tr e10
      have hq10 := hq8.ex e810
      refine ⟨_, rfl, _, rfl, f1, l1, ts, ws1, qs, ds, rfl, cf1, hq10, hT, .of (e10 _ _ el1), hds1.ex e10, by omega, fun l2 b2 A2 xs2 as2 gs2 H11 e11 nl nb nA ng gnd hbg hAg hlg hbA hlb hlA el2 eb2 eA2 hx2 ha2 => ?_⟩
      have e811 := e810.tr e11
      have ct11 := e811 _ _ ct8
      have cf11 := e11 _ _ cf1
      have hq11 := hq8.ex e811
      have el11 := e11 _ _ (e10 _ _ el1)
      have hf11 := e811 _ _ hf8
      have hds11 := hds.ex e811
      have hdc11 := hds1.ex (e10.tr e11)
      have shq := shaped_till qs
      have shd := shaped_deedL hds
      have hwl := hds.len
      have hal := ha2.len
      have hanl := answers_len qs ds
      refine ⟨_, rfl, _, rfl, _, _, till_dp (K := K) ⟨ts, .of cf11, hq11⟩, till_dp (K := K) ⟨ts, .of ct11, hq11⟩, shq, shq, ?_⟩
      rw [eqv_of_shaped shq]
      refine ⟨_, rfl, iteF ?_⟩
      refine ⟨_, rfl, _, rfl, _, _, .lst (.of el11) hdc11.dp, .lst (.of hf11) hds11.dp, shd, shd, ?_⟩
      rw [show PyData.eqv (.list (ds.map deedE)) (.list (ds.map deedE)) = true from eqv_of_shaped shd]
      refine ⟨_, rfl, iteF ?_⟩
      refine ⟨_, rfl, _, _, _, _, true, rfl, .ty "tuple", .base (.tup el2), kit_ty (by decide +kernel), _, rfl, iteF ?_⟩
      refine ⟨_, rfl, l2, _, rfl, .inr (.of el2), rfl, _, rfl, iteVN (fun z => absurd rfl z) (fun _ => ?_)⟩
      refine ⟨_, rfl, l2, _, 1, .ref A2, rfl, rfl, .of el2, rfl, _, _, _, _, true, rfl, .ty "list", .base (.lst eA2), kit_ty (by decide +kernel), _, rfl, iteF ?_⟩
      refine ⟨_, rfl, l2, _, 1, .ref A2, rfl, rfl, .of el2, rfl, A2, _, rfl, .inl (.of eA2), _, rfl, f, _, rfl, .inl (.of hf11), rfl, _, rfl, iteVN (fun z => absurd (by omega) z) (fun _ => ?_)⟩
      -- each looked at
      have eD11 := e811 _ _ eD8
      have hdN : ∀ t o, H11 t = some o → (∀ kvs, o ≠ .dK kvs) → t ≠ d := fun t o h hk z => hk _ (by rw [z, eD11] at h; exact (Option.some.inj h).symm)
      refine ⟨_, rfl, _, rfl, l2, _, 1, .ref A2, rfl, rfl, .of el2, rfl, f, A2, ws, as2, rfl, .of hf11, .of eA2, RZ.for_zipL (xs := ws) (ys := as2) (by omega) (fun i σ H' => ∃ (hs : List (Int × Int)) (y3 y6 y7 y11 y12 : Option V), σ = [some (.ref a), some (.ref t), some (.ref d), y3, some (.ref f), some (.ref v), y6, y7, some (.ref l1), some (.ref f1), some (.ref l2), y11, y12, none, none, none, none, none, none] ∧ Fr d H11 H' ∧ H' d = some (.dK (dkP hs)) ∧ hs.Perm (foldD qs (ds.take i))) ⟨qs, _, _, _, _, _, rfl, Fr.rfl', eD11, .refl _⟩ (fun i σ H' h => by
        obtain ⟨_, _, _, _, _, _, _, fr, _⟩ := h
        exact ⟨.of (fr _ _ (hdN _ _ hf11 (fun _ z => nomatch z)) hf11), .of (fr _ _ (hdN _ _ eA2 (fun _ z => nomatch z)) eA2)⟩) ?_ ?_⟩
      · rintro i x y T0 σ H12 hx hy ⟨hs, y3, y6, y7, y11, y12, rfl, fr, hd12, hpm12⟩ hT0
        obtain ⟨dd, hdi, hdd⟩ := hds11.get hx
        obtain ⟨an, g, ys, a0, rfl, ha0, _, j1, j2, j3⟩ := ha2.get hy
        rw [answers_at hdi] at ha0
        cases ha0
        have e13 := Ex.nw (o := .tup [x, .ref an]) hT0
        refine ⟨T0, _, rfl, .of upd_same, rfl, _, _, rfl, _, _, rfl, rfl, ?_⟩
        generalize upd H12 T0 (.tup [x, .ref an]) = H13 at e13
        have fr13 := fr.tr (Fr.ex e13)
        have hd13 := e13 _ _ hd12
        have hdt : ∀ zs, H11 d ≠ some (.tup zs) := fun zs z => by rw [eD11] at z; cases z
        refine ⟨_, rfl, _, rfl, _, rfl, d, an, g, x, ys, hs, foldD qs (ds.take i), dd, rfl, hd13, hpm12, foldD_tl hT _, hdd.fr fr13 eD11, fr13 _ _ (hdN _ _ j1 (fun _ z => nomatch z)) j1, fr13 _ _ (hdN _ _ j2 (fun _ z => nomatch z)) j2, j3.fr fr13 hdt, fun hs' H14 h1 h2 h3 => ?_⟩
        refine ⟨true, rfl, iteF ?_⟩
        refine ⟨hs', _, _, _, _, _, rfl, fr13.tr h2, h1, ?_⟩
        rw [take_snoc hdi, foldD_snoc]
        exact h3
      rintro σ H12 ⟨hs, y3, y6, y7, y11, y12, rfl, fr, hd12, hpm12⟩
      rw [List.take_of_length_le (by omega)] at hpm12
      -- what was given, kept
      have hdt : ∀ zs, H11 d ≠ some (.tup zs) := fun zs z => by rw [eD11] at z; cases z
      have el12 := fr _ _ (hdN _ _ el2 (fun _ z => nomatch z)) el2
      have eb12 := fr _ _ (hdN _ _ eb2 (fun _ z => nomatch z)) eb2
      have eA12 := fr _ _ (hdN _ _ eA2 (fun _ z => nomatch z)) eA2
      have ct12 := fr _ _ (hdN _ _ ct11 (fun _ z => nomatch z)) ct11
      have cf12 := fr _ _ (hdN _ _ cf11 (fun _ z => nomatch z)) cf11
      have el112 := fr _ _ (hdN _ _ el11 (fun _ z => nomatch z)) el11
      have hf12 := fr _ _ (hdN _ _ hf11 (fun _ z => nomatch z)) hf11
      have hq12 := hq11.fr fr hdt
      have hx12 := hx2.fr fr hdt
      have ha12 := ha2.fr fr eD11
      have hk12 : ∀ t zs, H11 t = some (.tup zs) → H12 t = some (.tup zs) := fun t zs h => fr t _ (hdN _ _ h (fun _ z => nomatch z)) h
      refine ⟨_, rfl, l2, _, 0, .ref b2, rfl, rfl, .of el12, rfl, b2, _, rfl, .inl (.of eb12), fun kb hkb => ?_⟩
      (generalize hh : upd H12 kb _ = H13; have e13 : Ex H12 H13 := (by rw [← hh]; exact Ex.nw hkb); have ckb := (show H13 kb = some _ by rw [← hh]; exact upd_same); clear hh)
      have ha13 := ha12.ex e13
      have eA13 := e13 _ _ eA12
      refine ⟨_, rfl, l2, _, 1, .ref A2, rfl, rfl, .of (e13 _ _ el12), rfl, A2, rfl, ⟨as2, .of eA13⟩, fun D hD => lc_list (xs := as2) (fun nn H' => ∃ (zs : List V) (gz : List Addr), Ex H13 H' ∧ H' D = some (.lst zs) ∧ zs.length = nn ∧ AnsAt H' zs ((answers qs ds).take nn) gz ∧ D ∉ gz ∧ (∀ g ∈ gz, H13 g = none)) ⟨[], [], Ex.nw hD, upd_same, rfl, .nil, by simp, by simp⟩ (fun i H' _ h => by
        obtain ⟨_, _, e, _⟩ := h
        exact .of (e _ _ eA13)) ?_ ?_⟩
      · rintro j x J2 hx ⟨zs, gz, exc, eD, hzl, hz, hDg, hfz⟩
        obtain ⟨an, g, ys, a, rfl, ha, _, j1, j2, j3⟩ := AnsAt.get (ha13) hx
        have j1' := exc _ _ j1
        have j2' := exc _ _ j2
        have hj : j < as2.length := (List.getElem?_eq_some_iff.mp hx).1
        have hbd : as2.length ≤ 1000 := by omega
        refine ⟨rfl, t_yes ?_⟩
        refine ⟨_, rfl, an, _, 0, .str a.1, rfl, rfl, .of j1', rfl, _, rfl, an, _, 1, .ref g, rfl, rfl, .of j1', rfl, g, _, rfl, .inl (.of j2'), fun g2 hg2 => ?_⟩
        (generalize hh : upd J2 g2 _ = J3; have e3 : Ex J2 J3 := (by rw [← hh]; exact Ex.nw hg2); have c3 := (show J3 g2 = some _ by rw [← hh]; exact upd_same); clear hh)
        refine ⟨len63 (by show 2 ≤ _; decide), fun t3 ht3 => ?_⟩
        (generalize hh : upd J3 t3 _ = J4; have e4 : Ex J3 J4 := (by rw [← hh]; exact Ex.nw ht3); have c4 := (show J4 t3 = some _ by rw [← hh]; exact upd_same); clear hh)
        have e34 := e3.tr e4
        have eD4 := e34 _ _ eD
        have hDt : ∀ ys, J4 D ≠ some (.tup ys) := fun ys z => by rw [eD4] at z; cases z
        have nDg : D ≠ g2 := ne_of_none eD hg2
        refine ⟨zs, eD4, len63' (by omega), zs ++ [.ref t3], gz ++ [g2], Ex.mu (exc.tr e34) hD, upd_same, by rw [List.length_append, hzl]; rfl, ?_, ?_, ?_⟩
        · rw [take_snoc ha]
          refine AnsAt.snoc (a := a) ?_ ?_ (((j3.ex exc).ex e34).up hDt) (AnsAt.up hDt hDg (hz.ex e34))
          · rw [upd_ne fun z => hDt _ (z ▸ c4)]
            exact c4
          · rw [upd_ne nDg.symm]
            exact e4 _ _ c3
        · intro z
          rcases List.mem_append.mp z with z | z
          · exact hDg z
          · exact nDg (List.mem_singleton.mp z)
        · intro g' hg'
          rcases List.mem_append.mp hg' with z | z
          · exact hfz g' z
          · rw [List.mem_singleton.mp z]
            exact none_back exc hg2
      rintro H14 ⟨kx, gk, e14, ekp, hkl, hk, _, _⟩
      rw [List.take_of_length_le (by omega)] at hk
      refine ⟨len63 (by show 2 ≤ _; decide), fun kl hkl2 => ?_⟩
      (generalize hh : upd H14 kl _ = H15; have e15 : Ex H14 H15 := (by rw [← hh]; exact Ex.nw hkl2); have ckl := (show H15 kl = some _ by rw [← hh]; exact upd_same); clear hh)
      have e1315 := (e13.tr e14).tr e15
      -- in two halves
      have el15 := e1315 _ _ el12
      have eb15 := e1315 _ _ eb12
      have eA15 := e1315 _ _ eA12
      have ct15 := e1315 _ _ ct12
      have hf15 := e1315 _ _ hf12
      have hq15 := hq12.ex e1315
      have hx15 := hx12.ex e1315
      have ha15 := ha12.ex e1315
      have hds15 := (hds11.fr fr eD11).ex e1315
      have sha := shaped_ansL (answers_ok ds qs)
      have hTf : Tl (foldD qs ds) := foldD_tl hT ds
      have shb := shaped_till (foldD qs ds)
      refine ⟨fun σ' H' => ∃ (y14 y15 y16 : Option V), σ' = [some (.ref a), some (.ref t), some (.ref d), y3, some (.ref f), some (.ref v), y6, y7, some (.ref l1), some (.ref f1), some (.ref l2), y11, y12, some (.ref kl), y14, y15, y16, none, none] ∧ Ex H15 H', ?_, ?_⟩
      · refine ⟨_, rfl, f, _, rfl, .inl (.of hf15), _, _, rfl, rfl, _, rfl, iteD (fun _ => ?_) (fun _ => ⟨_, _, _, rfl, Ex.rfl'⟩)⟩
        refine ⟨_, rfl, f, _, rfl, .inl (.of hf15), _, _, rfl, rfl, ⟨by decide, by decide⟩, ?_⟩
        obtain ⟨k, hk0, hkw⟩ : ∃ k : Nat, (ws.length : Int) / 2 = (k : Int) ∧ k ≤ ws.length := ⟨ws.length / 2, by omega, by omega⟩
        refine ⟨_, rfl, t, ts, rfl, .inl (.of ct15), fun t9 ht9 => ?_⟩
        (generalize hh : upd H15 t9 _ = G1; have g1 : Ex H15 G1 := (by rw [← hh]; exact Ex.nw ht9); have c9 := (show G1 t9 = some _ by rw [← hh]; exact upd_same); clear hh)
        refine ⟨_, rfl, _, rfl, _, rfl, f, ws, rfl, .of (g1 _ _ hf15), fun s9 hs9 => ?_⟩
        rw [hk0, cut_take ws k hkw]
        (generalize hh : upd G1 s9 _ = G2; have g2 : Ex G1 G2 := (by rw [← hh]; exact Ex.nw hs9); have cs9 := (show G2 s9 = some _ by rw [← hh]; exact upd_same); clear hh)
        have hdsA : DeedsAt G2 (ws.take k) (ds.take k) := (hds15.takeN k).ex (g1.tr g2)
        refine ⟨s9, ws.take k, ds.take k, rfl, .of cs9, hdsA, by rw [List.length_take]; omega, fun l3 ws3 G3 g3 _ el3 hds3 => ?_⟩
        refine ⟨t9, l3, ts, ws3, qs, ds.take k, rfl, (g2.tr g3) _ _ c9, hq15.ex ((g1.tr g2).tr g3), hT, .of el3, hds3, by rw [List.length_take]; omega, fun l4 b4 A4 xs4 as4 gs4 G4 g4 _ _ _ _ _ _ _ _ _ _ _ fl4 fb4 fA4 hx4 ha4 => ?_⟩
        have g14 := ((g1.tr g2).tr g3).tr g4
        refine ⟨_, rfl, l4, _, 0, .ref b4, rfl, rfl, .of fl4, rfl, _, rfl, _, rfl, _, rfl, f, ws, rfl, .of (g14 _ _ hf15), fun s10 hs10 => ?_⟩
        rw [hk0, cut_drop ws k hkw]
        (generalize hh : upd G4 s10 _ = G5; have g5 : Ex G4 G5 := (by rw [← hh]; exact Ex.nw hs10); have cs10 := (show G5 s10 = some _ by rw [← hh]; exact upd_same); clear hh)
        have g15 := g14.tr g5
        have hdsB : DeedsAt G5 (ws.drop k) (ds.drop k) := (hds15.dropN k).ex g15
        refine ⟨s10, ws.drop k, ds.drop k, rfl, .of cs10, hdsB, by rw [List.length_drop]; omega, fun l5 ws5 G6 g6 _ el5 hds5 => ?_⟩
        have g56 := g5.tr g6
        refine ⟨b4, l5, xs4, ws5, foldD qs (ds.take k), ds.drop k, rfl, g56 _ _ fb4, hx4.ex g56, foldD_tl hT _, .of el5, hds5, by rw [List.length_drop]; omega, fun l6 b6 A6 xs6 as6 gs6 G7 g7 _ _ _ _ _ _ _ _ _ _ _ fl6 fb6 fA6 hx6 ha6 => ?_⟩
        have g57 := g56.tr g7
        have g17 := g14.tr g57
        have dka : ds.take k ++ ds.drop k = ds := List.take_append_drop k ds
        have ean : answers qs (ds.take k) ++ answers (foldD qs (ds.take k)) (ds.drop k) = answers qs ds := by rw [← answers_app, dka]
        have efo : foldD (foldD qs (ds.take k)) (ds.drop k) = foldD qs ds := by rw [← foldD_app, dka]
        rw [efo] at hx6
        refine ⟨_, rfl, l4, _, 1, .ref A4, rfl, rfl, .of (g57 _ _ fl4), rfl, _, rfl, l6, _, 1, .ref A6, rfl, rfl, .of fl6, rfl, ?_⟩
        have la4 := ha4.len
        have la6 := ha6.len
        have lb4 := answers_len qs (ds.take k)
        have lb6 := answers_len (foldD qs (ds.take k)) (ds.drop k)
        rw [List.length_take] at lb4
        rw [List.length_drop] at lb6
        refine ⟨A4, A6, as4, as6, rfl, rfl, g57 _ _ fA4, fA6, len63 (by show as4.length + as6.length ≤ _; omega), fun l7 hl7 => ?_⟩
        (generalize hh : upd G7 l7 _ = G8; have g8 : Ex G7 G8 := (by rw [← hh]; exact Ex.nw hl7); have c7 := (show G8 l7 = some _ by rw [← hh]; exact upd_same); clear hh)
        have g18 := g17.tr g8
        have dp7 : Dp K G8 (.ref l7) (ansL (answers qs ds)) := by
          refine .lst (.of c7) ?_
          rw [← ean, List.map_append]
          exact DpAll.app (ha4.ex (g57.tr g8)).dp (ha6.ex g8).dp
        have dp2 : Dp K G8 (.ref A2) (ansL (answers qs ds)) := .lst (.of (g18 _ _ eA15)) (ha15.ex g18).dp
        refine ⟨_, rfl, l2, _, 1, .ref A2, rfl, rfl, .of (g18 _ _ el15), rfl, _, _, dp7, dp2, sha, sha, ?_⟩
        rw [eqv_of_shaped sha]
        refine ⟨_, rfl, iteF ?_⟩
        refine ⟨_, rfl, l6, _, 0, .ref b6, rfl, rfl, .of (g8 _ _ fl6), rfl, _, rfl, l2, _, 0, .ref b2, rfl, rfl, .of (g18 _ _ el15), rfl, _, _, till_dp (K := K) ⟨xs6, .of (g8 _ _ fb6), hx6.ex g8⟩, till_dp (K := K) ⟨xs2, .of (g18 _ _ eb15), hx15.ex g18⟩, shb, shb, ?_⟩
        rw [eqv_of_shaped shb]
        refine ⟨_, rfl, iteF ?_⟩
        exact ⟨_, _, _, rfl, g18⟩
      rintro σ' H16 ⟨y14, y15, y16, rfl, e16⟩
      have ekl := e16 _ _ ckl
      have ekb := e16 _ _ ((e14.tr e15) _ _ ckb)
      have ekD := e16 _ _ (e15 _ _ ekp)
      have hkk := hk.ex (e15.tr e16)
      have hkb := hx12.ex (e1315.tr e16)
      have e1316 := e1315.tr e16
      have el16 := e16 _ _ el15
      have eb16 := e16 _ _ eb15
      have eA16 := e16 _ _ eA15
      have hx16 := hx15.ex e16
      have ha16 := ha15.ex e16
      refine ⟨_, rfl, l2, _, 0, .ref b2, rfl, rfl, .of el16, rfl, _, rfl, l2, _, 1, .ref A2, rfl, rfl, .of el16, rfl, len63 (by show 2 ≤ _; decide), fun w9 hw9 => ?_⟩
      (generalize hh : upd H16 w9 _ = H17; have e17 : Ex H16 H17 := (by rw [← hh]; exact Ex.nw hw9); have cw := (show H17 w9 = some _ by rw [← hh]; exact upd_same); clear hh)
      have shk := shaped_keptE (bs := foldD qs ds) (answers_ok ds qs)
      have dp1 : Dp K H17 (.ref w9) (keptE (foldD qs ds) (answers qs ds)) := .lst (.of cw) (.cons (till_dp (K := K) ⟨xs2, .of (e17 _ _ eb16), hx16.ex e17⟩) (.cons (.lst (.of (e17 _ _ eA16)) (ha16.ex e17).dp) .nil))
      have dp2 : Dp K H17 (.ref kl) (keptE (foldD qs ds) (answers qs ds)) := .lst (.of (e17 _ _ ekl)) (.cons (till_dp (K := K) ⟨xs2, .of (e17 _ _ ekb), hkb.ex e17⟩) (.cons (.lst (.of (e17 _ _ ekD)) (hkk.ex e17).dp) .nil))
      refine ⟨_, rfl, _, _, dp1, dp2, shk, shk, ?_⟩
      rw [eqv_of_shaped shk]
      refine ⟨_, rfl, iteF ?_⟩
      have hd17 := (e1316.tr e17) _ _ hd12
      have hl5 := hTf.len
      have hsl : hs.length ≤ 10 := by rw [hpm12.length_eq]; exact hl5.2
      have ndh : (hs.map (·.1)).Nodup := (hpm12.map _).nodup_iff.mpr hTf.nd
      -- what is held, sorted
      refine ⟨d, _, hd17, trivial, fun od => ⟨_, rfl, d, od, rfl, .inl ⟨_, upd_same, fun D2 hD2 => ?_⟩⟩⟩
      have hDd : D2 ≠ d := fun z => by rw [z, upd_same] at hD2; cases hD2
      refine lc_keys (kvs := dkP hs) (fun i H' => ∃ zs : List V, Ex (upd H17 d (.frz od (.dK (dkP hs)))) H' ∧ H' D2 = some (.lst zs) ∧ zs.length = i ∧ Prs H' zs (hs.take i)) ⟨[], Ex.nw hD2, upd_same, rfl, .nil⟩ (fun i H' _ h => by
        obtain ⟨_, e, _⟩ := h
        exact e _ _ upd_same) ?_ ?_
      · rintro i k vv H18 hk0 ⟨zs, exz, eDz, hzl, hzs⟩
        obtain ⟨p1, hp1, rfl, rfl⟩ := dk_get hk0
        have hi : i < hs.length := (List.getElem?_eq_some_iff.mp hp1).1
        have vh : valV (dkP hs) (Sum.inl p1.1) = some (.int p1.2) := by rw [val_dk, countIn_nd ndh (List.mem_of_getElem? hp1)]; rfl
        have dg : DGet H18 d (.int p1.1) (some (.int p1.2)) := .inl ⟨dkP hs, Sum.inl p1.1, .inr ⟨od, exz _ _ upd_same⟩, rfl, vh.symm⟩
        refine ⟨rfl, t_yes ?_⟩
        refine ⟨_, rfl, _, rfl, _, rfl, d, _, rfl, dg, len63 (by show 2 ≤ _; decide), fun t3 ht3 => ?_⟩
        (generalize hh : upd H18 t3 _ = H19; have e19 : Ex H18 H19 := (by rw [← hh]; exact Ex.nw ht3); have c19 := (show H19 t3 = some _ by rw [← hh]; exact upd_same); clear hh)
        have eD19 := e19 _ _ eDz
        refine ⟨zs, eD19, len63' (by omega), zs ++ [.ref t3], Ex.mu (exz.tr e19) hD2, upd_same, by rw [List.length_append, hzl]; rfl, ?_⟩
        rw [take_snoc hp1]
        refine Prs.up (by intro bs y; rw [eD19] at y; cases y) ?_
        exact Prs.snoc (hzs.ex e19) ⟨t3, rfl, c19⟩
      rintro H18 ⟨zs, exz, eDz, hzl, hzs⟩
      rw [dkP_len, List.take_of_length_le (Nat.le_refl _)] at hzs
      refine ⟨exz _ _ upd_same, ?_⟩
      have e1719 : Ex H17 (upd H18 d (.dK (dkP hs))) := Ex.unlock hd17 exz
      have ef0 : (upd H18 d (.dK (dkP hs))) D2 = some (.lst zs) := by rw [upd_ne hDd]; exact eDz
      have hz0 : Prs (upd H18 d (.dK (dkP hs))) zs hs := hzs.up (fun bs y => by rw [exz _ _ upd_same] at y; cases y)
      generalize upd H18 d (.dK (dkP hs)) = H19 at e1719 ef0 hz0
      refine ⟨D2, zs, pairAt H19, rfl, .of ef0, hz0.all, fun dx du z1 z2 hdu => ?_⟩
      obtain ⟨rs, hr0, hrpm, hrris⟩ := sorted_prs hz0 ndh z1 z2
      have hrs : rs = foldD qs ds := rising_uniq hrris hTf.ris (hrpm.trans hpm12)
      subst hrs
      (generalize hh : upd H19 du _ = H20; have e20 : Ex H19 H20 := (by rw [← hh]; exact Ex.nw hdu); have cdu := (show H20 du = some _ by rw [← hh]; exact upd_same); clear hh)
      have hdx := hr0.ex e20
      have e1620 := (e17.tr e1719).tr e20
      have e1320 := e1316.tr (e17.tr (e1719.tr e20))
      have el20 := e1620 _ _ el16
      have eb20 := e1620 _ _ eb16
      have eA20 := e1620 _ _ eA16
      have hx20 := hx16.ex e1620
      have ha20 := ha16.ex e1620
      have hf20 := e1320 _ _ hf12
      refine ⟨_, rfl, l2, _, 0, .ref b2, rfl, rfl, .of el20, rfl, _, rfl, b2, du, xs2, foldD qs ds, rfl, eb20, hx20, ⟨dx, .of cdu, hdx⟩, true, rfl, iteF ?_⟩
      refine ⟨_, rfl, f, _, rfl, .inl (.of hf20), _, _, rfl, rfl, _, rfl, iteD (fun _ => ?_) (fun _ => ?_)⟩
      · exact q _
      -- again
      have eD10 := e810 _ _ eD8
      obtain ⟨H0, hH0⟩ : ∃ H0 : Hp, H0 = fun z => if z = d then none else H10 z := ⟨_, rfl⟩
      have hF0 : Fr d H10 H0 := fun z o hz h => by
        rw [hH0]
        show (if z = d then none else H10 z) = some o
        rw [if_neg hz]
        exact h
      have h00 : ∀ z o, H0 z = some o → z ≠ d ∧ H10 z = some o := fun z o h => by
        rw [hH0] at h
        replace h : (if z = d then none else H10 z) = some o := h
        by_cases e : z = d
        · rw [if_pos e] at h
          cases h
        · rw [if_neg e] at h
          exact ⟨e, h⟩
      have hnone : ∀ z, H10 z = none → H0 z = none := fun z h => by
        rw [hH0]
        show (if z = d then none else H10 z) = none
        by_cases e : z = d
        · rw [if_pos e]
        · rw [if_neg e]
          exact h
      have eE0 : Ex H0 H20 := fun z o h => by
        obtain ⟨h1, h2⟩ := h00 z o h
        exact e1320 _ _ (fr _ _ h1 (e11 _ _ h2))
      have hdt10 : ∀ zs, H10 d ≠ some (.tup zs) := fun zs z => by rw [eD10] at z; cases z
      have nl0 : ∀ {z : Addr} {zs : List V}, H10 z = some (.lst zs) → H0 z = some (.lst zs) := fun h => hF0 _ _ (fun z => by rw [z, eD10] at h; cases h) h
      have cf0 := nl0 cf1
      have ct0 := nl0 (e810 _ _ ct8)
      have hq0' := hq10.fr hF0 hdt10
      have e1619 := e17.tr e1719
      refine ⟨_, rfl, _, rfl, _, rfl, _, rfl, f1, l1, l2, du, b2, A2, ts, ws1, xs2, as2, dx, gs2, qs, ds, H0, rfl, eE0, cf0, hq0', hT, nl0 (e10 _ _ el1), (hds1.ex e10).fr hF0 eD10, by omega, fun g hg => hnone g (ng g hg), hnone b2 nb, gnd, hbg, hAg, ?_, hbA, ?_, el20, eb20, eA20, ha20, cdu, hdx, fun H' eH => ?_⟩
      · intro z
        obtain ⟨ys, y⟩ := (ha16.ex e1619).mem z
        rw [hdu] at y
        cases y
      · intro z
        have y := e1619 _ _ eb16
        rw [← z, hdu] at y
        cases y
      refine ⟨true, rfl, ?_⟩
      rw [if_pos rfl]
      refine ⟨_, rfl, _, rfl, _, _, till_dp (K := K) ⟨ts, .of (eH _ _ cf0), hq0'.ex eH⟩, till_dp (K := K) ⟨ts, .of (eH _ _ ct0), hq0'.ex eH⟩, shq, shq, ?_⟩
      rw [eqv_of_shaped shq]
      exact q _
theorem law_start {K : PySem.W.Frag} {H : Hp} {a : Addr} {ns : List Int} (hl : ns.length ≤ 63) (hO : Only H) (hS : SqL K H a (ns.map V.int)) : spLaw K [.ref a] H (fun v _ => v = .bl true) fun _ _ _ => False :=
  ⟨a, ns, rfl, hS, hl, fun _ => rfl⟩
end

theorem tx_mk {K : PySem.W.Frag} {h : Heap} {mg : Str → Option Value} (X : K.In h) (G : h.Ns mainGlobals mg) {c_TillError : Addr} {c_NoTill : Addr} {c_NoKind : Addr} {c_Twice : Addr} {c_NoCount : Addr} {c_NoSum : Addr} {c_TooLittle : Addr} {c_NoChange : Addr} {c_TooFew : Addr} {c_StillHeld : Addr} {c_NoDeed : Addr} {a_check_value : Addr} {od_0 an_0 : Option Addr} {sl_0 : Array (Option Value)} {oc_0 kV_0 dc_0 pm_0 cd_0 ct_0 : Value} {a_check_count : Addr} {od_1 an_1 : Option Addr} {sl_1 : Array (Option Value)} {oc_1 kV_1 dc_1 pm_1 cd_1 ct_1 : Value} {a_count_of : Addr} {od_2 an_2 : Option Addr} {sl_2 : Array (Option Value)} {oc_2 kV_2 dc_2 pm_2 cd_2 ct_2 : Value} {a_check_sum : Addr} {od_3 an_3 : Option Addr} {sl_3 : Array (Option Value)} {oc_3 kV_3 dc_3 pm_3 cd_3 ct_3 : Value} {a_table : Addr} {od_4 an_4 : Option Addr} {sl_4 : Array (Option Value)} {oc_4 kV_4 dc_4 pm_4 cd_4 ct_4 : Value} {a_fewest : Addr} {od_5 an_5 : Option Addr} {sl_5 : Array (Option Value)} {oc_5 kV_5 dc_5 pm_5 cd_5 ct_5 : Value} {a_with_kind : Addr} {od_6 an_6 : Option Addr} {sl_6 : Array (Option Value)} {oc_6 kV_6 dc_6 pm_6 cd_6 ct_6 : Value} {a__bundles : Addr} {od_7 an_7 : Option Addr} {sl_7 : Array (Option Value)} {oc_7 kV_7 dc_7 pm_7 cd_7 ct_7 : Value} {a__with_bundle : Addr} {od_8 an_8 : Option Addr} {sl_8 : Array (Option Value)} {oc_8 kV_8 dc_8 pm_8 cd_8 ct_8 : Value} {a__most_given : Addr} {od_9 an_9 : Option Addr} {sl_9 : Array (Option Value)} {oc_9 kV_9 dc_9 pm_9 cd_9 ct_9 : Value} {a_paid : Addr} {od_10 an_10 : Option Addr} {sl_10 : Array (Option Value)} {oc_10 kV_10 dc_10 pm_10 cd_10 ct_10 : Value} {a_brought : Addr} {od_11 an_11 : Option Addr} {sl_11 : Array (Option Value)} {oc_11 kV_11 dc_11 pm_11 cd_11 ct_11 : Value} {a_fetched : Addr} {od_12 an_12 : Option Addr} {sl_12 : Array (Option Value)} {oc_12 kV_12 dc_12 pm_12 cd_12 ct_12 : Value} {a_kind_in : Addr} {od_13 an_13 : Option Addr} {sl_13 : Array (Option Value)} {oc_13 kV_13 dc_13 pm_13 cd_13 ct_13 : Value} {a_kind_out : Addr} {od_14 an_14 : Option Addr} {sl_14 : Array (Option Value)} {oc_14 kV_14 dc_14 pm_14 cd_14 ct_14 : Value} {a__with_count : Addr} {od_15 an_15 : Option Addr} {sl_15 : Array (Option Value)} {oc_15 kV_15 dc_15 pm_15 cd_15 ct_15 : Value} {a_day : Addr} {od_16 an_16 : Option Addr} {sl_16 : Array (Option Value)} {oc_16 kV_16 dc_16 pm_16 cd_16 ct_16 : Value} {a__answered : Addr} {od_17 an_17 : Option Addr} {sl_17 : Array (Option Value)} {oc_17 kV_17 dc_17 pm_17 cd_17 ct_17 : Value} {a__done : Addr} {od_18 an_18 : Option Addr} {sl_18 : Array (Option Value)} {oc_18 kV_18 dc_18 pm_18 cd_18 ct_18 : Value} {a__law_cell_at : Addr} {od_19 an_19 : Option Addr} {sl_19 : Array (Option Value)} {oc_19 kV_19 dc_19 pm_19 cd_19 ct_19 : Value} {a__law_whole : Addr} {od_20 an_20 : Option Addr} {sl_20 : Array (Option Value)} {oc_20 kV_20 dc_20 pm_20 cd_20 ct_20 : Value} {a__law_mixed : Addr} {od_21 an_21 : Option Addr} {sl_21 : Array (Option Value)} {oc_21 kV_21 dc_21 pm_21 cd_21 ct_21 : Value} {a__law_value : Addr} {od_22 an_22 : Option Addr} {sl_22 : Array (Option Value)} {oc_22 kV_22 dc_22 pm_22 cd_22 ct_22 : Value} {a__law_count : Addr} {od_23 an_23 : Option Addr} {sl_23 : Array (Option Value)} {oc_23 kV_23 dc_23 pm_23 cd_23 ct_23 : Value} {a__law_pairs : Addr} {od_24 an_24 : Option Addr} {sl_24 : Array (Option Value)} {oc_24 kV_24 dc_24 pm_24 cd_24 ct_24 : Value} {a__law_alike : Addr} {od_25 an_25 : Option Addr} {sl_25 : Array (Option Value)} {oc_25 kV_25 dc_25 pm_25 cd_25 ct_25 : Value} {a__law_least : Addr} {od_26 an_26 : Option Addr} {sl_26 : Array (Option Value)} {oc_26 kV_26 dc_26 pm_26 cd_26 ct_26 : Value} {a__law_row : Addr} {od_27 an_27 : Option Addr} {sl_27 : Array (Option Value)} {oc_27 kV_27 dc_27 pm_27 cd_27 ct_27 : Value} {a__law_walked : Addr} {od_28 an_28 : Option Addr} {sl_28 : Array (Option Value)} {oc_28 kV_28 dc_28 pm_28 cd_28 ct_28 : Value} {a__law_change : Addr} {od_29 an_29 : Option Addr} {sl_29 : Array (Option Value)} {oc_29 kV_29 dc_29 pm_29 cd_29 ct_29 : Value} {a__law_known : Addr} {od_30 an_30 : Option Addr} {sl_30 : Array (Option Value)} {oc_30 kV_30 dc_30 pm_30 cd_30 ct_30 : Value} {a__law_deed : Addr} {od_31 an_31 : Option Addr} {sl_31 : Array (Option Value)} {oc_31 kV_31 dc_31 pm_31 cd_31 ct_31 : Value} {a__law_moved : Addr} {od_32 an_32 : Option Addr} {sl_32 : Array (Option Value)} {oc_32 kV_32 dc_32 pm_32 cd_32 ct_32 : Value} {a__law_kind : Addr} {od_33 an_33 : Option Addr} {sl_33 : Array (Option Value)} {oc_33 kV_33 dc_33 pm_33 cd_33 ct_33 : Value} {a__law_unpaid : Addr} {od_34 an_34 : Option Addr} {sl_34 : Array (Option Value)} {oc_34 kV_34 dc_34 pm_34 cd_34 ct_34 : Value} {a__law_exact : Addr} {od_35 an_35 : Option Addr} {sl_35 : Array (Option Value)} {oc_35 kV_35 dc_35 pm_35 cd_35 ct_35 : Value} {a__law_paid : Addr} {od_36 an_36 : Option Addr} {sl_36 : Array (Option Value)} {oc_36 kV_36 dc_36 pm_36 cd_36 ct_36 : Value} {a__law_right : Addr} {od_37 an_37 : Option Addr} {sl_37 : Array (Option Value)} {oc_37 kV_37 dc_37 pm_37 cd_37 ct_37 : Value} {a__law_copies : Addr} {od_38 an_38 : Option Addr} {sl_38 : Array (Option Value)} {oc_38 kV_38 dc_38 pm_38 cd_38 ct_38 : Value} {a__law_again : Addr} {od_39 an_39 : Option Addr} {sl_39 : Array (Option Value)} {oc_39 kV_39 dc_39 pm_39 cd_39 ct_39 : Value} {a_law : Addr} {od_40 an_40 : Option Addr} {sl_40 : Array (Option Value)} {oc_40 kV_40 dc_40 pm_40 cd_40 ct_40 : Value} {tk_MOST_KINDS : Tok} {tk_MOST_VALUE : Tok} {tk_MOST_COUNT : Tok} {tk_MOST_SUM : Tok} {tk_MOST_PAID : Tok}
    (g_TillError : PySem.W.nsIn K mainGlobals "TillError" = some (some (.ref c_TillError)))
    (x_TillError : PySem.W.excIn K c_TillError [.type "ValueError", .type "Exception", .type "BaseException", .type "object"] "ValueError.__new__" = true)
    (k_TillError : PySem.W.keepIn K (.ref c_TillError) = true)
    (b_TillError : PySem.W.subIn K (.ref c_TillError) (.type "BaseException") = some true)
    (t_TillError : PySem.W.typeIn K (.ref c_TillError) = some (.type "type"))
    (i_TillError : PySem.W.isClsIn K c_TillError = true)
    (g_NoTill : PySem.W.nsIn K mainGlobals "NoTill" = some (some (.ref c_NoTill)))
    (x_NoTill : PySem.W.excIn K c_NoTill [.type "ValueError", .type "Exception", .type "BaseException", .type "object"] "ValueError.__new__" = true)
    (k_NoTill : PySem.W.keepIn K (.ref c_NoTill) = true)
    (b_NoTill : PySem.W.subIn K (.ref c_NoTill) (.type "BaseException") = some true)
    (t_NoTill : PySem.W.typeIn K (.ref c_NoTill) = some (.type "type"))
    (i_NoTill : PySem.W.isClsIn K c_NoTill = true)
    (g_NoKind : PySem.W.nsIn K mainGlobals "NoKind" = some (some (.ref c_NoKind)))
    (x_NoKind : PySem.W.excIn K c_NoKind [.type "ValueError", .type "Exception", .type "BaseException", .type "object"] "ValueError.__new__" = true)
    (k_NoKind : PySem.W.keepIn K (.ref c_NoKind) = true)
    (b_NoKind : PySem.W.subIn K (.ref c_NoKind) (.type "BaseException") = some true)
    (t_NoKind : PySem.W.typeIn K (.ref c_NoKind) = some (.type "type"))
    (i_NoKind : PySem.W.isClsIn K c_NoKind = true)
    (g_Twice : PySem.W.nsIn K mainGlobals "Twice" = some (some (.ref c_Twice)))
    (x_Twice : PySem.W.excIn K c_Twice [.type "ValueError", .type "Exception", .type "BaseException", .type "object"] "ValueError.__new__" = true)
    (k_Twice : PySem.W.keepIn K (.ref c_Twice) = true)
    (b_Twice : PySem.W.subIn K (.ref c_Twice) (.type "BaseException") = some true)
    (t_Twice : PySem.W.typeIn K (.ref c_Twice) = some (.type "type"))
    (i_Twice : PySem.W.isClsIn K c_Twice = true)
    (g_NoCount : PySem.W.nsIn K mainGlobals "NoCount" = some (some (.ref c_NoCount)))
    (x_NoCount : PySem.W.excIn K c_NoCount [.type "ValueError", .type "Exception", .type "BaseException", .type "object"] "ValueError.__new__" = true)
    (k_NoCount : PySem.W.keepIn K (.ref c_NoCount) = true)
    (b_NoCount : PySem.W.subIn K (.ref c_NoCount) (.type "BaseException") = some true)
    (t_NoCount : PySem.W.typeIn K (.ref c_NoCount) = some (.type "type"))
    (i_NoCount : PySem.W.isClsIn K c_NoCount = true)
    (g_NoSum : PySem.W.nsIn K mainGlobals "NoSum" = some (some (.ref c_NoSum)))
    (x_NoSum : PySem.W.excIn K c_NoSum [.type "ValueError", .type "Exception", .type "BaseException", .type "object"] "ValueError.__new__" = true)
    (k_NoSum : PySem.W.keepIn K (.ref c_NoSum) = true)
    (b_NoSum : PySem.W.subIn K (.ref c_NoSum) (.type "BaseException") = some true)
    (t_NoSum : PySem.W.typeIn K (.ref c_NoSum) = some (.type "type"))
    (i_NoSum : PySem.W.isClsIn K c_NoSum = true)
    (g_TooLittle : PySem.W.nsIn K mainGlobals "TooLittle" = some (some (.ref c_TooLittle)))
    (x_TooLittle : PySem.W.excIn K c_TooLittle [.type "ValueError", .type "Exception", .type "BaseException", .type "object"] "ValueError.__new__" = true)
    (k_TooLittle : PySem.W.keepIn K (.ref c_TooLittle) = true)
    (b_TooLittle : PySem.W.subIn K (.ref c_TooLittle) (.type "BaseException") = some true)
    (t_TooLittle : PySem.W.typeIn K (.ref c_TooLittle) = some (.type "type"))
    (i_TooLittle : PySem.W.isClsIn K c_TooLittle = true)
    (g_NoChange : PySem.W.nsIn K mainGlobals "NoChange" = some (some (.ref c_NoChange)))
    (x_NoChange : PySem.W.excIn K c_NoChange [.type "ValueError", .type "Exception", .type "BaseException", .type "object"] "ValueError.__new__" = true)
    (k_NoChange : PySem.W.keepIn K (.ref c_NoChange) = true)
    (b_NoChange : PySem.W.subIn K (.ref c_NoChange) (.type "BaseException") = some true)
    (t_NoChange : PySem.W.typeIn K (.ref c_NoChange) = some (.type "type"))
    (i_NoChange : PySem.W.isClsIn K c_NoChange = true)
    (g_TooFew : PySem.W.nsIn K mainGlobals "TooFew" = some (some (.ref c_TooFew)))
    (x_TooFew : PySem.W.excIn K c_TooFew [.type "ValueError", .type "Exception", .type "BaseException", .type "object"] "ValueError.__new__" = true)
    (k_TooFew : PySem.W.keepIn K (.ref c_TooFew) = true)
    (b_TooFew : PySem.W.subIn K (.ref c_TooFew) (.type "BaseException") = some true)
    (t_TooFew : PySem.W.typeIn K (.ref c_TooFew) = some (.type "type"))
    (i_TooFew : PySem.W.isClsIn K c_TooFew = true)
    (g_StillHeld : PySem.W.nsIn K mainGlobals "StillHeld" = some (some (.ref c_StillHeld)))
    (x_StillHeld : PySem.W.excIn K c_StillHeld [.type "ValueError", .type "Exception", .type "BaseException", .type "object"] "ValueError.__new__" = true)
    (k_StillHeld : PySem.W.keepIn K (.ref c_StillHeld) = true)
    (b_StillHeld : PySem.W.subIn K (.ref c_StillHeld) (.type "BaseException") = some true)
    (t_StillHeld : PySem.W.typeIn K (.ref c_StillHeld) = some (.type "type"))
    (i_StillHeld : PySem.W.isClsIn K c_StillHeld = true)
    (g_NoDeed : PySem.W.nsIn K mainGlobals "NoDeed" = some (some (.ref c_NoDeed)))
    (x_NoDeed : PySem.W.excIn K c_NoDeed [.type "ValueError", .type "Exception", .type "BaseException", .type "object"] "ValueError.__new__" = true)
    (k_NoDeed : PySem.W.keepIn K (.ref c_NoDeed) = true)
    (b_NoDeed : PySem.W.subIn K (.ref c_NoDeed) (.type "BaseException") = some true)
    (t_NoDeed : PySem.W.typeIn K (.ref c_NoDeed) = some (.type "type"))
    (i_NoDeed : PySem.W.isClsIn K c_NoDeed = true)
    (u_NoKind_NoKind : PySem.W.subIn K (.ref c_NoKind) (.ref c_NoKind) = some true)
    (u_NoKind_Twice : PySem.W.subIn K (.ref c_NoKind) (.ref c_Twice) = some false)
    (u_NoKind_NoCount : PySem.W.subIn K (.ref c_NoKind) (.ref c_NoCount) = some false)
    (u_NoKind_NoTill : PySem.W.subIn K (.ref c_NoKind) (.ref c_NoTill) = some false)
    (u_NoKind_NoSum : PySem.W.subIn K (.ref c_NoKind) (.ref c_NoSum) = some false)
    (u_NoKind_TooLittle : PySem.W.subIn K (.ref c_NoKind) (.ref c_TooLittle) = some false)
    (u_NoKind_NoChange : PySem.W.subIn K (.ref c_NoKind) (.ref c_NoChange) = some false)
    (u_NoKind_TooFew : PySem.W.subIn K (.ref c_NoKind) (.ref c_TooFew) = some false)
    (u_NoKind_StillHeld : PySem.W.subIn K (.ref c_NoKind) (.ref c_StillHeld) = some false)
    (u_NoKind_NoDeed : PySem.W.subIn K (.ref c_NoKind) (.ref c_NoDeed) = some false)
    (u_NoCount_NoKind : PySem.W.subIn K (.ref c_NoCount) (.ref c_NoKind) = some false)
    (u_NoCount_Twice : PySem.W.subIn K (.ref c_NoCount) (.ref c_Twice) = some false)
    (u_NoCount_NoCount : PySem.W.subIn K (.ref c_NoCount) (.ref c_NoCount) = some true)
    (u_NoCount_NoTill : PySem.W.subIn K (.ref c_NoCount) (.ref c_NoTill) = some false)
    (u_NoCount_NoSum : PySem.W.subIn K (.ref c_NoCount) (.ref c_NoSum) = some false)
    (u_NoCount_TooLittle : PySem.W.subIn K (.ref c_NoCount) (.ref c_TooLittle) = some false)
    (u_NoCount_NoChange : PySem.W.subIn K (.ref c_NoCount) (.ref c_NoChange) = some false)
    (u_NoCount_TooFew : PySem.W.subIn K (.ref c_NoCount) (.ref c_TooFew) = some false)
    (u_NoCount_StillHeld : PySem.W.subIn K (.ref c_NoCount) (.ref c_StillHeld) = some false)
    (u_NoCount_NoDeed : PySem.W.subIn K (.ref c_NoCount) (.ref c_NoDeed) = some false)
    (u_NoSum_NoKind : PySem.W.subIn K (.ref c_NoSum) (.ref c_NoKind) = some false)
    (u_NoSum_Twice : PySem.W.subIn K (.ref c_NoSum) (.ref c_Twice) = some false)
    (u_NoSum_NoCount : PySem.W.subIn K (.ref c_NoSum) (.ref c_NoCount) = some false)
    (u_NoSum_NoTill : PySem.W.subIn K (.ref c_NoSum) (.ref c_NoTill) = some false)
    (u_NoSum_NoSum : PySem.W.subIn K (.ref c_NoSum) (.ref c_NoSum) = some true)
    (u_NoSum_TooLittle : PySem.W.subIn K (.ref c_NoSum) (.ref c_TooLittle) = some false)
    (u_NoSum_NoChange : PySem.W.subIn K (.ref c_NoSum) (.ref c_NoChange) = some false)
    (u_NoSum_TooFew : PySem.W.subIn K (.ref c_NoSum) (.ref c_TooFew) = some false)
    (u_NoSum_StillHeld : PySem.W.subIn K (.ref c_NoSum) (.ref c_StillHeld) = some false)
    (u_NoSum_NoDeed : PySem.W.subIn K (.ref c_NoSum) (.ref c_NoDeed) = some false)
    (u_NoChange_NoKind : PySem.W.subIn K (.ref c_NoChange) (.ref c_NoKind) = some false)
    (u_NoChange_Twice : PySem.W.subIn K (.ref c_NoChange) (.ref c_Twice) = some false)
    (u_NoChange_NoCount : PySem.W.subIn K (.ref c_NoChange) (.ref c_NoCount) = some false)
    (u_NoChange_NoTill : PySem.W.subIn K (.ref c_NoChange) (.ref c_NoTill) = some false)
    (u_NoChange_NoSum : PySem.W.subIn K (.ref c_NoChange) (.ref c_NoSum) = some false)
    (u_NoChange_TooLittle : PySem.W.subIn K (.ref c_NoChange) (.ref c_TooLittle) = some false)
    (u_NoChange_NoChange : PySem.W.subIn K (.ref c_NoChange) (.ref c_NoChange) = some true)
    (u_NoChange_TooFew : PySem.W.subIn K (.ref c_NoChange) (.ref c_TooFew) = some false)
    (u_NoChange_StillHeld : PySem.W.subIn K (.ref c_NoChange) (.ref c_StillHeld) = some false)
    (u_NoChange_NoDeed : PySem.W.subIn K (.ref c_NoChange) (.ref c_NoDeed) = some false)
    (u_TooLittle_NoKind : PySem.W.subIn K (.ref c_TooLittle) (.ref c_NoKind) = some false)
    (u_TooLittle_Twice : PySem.W.subIn K (.ref c_TooLittle) (.ref c_Twice) = some false)
    (u_TooLittle_NoCount : PySem.W.subIn K (.ref c_TooLittle) (.ref c_NoCount) = some false)
    (u_TooLittle_NoTill : PySem.W.subIn K (.ref c_TooLittle) (.ref c_NoTill) = some false)
    (u_TooLittle_NoSum : PySem.W.subIn K (.ref c_TooLittle) (.ref c_NoSum) = some false)
    (u_TooLittle_TooLittle : PySem.W.subIn K (.ref c_TooLittle) (.ref c_TooLittle) = some true)
    (u_TooLittle_NoChange : PySem.W.subIn K (.ref c_TooLittle) (.ref c_NoChange) = some false)
    (u_TooLittle_TooFew : PySem.W.subIn K (.ref c_TooLittle) (.ref c_TooFew) = some false)
    (u_TooLittle_StillHeld : PySem.W.subIn K (.ref c_TooLittle) (.ref c_StillHeld) = some false)
    (u_TooLittle_NoDeed : PySem.W.subIn K (.ref c_TooLittle) (.ref c_NoDeed) = some false)
    (u_TooFew_NoKind : PySem.W.subIn K (.ref c_TooFew) (.ref c_NoKind) = some false)
    (u_TooFew_Twice : PySem.W.subIn K (.ref c_TooFew) (.ref c_Twice) = some false)
    (u_TooFew_NoCount : PySem.W.subIn K (.ref c_TooFew) (.ref c_NoCount) = some false)
    (u_TooFew_NoTill : PySem.W.subIn K (.ref c_TooFew) (.ref c_NoTill) = some false)
    (u_TooFew_NoSum : PySem.W.subIn K (.ref c_TooFew) (.ref c_NoSum) = some false)
    (u_TooFew_TooLittle : PySem.W.subIn K (.ref c_TooFew) (.ref c_TooLittle) = some false)
    (u_TooFew_NoChange : PySem.W.subIn K (.ref c_TooFew) (.ref c_NoChange) = some false)
    (u_TooFew_TooFew : PySem.W.subIn K (.ref c_TooFew) (.ref c_TooFew) = some true)
    (u_TooFew_StillHeld : PySem.W.subIn K (.ref c_TooFew) (.ref c_StillHeld) = some false)
    (u_TooFew_NoDeed : PySem.W.subIn K (.ref c_TooFew) (.ref c_NoDeed) = some false)
    (u_Twice_NoKind : PySem.W.subIn K (.ref c_Twice) (.ref c_NoKind) = some false)
    (u_Twice_Twice : PySem.W.subIn K (.ref c_Twice) (.ref c_Twice) = some true)
    (u_Twice_NoCount : PySem.W.subIn K (.ref c_Twice) (.ref c_NoCount) = some false)
    (u_Twice_NoTill : PySem.W.subIn K (.ref c_Twice) (.ref c_NoTill) = some false)
    (u_Twice_NoSum : PySem.W.subIn K (.ref c_Twice) (.ref c_NoSum) = some false)
    (u_Twice_TooLittle : PySem.W.subIn K (.ref c_Twice) (.ref c_TooLittle) = some false)
    (u_Twice_NoChange : PySem.W.subIn K (.ref c_Twice) (.ref c_NoChange) = some false)
    (u_Twice_TooFew : PySem.W.subIn K (.ref c_Twice) (.ref c_TooFew) = some false)
    (u_Twice_StillHeld : PySem.W.subIn K (.ref c_Twice) (.ref c_StillHeld) = some false)
    (u_Twice_NoDeed : PySem.W.subIn K (.ref c_Twice) (.ref c_NoDeed) = some false)
    (u_NoTill_NoKind : PySem.W.subIn K (.ref c_NoTill) (.ref c_NoKind) = some false)
    (u_NoTill_Twice : PySem.W.subIn K (.ref c_NoTill) (.ref c_Twice) = some false)
    (u_NoTill_NoCount : PySem.W.subIn K (.ref c_NoTill) (.ref c_NoCount) = some false)
    (u_NoTill_NoTill : PySem.W.subIn K (.ref c_NoTill) (.ref c_NoTill) = some true)
    (u_NoTill_NoSum : PySem.W.subIn K (.ref c_NoTill) (.ref c_NoSum) = some false)
    (u_NoTill_TooLittle : PySem.W.subIn K (.ref c_NoTill) (.ref c_TooLittle) = some false)
    (u_NoTill_NoChange : PySem.W.subIn K (.ref c_NoTill) (.ref c_NoChange) = some false)
    (u_NoTill_TooFew : PySem.W.subIn K (.ref c_NoTill) (.ref c_TooFew) = some false)
    (u_NoTill_StillHeld : PySem.W.subIn K (.ref c_NoTill) (.ref c_StillHeld) = some false)
    (u_NoTill_NoDeed : PySem.W.subIn K (.ref c_NoTill) (.ref c_NoDeed) = some false)
    (u_StillHeld_NoKind : PySem.W.subIn K (.ref c_StillHeld) (.ref c_NoKind) = some false)
    (u_StillHeld_Twice : PySem.W.subIn K (.ref c_StillHeld) (.ref c_Twice) = some false)
    (u_StillHeld_NoCount : PySem.W.subIn K (.ref c_StillHeld) (.ref c_NoCount) = some false)
    (u_StillHeld_NoTill : PySem.W.subIn K (.ref c_StillHeld) (.ref c_NoTill) = some false)
    (u_StillHeld_NoSum : PySem.W.subIn K (.ref c_StillHeld) (.ref c_NoSum) = some false)
    (u_StillHeld_TooLittle : PySem.W.subIn K (.ref c_StillHeld) (.ref c_TooLittle) = some false)
    (u_StillHeld_NoChange : PySem.W.subIn K (.ref c_StillHeld) (.ref c_NoChange) = some false)
    (u_StillHeld_TooFew : PySem.W.subIn K (.ref c_StillHeld) (.ref c_TooFew) = some false)
    (u_StillHeld_StillHeld : PySem.W.subIn K (.ref c_StillHeld) (.ref c_StillHeld) = some true)
    (u_StillHeld_NoDeed : PySem.W.subIn K (.ref c_StillHeld) (.ref c_NoDeed) = some false)
    (u_NoDeed_NoKind : PySem.W.subIn K (.ref c_NoDeed) (.ref c_NoKind) = some false)
    (u_NoDeed_Twice : PySem.W.subIn K (.ref c_NoDeed) (.ref c_Twice) = some false)
    (u_NoDeed_NoCount : PySem.W.subIn K (.ref c_NoDeed) (.ref c_NoCount) = some false)
    (u_NoDeed_NoTill : PySem.W.subIn K (.ref c_NoDeed) (.ref c_NoTill) = some false)
    (u_NoDeed_NoSum : PySem.W.subIn K (.ref c_NoDeed) (.ref c_NoSum) = some false)
    (u_NoDeed_TooLittle : PySem.W.subIn K (.ref c_NoDeed) (.ref c_TooLittle) = some false)
    (u_NoDeed_NoChange : PySem.W.subIn K (.ref c_NoDeed) (.ref c_NoChange) = some false)
    (u_NoDeed_TooFew : PySem.W.subIn K (.ref c_NoDeed) (.ref c_TooFew) = some false)
    (u_NoDeed_StillHeld : PySem.W.subIn K (.ref c_NoDeed) (.ref c_StillHeld) = some false)
    (u_NoDeed_NoDeed : PySem.W.subIn K (.ref c_NoDeed) (.ref c_NoDeed) = some true)
    (g_check_value : PySem.W.nsIn K mainGlobals "check_value" = some (some (.ref a_check_value)))
    (l_check_value : K.lookup a_check_value = some ⟨oc_0, od_0, .func (PySem.W.fnOf "check_value" "check_value" (defArgs s_check_value) (defBody s_check_value) (defScope s_check_value) .none kV_0 dc_0 pm_0 an_0 cd_0 ct_0), sl_0⟩)
    (o_check_value : PySem.W.codeIn K cd_0 "check_value" = true)
    (k_check_value : PySem.W.keepIn K (.ref a_check_value) = true)
    (g_check_count : PySem.W.nsIn K mainGlobals "check_count" = some (some (.ref a_check_count)))
    (l_check_count : K.lookup a_check_count = some ⟨oc_1, od_1, .func (PySem.W.fnOf "check_count" "check_count" (defArgs s_check_count) (defBody s_check_count) (defScope s_check_count) .none kV_1 dc_1 pm_1 an_1 cd_1 ct_1), sl_1⟩)
    (o_check_count : PySem.W.codeIn K cd_1 "check_count" = true)
    (k_check_count : PySem.W.keepIn K (.ref a_check_count) = true)
    (g_count_of : PySem.W.nsIn K mainGlobals "count_of" = some (some (.ref a_count_of)))
    (l_count_of : K.lookup a_count_of = some ⟨oc_2, od_2, .func (PySem.W.fnOf "count_of" "count_of" (defArgs s_count_of) (defBody s_count_of) (defScope s_count_of) .none kV_2 dc_2 pm_2 an_2 cd_2 ct_2), sl_2⟩)
    (o_count_of : PySem.W.codeIn K cd_2 "count_of" = true)
    (k_count_of : PySem.W.keepIn K (.ref a_count_of) = true)
    (g_check_sum : PySem.W.nsIn K mainGlobals "check_sum" = some (some (.ref a_check_sum)))
    (l_check_sum : K.lookup a_check_sum = some ⟨oc_3, od_3, .func (PySem.W.fnOf "check_sum" "check_sum" (defArgs s_check_sum) (defBody s_check_sum) (defScope s_check_sum) .none kV_3 dc_3 pm_3 an_3 cd_3 ct_3), sl_3⟩)
    (o_check_sum : PySem.W.codeIn K cd_3 "check_sum" = true)
    (k_check_sum : PySem.W.keepIn K (.ref a_check_sum) = true)
    (g_table : PySem.W.nsIn K mainGlobals "table" = some (some (.ref a_table)))
    (l_table : K.lookup a_table = some ⟨oc_4, od_4, .func (PySem.W.fnOf "table" "table" (defArgs s_table) (defBody s_table) (defScope s_table) .none kV_4 dc_4 pm_4 an_4 cd_4 ct_4), sl_4⟩)
    (o_table : PySem.W.codeIn K cd_4 "table" = true)
    (k_table : PySem.W.keepIn K (.ref a_table) = true)
    (g_fewest : PySem.W.nsIn K mainGlobals "fewest" = some (some (.ref a_fewest)))
    (l_fewest : K.lookup a_fewest = some ⟨oc_5, od_5, .func (PySem.W.fnOf "fewest" "fewest" (defArgs s_fewest) (defBody s_fewest) (defScope s_fewest) .none kV_5 dc_5 pm_5 an_5 cd_5 ct_5), sl_5⟩)
    (o_fewest : PySem.W.codeIn K cd_5 "fewest" = true)
    (k_fewest : PySem.W.keepIn K (.ref a_fewest) = true)
    (g_with_kind : PySem.W.nsIn K mainGlobals "with_kind" = some (some (.ref a_with_kind)))
    (l_with_kind : K.lookup a_with_kind = some ⟨oc_6, od_6, .func (PySem.W.fnOf "with_kind" "with_kind" (defArgs s_with_kind) (defBody s_with_kind) (defScope s_with_kind) .none kV_6 dc_6 pm_6 an_6 cd_6 ct_6), sl_6⟩)
    (o_with_kind : PySem.W.codeIn K cd_6 "with_kind" = true)
    (k_with_kind : PySem.W.keepIn K (.ref a_with_kind) = true)
    (g__bundles : PySem.W.nsIn K mainGlobals "_bundles" = some (some (.ref a__bundles)))
    (l__bundles : K.lookup a__bundles = some ⟨oc_7, od_7, .func (PySem.W.fnOf "_bundles" "_bundles" (defArgs s__bundles) (defBody s__bundles) (defScope s__bundles) .none kV_7 dc_7 pm_7 an_7 cd_7 ct_7), sl_7⟩)
    (o__bundles : PySem.W.codeIn K cd_7 "_bundles" = true)
    (k__bundles : PySem.W.keepIn K (.ref a__bundles) = true)
    (g__with_bundle : PySem.W.nsIn K mainGlobals "_with_bundle" = some (some (.ref a__with_bundle)))
    (l__with_bundle : K.lookup a__with_bundle = some ⟨oc_8, od_8, .func (PySem.W.fnOf "_with_bundle" "_with_bundle" (defArgs s__with_bundle) (defBody s__with_bundle) (defScope s__with_bundle) .none kV_8 dc_8 pm_8 an_8 cd_8 ct_8), sl_8⟩)
    (o__with_bundle : PySem.W.codeIn K cd_8 "_with_bundle" = true)
    (k__with_bundle : PySem.W.keepIn K (.ref a__with_bundle) = true)
    (g__most_given : PySem.W.nsIn K mainGlobals "_most_given" = some (some (.ref a__most_given)))
    (l__most_given : K.lookup a__most_given = some ⟨oc_9, od_9, .func (PySem.W.fnOf "_most_given" "_most_given" (defArgs s__most_given) (defBody s__most_given) (defScope s__most_given) .none kV_9 dc_9 pm_9 an_9 cd_9 ct_9), sl_9⟩)
    (o__most_given : PySem.W.codeIn K cd_9 "_most_given" = true)
    (k__most_given : PySem.W.keepIn K (.ref a__most_given) = true)
    (g_paid : PySem.W.nsIn K mainGlobals "paid" = some (some (.ref a_paid)))
    (l_paid : K.lookup a_paid = some ⟨oc_10, od_10, .func (PySem.W.fnOf "paid" "paid" (defArgs s_paid) (defBody s_paid) (defScope s_paid) .none kV_10 dc_10 pm_10 an_10 cd_10 ct_10), sl_10⟩)
    (o_paid : PySem.W.codeIn K cd_10 "paid" = true)
    (k_paid : PySem.W.keepIn K (.ref a_paid) = true)
    (g_brought : PySem.W.nsIn K mainGlobals "brought" = some (some (.ref a_brought)))
    (l_brought : K.lookup a_brought = some ⟨oc_11, od_11, .func (PySem.W.fnOf "brought" "brought" (defArgs s_brought) (defBody s_brought) (defScope s_brought) .none kV_11 dc_11 pm_11 an_11 cd_11 ct_11), sl_11⟩)
    (o_brought : PySem.W.codeIn K cd_11 "brought" = true)
    (k_brought : PySem.W.keepIn K (.ref a_brought) = true)
    (g_fetched : PySem.W.nsIn K mainGlobals "fetched" = some (some (.ref a_fetched)))
    (l_fetched : K.lookup a_fetched = some ⟨oc_12, od_12, .func (PySem.W.fnOf "fetched" "fetched" (defArgs s_fetched) (defBody s_fetched) (defScope s_fetched) .none kV_12 dc_12 pm_12 an_12 cd_12 ct_12), sl_12⟩)
    (o_fetched : PySem.W.codeIn K cd_12 "fetched" = true)
    (k_fetched : PySem.W.keepIn K (.ref a_fetched) = true)
    (g_kind_in : PySem.W.nsIn K mainGlobals "kind_in" = some (some (.ref a_kind_in)))
    (l_kind_in : K.lookup a_kind_in = some ⟨oc_13, od_13, .func (PySem.W.fnOf "kind_in" "kind_in" (defArgs s_kind_in) (defBody s_kind_in) (defScope s_kind_in) .none kV_13 dc_13 pm_13 an_13 cd_13 ct_13), sl_13⟩)
    (o_kind_in : PySem.W.codeIn K cd_13 "kind_in" = true)
    (k_kind_in : PySem.W.keepIn K (.ref a_kind_in) = true)
    (g_kind_out : PySem.W.nsIn K mainGlobals "kind_out" = some (some (.ref a_kind_out)))
    (l_kind_out : K.lookup a_kind_out = some ⟨oc_14, od_14, .func (PySem.W.fnOf "kind_out" "kind_out" (defArgs s_kind_out) (defBody s_kind_out) (defScope s_kind_out) .none kV_14 dc_14 pm_14 an_14 cd_14 ct_14), sl_14⟩)
    (o_kind_out : PySem.W.codeIn K cd_14 "kind_out" = true)
    (k_kind_out : PySem.W.keepIn K (.ref a_kind_out) = true)
    (g__with_count : PySem.W.nsIn K mainGlobals "_with_count" = some (some (.ref a__with_count)))
    (l__with_count : K.lookup a__with_count = some ⟨oc_15, od_15, .func (PySem.W.fnOf "_with_count" "_with_count" (defArgs s__with_count) (defBody s__with_count) (defScope s__with_count) .none kV_15 dc_15 pm_15 an_15 cd_15 ct_15), sl_15⟩)
    (o__with_count : PySem.W.codeIn K cd_15 "_with_count" = true)
    (k__with_count : PySem.W.keepIn K (.ref a__with_count) = true)
    (g_day : PySem.W.nsIn K mainGlobals "day" = some (some (.ref a_day)))
    (l_day : K.lookup a_day = some ⟨oc_16, od_16, .func (PySem.W.fnOf "day" "day" (defArgs s_day) (defBody s_day) (defScope s_day) .none kV_16 dc_16 pm_16 an_16 cd_16 ct_16), sl_16⟩)
    (o_day : PySem.W.codeIn K cd_16 "day" = true)
    (k_day : PySem.W.keepIn K (.ref a_day) = true)
    (g__answered : PySem.W.nsIn K mainGlobals "_answered" = some (some (.ref a__answered)))
    (l__answered : K.lookup a__answered = some ⟨oc_17, od_17, .func (PySem.W.fnOf "_answered" "_answered" (defArgs s__answered) (defBody s__answered) (defScope s__answered) .none kV_17 dc_17 pm_17 an_17 cd_17 ct_17), sl_17⟩)
    (o__answered : PySem.W.codeIn K cd_17 "_answered" = true)
    (k__answered : PySem.W.keepIn K (.ref a__answered) = true)
    (g__done : PySem.W.nsIn K mainGlobals "_done" = some (some (.ref a__done)))
    (l__done : K.lookup a__done = some ⟨oc_18, od_18, .func (PySem.W.fnOf "_done" "_done" (defArgs s__done) (defBody s__done) (defScope s__done) .none kV_18 dc_18 pm_18 an_18 cd_18 ct_18), sl_18⟩)
    (o__done : PySem.W.codeIn K cd_18 "_done" = true)
    (k__done : PySem.W.keepIn K (.ref a__done) = true)
    (g__law_cell_at : PySem.W.nsIn K mainGlobals "_law_cell_at" = some (some (.ref a__law_cell_at)))
    (l__law_cell_at : K.lookup a__law_cell_at = some ⟨oc_19, od_19, .func (PySem.W.fnOf "_law_cell_at" "_law_cell_at" (defArgs s__law_cell_at) (defBody s__law_cell_at) (defScope s__law_cell_at) .none kV_19 dc_19 pm_19 an_19 cd_19 ct_19), sl_19⟩)
    (o__law_cell_at : PySem.W.codeIn K cd_19 "_law_cell_at" = true)
    (k__law_cell_at : PySem.W.keepIn K (.ref a__law_cell_at) = true)
    (g__law_whole : PySem.W.nsIn K mainGlobals "_law_whole" = some (some (.ref a__law_whole)))
    (l__law_whole : K.lookup a__law_whole = some ⟨oc_20, od_20, .func (PySem.W.fnOf "_law_whole" "_law_whole" (defArgs s__law_whole) (defBody s__law_whole) (defScope s__law_whole) .none kV_20 dc_20 pm_20 an_20 cd_20 ct_20), sl_20⟩)
    (o__law_whole : PySem.W.codeIn K cd_20 "_law_whole" = true)
    (k__law_whole : PySem.W.keepIn K (.ref a__law_whole) = true)
    (g__law_mixed : PySem.W.nsIn K mainGlobals "_law_mixed" = some (some (.ref a__law_mixed)))
    (l__law_mixed : K.lookup a__law_mixed = some ⟨oc_21, od_21, .func (PySem.W.fnOf "_law_mixed" "_law_mixed" (defArgs s__law_mixed) (defBody s__law_mixed) (defScope s__law_mixed) .none kV_21 dc_21 pm_21 an_21 cd_21 ct_21), sl_21⟩)
    (o__law_mixed : PySem.W.codeIn K cd_21 "_law_mixed" = true)
    (k__law_mixed : PySem.W.keepIn K (.ref a__law_mixed) = true)
    (g__law_value : PySem.W.nsIn K mainGlobals "_law_value" = some (some (.ref a__law_value)))
    (l__law_value : K.lookup a__law_value = some ⟨oc_22, od_22, .func (PySem.W.fnOf "_law_value" "_law_value" (defArgs s__law_value) (defBody s__law_value) (defScope s__law_value) .none kV_22 dc_22 pm_22 an_22 cd_22 ct_22), sl_22⟩)
    (o__law_value : PySem.W.codeIn K cd_22 "_law_value" = true)
    (k__law_value : PySem.W.keepIn K (.ref a__law_value) = true)
    (g__law_count : PySem.W.nsIn K mainGlobals "_law_count" = some (some (.ref a__law_count)))
    (l__law_count : K.lookup a__law_count = some ⟨oc_23, od_23, .func (PySem.W.fnOf "_law_count" "_law_count" (defArgs s__law_count) (defBody s__law_count) (defScope s__law_count) .none kV_23 dc_23 pm_23 an_23 cd_23 ct_23), sl_23⟩)
    (o__law_count : PySem.W.codeIn K cd_23 "_law_count" = true)
    (k__law_count : PySem.W.keepIn K (.ref a__law_count) = true)
    (g__law_pairs : PySem.W.nsIn K mainGlobals "_law_pairs" = some (some (.ref a__law_pairs)))
    (l__law_pairs : K.lookup a__law_pairs = some ⟨oc_24, od_24, .func (PySem.W.fnOf "_law_pairs" "_law_pairs" (defArgs s__law_pairs) (defBody s__law_pairs) (defScope s__law_pairs) .none kV_24 dc_24 pm_24 an_24 cd_24 ct_24), sl_24⟩)
    (o__law_pairs : PySem.W.codeIn K cd_24 "_law_pairs" = true)
    (k__law_pairs : PySem.W.keepIn K (.ref a__law_pairs) = true)
    (g__law_alike : PySem.W.nsIn K mainGlobals "_law_alike" = some (some (.ref a__law_alike)))
    (l__law_alike : K.lookup a__law_alike = some ⟨oc_25, od_25, .func (PySem.W.fnOf "_law_alike" "_law_alike" (defArgs s__law_alike) (defBody s__law_alike) (defScope s__law_alike) .none kV_25 dc_25 pm_25 an_25 cd_25 ct_25), sl_25⟩)
    (o__law_alike : PySem.W.codeIn K cd_25 "_law_alike" = true)
    (k__law_alike : PySem.W.keepIn K (.ref a__law_alike) = true)
    (g__law_least : PySem.W.nsIn K mainGlobals "_law_least" = some (some (.ref a__law_least)))
    (l__law_least : K.lookup a__law_least = some ⟨oc_26, od_26, .func (PySem.W.fnOf "_law_least" "_law_least" (defArgs s__law_least) (defBody s__law_least) (defScope s__law_least) .none kV_26 dc_26 pm_26 an_26 cd_26 ct_26), sl_26⟩)
    (o__law_least : PySem.W.codeIn K cd_26 "_law_least" = true)
    (k__law_least : PySem.W.keepIn K (.ref a__law_least) = true)
    (g__law_row : PySem.W.nsIn K mainGlobals "_law_row" = some (some (.ref a__law_row)))
    (l__law_row : K.lookup a__law_row = some ⟨oc_27, od_27, .func (PySem.W.fnOf "_law_row" "_law_row" (defArgs s__law_row) (defBody s__law_row) (defScope s__law_row) .none kV_27 dc_27 pm_27 an_27 cd_27 ct_27), sl_27⟩)
    (o__law_row : PySem.W.codeIn K cd_27 "_law_row" = true)
    (k__law_row : PySem.W.keepIn K (.ref a__law_row) = true)
    (g__law_walked : PySem.W.nsIn K mainGlobals "_law_walked" = some (some (.ref a__law_walked)))
    (l__law_walked : K.lookup a__law_walked = some ⟨oc_28, od_28, .func (PySem.W.fnOf "_law_walked" "_law_walked" (defArgs s__law_walked) (defBody s__law_walked) (defScope s__law_walked) .none kV_28 dc_28 pm_28 an_28 cd_28 ct_28), sl_28⟩)
    (o__law_walked : PySem.W.codeIn K cd_28 "_law_walked" = true)
    (k__law_walked : PySem.W.keepIn K (.ref a__law_walked) = true)
    (g__law_change : PySem.W.nsIn K mainGlobals "_law_change" = some (some (.ref a__law_change)))
    (l__law_change : K.lookup a__law_change = some ⟨oc_29, od_29, .func (PySem.W.fnOf "_law_change" "_law_change" (defArgs s__law_change) (defBody s__law_change) (defScope s__law_change) .none kV_29 dc_29 pm_29 an_29 cd_29 ct_29), sl_29⟩)
    (o__law_change : PySem.W.codeIn K cd_29 "_law_change" = true)
    (k__law_change : PySem.W.keepIn K (.ref a__law_change) = true)
    (g__law_known : PySem.W.nsIn K mainGlobals "_law_known" = some (some (.ref a__law_known)))
    (l__law_known : K.lookup a__law_known = some ⟨oc_30, od_30, .func (PySem.W.fnOf "_law_known" "_law_known" (defArgs s__law_known) (defBody s__law_known) (defScope s__law_known) .none kV_30 dc_30 pm_30 an_30 cd_30 ct_30), sl_30⟩)
    (o__law_known : PySem.W.codeIn K cd_30 "_law_known" = true)
    (k__law_known : PySem.W.keepIn K (.ref a__law_known) = true)
    (g__law_deed : PySem.W.nsIn K mainGlobals "_law_deed" = some (some (.ref a__law_deed)))
    (l__law_deed : K.lookup a__law_deed = some ⟨oc_31, od_31, .func (PySem.W.fnOf "_law_deed" "_law_deed" (defArgs s__law_deed) (defBody s__law_deed) (defScope s__law_deed) .none kV_31 dc_31 pm_31 an_31 cd_31 ct_31), sl_31⟩)
    (o__law_deed : PySem.W.codeIn K cd_31 "_law_deed" = true)
    (k__law_deed : PySem.W.keepIn K (.ref a__law_deed) = true)
    (g__law_moved : PySem.W.nsIn K mainGlobals "_law_moved" = some (some (.ref a__law_moved)))
    (l__law_moved : K.lookup a__law_moved = some ⟨oc_32, od_32, .func (PySem.W.fnOf "_law_moved" "_law_moved" (defArgs s__law_moved) (defBody s__law_moved) (defScope s__law_moved) .none kV_32 dc_32 pm_32 an_32 cd_32 ct_32), sl_32⟩)
    (o__law_moved : PySem.W.codeIn K cd_32 "_law_moved" = true)
    (k__law_moved : PySem.W.keepIn K (.ref a__law_moved) = true)
    (g__law_kind : PySem.W.nsIn K mainGlobals "_law_kind" = some (some (.ref a__law_kind)))
    (l__law_kind : K.lookup a__law_kind = some ⟨oc_33, od_33, .func (PySem.W.fnOf "_law_kind" "_law_kind" (defArgs s__law_kind) (defBody s__law_kind) (defScope s__law_kind) .none kV_33 dc_33 pm_33 an_33 cd_33 ct_33), sl_33⟩)
    (o__law_kind : PySem.W.codeIn K cd_33 "_law_kind" = true)
    (k__law_kind : PySem.W.keepIn K (.ref a__law_kind) = true)
    (g__law_unpaid : PySem.W.nsIn K mainGlobals "_law_unpaid" = some (some (.ref a__law_unpaid)))
    (l__law_unpaid : K.lookup a__law_unpaid = some ⟨oc_34, od_34, .func (PySem.W.fnOf "_law_unpaid" "_law_unpaid" (defArgs s__law_unpaid) (defBody s__law_unpaid) (defScope s__law_unpaid) .none kV_34 dc_34 pm_34 an_34 cd_34 ct_34), sl_34⟩)
    (o__law_unpaid : PySem.W.codeIn K cd_34 "_law_unpaid" = true)
    (k__law_unpaid : PySem.W.keepIn K (.ref a__law_unpaid) = true)
    (g__law_exact : PySem.W.nsIn K mainGlobals "_law_exact" = some (some (.ref a__law_exact)))
    (l__law_exact : K.lookup a__law_exact = some ⟨oc_35, od_35, .func (PySem.W.fnOf "_law_exact" "_law_exact" (defArgs s__law_exact) (defBody s__law_exact) (defScope s__law_exact) .none kV_35 dc_35 pm_35 an_35 cd_35 ct_35), sl_35⟩)
    (o__law_exact : PySem.W.codeIn K cd_35 "_law_exact" = true)
    (k__law_exact : PySem.W.keepIn K (.ref a__law_exact) = true)
    (g__law_paid : PySem.W.nsIn K mainGlobals "_law_paid" = some (some (.ref a__law_paid)))
    (l__law_paid : K.lookup a__law_paid = some ⟨oc_36, od_36, .func (PySem.W.fnOf "_law_paid" "_law_paid" (defArgs s__law_paid) (defBody s__law_paid) (defScope s__law_paid) .none kV_36 dc_36 pm_36 an_36 cd_36 ct_36), sl_36⟩)
    (o__law_paid : PySem.W.codeIn K cd_36 "_law_paid" = true)
    (k__law_paid : PySem.W.keepIn K (.ref a__law_paid) = true)
    (g__law_right : PySem.W.nsIn K mainGlobals "_law_right" = some (some (.ref a__law_right)))
    (l__law_right : K.lookup a__law_right = some ⟨oc_37, od_37, .func (PySem.W.fnOf "_law_right" "_law_right" (defArgs s__law_right) (defBody s__law_right) (defScope s__law_right) .none kV_37 dc_37 pm_37 an_37 cd_37 ct_37), sl_37⟩)
    (o__law_right : PySem.W.codeIn K cd_37 "_law_right" = true)
    (k__law_right : PySem.W.keepIn K (.ref a__law_right) = true)
    (g__law_copies : PySem.W.nsIn K mainGlobals "_law_copies" = some (some (.ref a__law_copies)))
    (l__law_copies : K.lookup a__law_copies = some ⟨oc_38, od_38, .func (PySem.W.fnOf "_law_copies" "_law_copies" (defArgs s__law_copies) (defBody s__law_copies) (defScope s__law_copies) .none kV_38 dc_38 pm_38 an_38 cd_38 ct_38), sl_38⟩)
    (o__law_copies : PySem.W.codeIn K cd_38 "_law_copies" = true)
    (k__law_copies : PySem.W.keepIn K (.ref a__law_copies) = true)
    (g__law_again : PySem.W.nsIn K mainGlobals "_law_again" = some (some (.ref a__law_again)))
    (l__law_again : K.lookup a__law_again = some ⟨oc_39, od_39, .func (PySem.W.fnOf "_law_again" "_law_again" (defArgs s__law_again) (defBody s__law_again) (defScope s__law_again) .none kV_39 dc_39 pm_39 an_39 cd_39 ct_39), sl_39⟩)
    (o__law_again : PySem.W.codeIn K cd_39 "_law_again" = true)
    (k__law_again : PySem.W.keepIn K (.ref a__law_again) = true)
    (g_law : PySem.W.nsIn K mainGlobals "law" = some (some (.ref a_law)))
    (l_law : K.lookup a_law = some ⟨oc_40, od_40, .func (PySem.W.fnOf "law" "law" (defArgs s_law) (defBody s_law) (defScope s_law) .none kV_40 dc_40 pm_40 an_40 cd_40 ct_40), sl_40⟩)
    (o_law : PySem.W.codeIn K cd_40 "law" = true)
    (k_law : PySem.W.keepIn K (.ref a_law) = true)
    (w_MOST_KINDS : PySem.W.nsIn K mainGlobals "MOST_KINDS" = some (some (.int 10 tk_MOST_KINDS)))
    (w_MOST_VALUE : PySem.W.nsIn K mainGlobals "MOST_VALUE" = some (some (.int 1000 tk_MOST_VALUE)))
    (w_MOST_COUNT : PySem.W.nsIn K mainGlobals "MOST_COUNT" = some (some (.int 1000000000 tk_MOST_COUNT)))
    (w_MOST_SUM : PySem.W.nsIn K mainGlobals "MOST_SUM" = some (some (.int 1000 tk_MOST_SUM)))
    (w_MOST_PAID : PySem.W.nsIn K mainGlobals "MOST_PAID" = some (some (.int 60 tk_MOST_PAID)))
    (m_bool : PySem.W.nsIn K mainGlobals "bool" = some none)
    (m_dict : PySem.W.nsIn K mainGlobals "dict" = some none)
    (m_enumerate : PySem.W.nsIn K mainGlobals "enumerate" = some none)
    (m_int : PySem.W.nsIn K mainGlobals "int" = some none)
    (m_isinstance : PySem.W.nsIn K mainGlobals "isinstance" = some none)
    (m_len : PySem.W.nsIn K mainGlobals "len" = some none)
    (m_list : PySem.W.nsIn K mainGlobals "list" = some none)
    (m_max : PySem.W.nsIn K mainGlobals "max" = some none)
    (m_min : PySem.W.nsIn K mainGlobals "min" = some none)
    (m_range : PySem.W.nsIn K mainGlobals "range" = some none)
    (m_reversed : PySem.W.nsIn K mainGlobals "reversed" = some none)
    (m_sorted : PySem.W.nsIn K mainGlobals "sorted" = some none)
    (m_sum : PySem.W.nsIn K mainGlobals "sum" = some none)
    (m_tuple : PySem.W.nsIn K mainGlobals "tuple" = some none)
    (m_zip : PySem.W.nsIn K mainGlobals "zip" = some none)
    : ∃ T : Tx K mg, T.a_law = a_law ∧ (∀ (s : Shared) (v : Value), BindsTo s T.d_law ⟨[v], []⟩ [("_law_script", v)]) := by
  have F_check_value := fun_mk (st := s_check_value) l_check_value o_check_value k_check_value
  have B_check_value := F_check_value.binds (ps := P_check_value) fun _ _ _ _ _ _ us hl => match us, hl with | [_], _ => rfl
  have F_check_count := fun_mk (st := s_check_count) l_check_count o_check_count k_check_count
  have B_check_count := F_check_count.binds (ps := P_check_count) fun _ _ _ _ _ _ us hl => match us, hl with | [_], _ => rfl
  have F_count_of := fun_mk (st := s_count_of) l_count_of o_count_of k_count_of
  have B_count_of := F_count_of.binds (ps := P_count_of) fun _ _ _ _ _ _ us hl => match us, hl with | [_, _], _ => rfl
  have F_check_sum := fun_mk (st := s_check_sum) l_check_sum o_check_sum k_check_sum
  have B_check_sum := F_check_sum.binds (ps := P_check_sum) fun _ _ _ _ _ _ us hl => match us, hl with | [_], _ => rfl
  have F_table := fun_mk (st := s_table) l_table o_table k_table
  have B_table := F_table.binds (ps := P_table) fun _ _ _ _ _ _ us hl => match us, hl with | [_, _], _ => rfl
  have F_fewest := fun_mk (st := s_fewest) l_fewest o_fewest k_fewest
  have B_fewest := F_fewest.binds (ps := P_fewest) fun _ _ _ _ _ _ us hl => match us, hl with | [_, _], _ => rfl
  have F_with_kind := fun_mk (st := s_with_kind) l_with_kind o_with_kind k_with_kind
  have B_with_kind := F_with_kind.binds (ps := P_with_kind) fun _ _ _ _ _ _ us hl => match us, hl with | [_, _, _], _ => rfl
  have F__bundles := fun_mk (st := s__bundles) l__bundles o__bundles k__bundles
  have B__bundles := F__bundles.binds (ps := P__bundles) fun _ _ _ _ _ _ us hl => match us, hl with | [_], _ => rfl
  have F__with_bundle := fun_mk (st := s__with_bundle) l__with_bundle o__with_bundle k__with_bundle
  have B__with_bundle := F__with_bundle.binds (ps := P__with_bundle) fun _ _ _ _ _ _ us hl => match us, hl with | [_, _, _], _ => rfl
  have F__most_given := fun_mk (st := s__most_given) l__most_given o__most_given k__most_given
  have B__most_given := F__most_given.binds (ps := P__most_given) fun _ _ _ _ _ _ us hl => match us, hl with | [_, _, _, _, _], _ => rfl
  have F_paid := fun_mk (st := s_paid) l_paid o_paid k_paid
  have B_paid := F_paid.binds (ps := P_paid) fun _ _ _ _ _ _ us hl => match us, hl with | [_, _, _], _ => rfl
  have F_brought := fun_mk (st := s_brought) l_brought o_brought k_brought
  have B_brought := F_brought.binds (ps := P_brought) fun _ _ _ _ _ _ us hl => match us, hl with | [_, _, _], _ => rfl
  have F_fetched := fun_mk (st := s_fetched) l_fetched o_fetched k_fetched
  have B_fetched := F_fetched.binds (ps := P_fetched) fun _ _ _ _ _ _ us hl => match us, hl with | [_, _, _], _ => rfl
  have F_kind_in := fun_mk (st := s_kind_in) l_kind_in o_kind_in k_kind_in
  have B_kind_in := F_kind_in.binds (ps := P_kind_in) fun _ _ _ _ _ _ us hl => match us, hl with | [_, _], _ => rfl
  have F_kind_out := fun_mk (st := s_kind_out) l_kind_out o_kind_out k_kind_out
  have B_kind_out := F_kind_out.binds (ps := P_kind_out) fun _ _ _ _ _ _ us hl => match us, hl with | [_, _], _ => rfl
  have F__with_count := fun_mk (st := s__with_count) l__with_count o__with_count k__with_count
  have B__with_count := F__with_count.binds (ps := P__with_count) fun _ _ _ _ _ _ us hl => match us, hl with | [_, _, _], _ => rfl
  have F_day := fun_mk (st := s_day) l_day o_day k_day
  have B_day := F_day.binds (ps := P_day) fun _ _ _ _ _ _ us hl => match us, hl with | [_, _], _ => rfl
  have F__answered := fun_mk (st := s__answered) l__answered o__answered k__answered
  have B__answered := F__answered.binds (ps := P__answered) fun _ _ _ _ _ _ us hl => match us, hl with | [_, _], _ => rfl
  have F__done := fun_mk (st := s__done) l__done o__done k__done
  have B__done := F__done.binds (ps := P__done) fun _ _ _ _ _ _ us hl => match us, hl with | [_, _], _ => rfl
  have F__law_cell_at := fun_mk (st := s__law_cell_at) l__law_cell_at o__law_cell_at k__law_cell_at
  have B__law_cell_at := F__law_cell_at.binds (ps := P__law_cell_at) fun _ _ _ _ _ _ us hl => match us, hl with | [_, _], _ => rfl
  have F__law_whole := fun_mk (st := s__law_whole) l__law_whole o__law_whole k__law_whole
  have B__law_whole := F__law_whole.binds (ps := P__law_whole) fun _ _ _ _ _ _ us hl => match us, hl with | [_], _ => rfl
  have F__law_mixed := fun_mk (st := s__law_mixed) l__law_mixed o__law_mixed k__law_mixed
  have B__law_mixed := F__law_mixed.binds (ps := P__law_mixed) fun _ _ _ _ _ _ us hl => match us, hl with | [_, _], _ => rfl
  have F__law_value := fun_mk (st := s__law_value) l__law_value o__law_value k__law_value
  have B__law_value := F__law_value.binds (ps := P__law_value) fun _ _ _ _ _ _ us hl => match us, hl with | [_, _], _ => rfl
  have F__law_count := fun_mk (st := s__law_count) l__law_count o__law_count k__law_count
  have B__law_count := F__law_count.binds (ps := P__law_count) fun _ _ _ _ _ _ us hl => match us, hl with | [_, _], _ => rfl
  have F__law_pairs := fun_mk (st := s__law_pairs) l__law_pairs o__law_pairs k__law_pairs
  have B__law_pairs := F__law_pairs.binds (ps := P__law_pairs) fun _ _ _ _ _ _ us hl => match us, hl with | [_], _ => rfl
  have F__law_alike := fun_mk (st := s__law_alike) l__law_alike o__law_alike k__law_alike
  have B__law_alike := F__law_alike.binds (ps := P__law_alike) fun _ _ _ _ _ _ us hl => match us, hl with | [_, _], _ => rfl
  have F__law_least := fun_mk (st := s__law_least) l__law_least o__law_least k__law_least
  have B__law_least := F__law_least.binds (ps := P__law_least) fun _ _ _ _ _ _ us hl => match us, hl with | [_, _, _, _], _ => rfl
  have F__law_row := fun_mk (st := s__law_row) l__law_row o__law_row k__law_row
  have B__law_row := F__law_row.binds (ps := P__law_row) fun _ _ _ _ _ _ us hl => match us, hl with | [_, _], _ => rfl
  have F__law_walked := fun_mk (st := s__law_walked) l__law_walked o__law_walked k__law_walked
  have B__law_walked := F__law_walked.binds (ps := P__law_walked) fun _ _ _ _ _ _ us hl => match us, hl with | [_, _, _], _ => rfl
  have F__law_change := fun_mk (st := s__law_change) l__law_change o__law_change k__law_change
  have B__law_change := F__law_change.binds (ps := P__law_change) fun _ _ _ _ _ _ us hl => match us, hl with | [_, _, _], _ => rfl
  have F__law_known := fun_mk (st := s__law_known) l__law_known o__law_known k__law_known
  have B__law_known := F__law_known.binds (ps := P__law_known) fun _ _ _ _ _ _ us hl => match us, hl with | [_, _], _ => rfl
  have F__law_deed := fun_mk (st := s__law_deed) l__law_deed o__law_deed k__law_deed
  have B__law_deed := F__law_deed.binds (ps := P__law_deed) fun _ _ _ _ _ _ us hl => match us, hl with | [_, _, _], _ => rfl
  have F__law_moved := fun_mk (st := s__law_moved) l__law_moved o__law_moved k__law_moved
  have B__law_moved := F__law_moved.binds (ps := P__law_moved) fun _ _ _ _ _ _ us hl => match us, hl with | [_, _], _ => rfl
  have F__law_kind := fun_mk (st := s__law_kind) l__law_kind o__law_kind k__law_kind
  have B__law_kind := F__law_kind.binds (ps := P__law_kind) fun _ _ _ _ _ _ us hl => match us, hl with | [_, _], _ => rfl
  have F__law_unpaid := fun_mk (st := s__law_unpaid) l__law_unpaid o__law_unpaid k__law_unpaid
  have B__law_unpaid := F__law_unpaid.binds (ps := P__law_unpaid) fun _ _ _ _ _ _ us hl => match us, hl with | [_, _], _ => rfl
  have F__law_exact := fun_mk (st := s__law_exact) l__law_exact o__law_exact k__law_exact
  have B__law_exact := F__law_exact.binds (ps := P__law_exact) fun _ _ _ _ _ _ us hl => match us, hl with | [_, _, _], _ => rfl
  have F__law_paid := fun_mk (st := s__law_paid) l__law_paid o__law_paid k__law_paid
  have B__law_paid := F__law_paid.binds (ps := P__law_paid) fun _ _ _ _ _ _ us hl => match us, hl with | [_, _, _], _ => rfl
  have F__law_right := fun_mk (st := s__law_right) l__law_right o__law_right k__law_right
  have B__law_right := F__law_right.binds (ps := P__law_right) fun _ _ _ _ _ _ us hl => match us, hl with | [_, _, _], _ => rfl
  have F__law_copies := fun_mk (st := s__law_copies) l__law_copies o__law_copies k__law_copies
  have B__law_copies := F__law_copies.binds (ps := P__law_copies) fun _ _ _ _ _ _ us hl => match us, hl with | [_], _ => rfl
  have F__law_again := fun_mk (st := s__law_again) l__law_again o__law_again k__law_again
  have B__law_again := F__law_again.binds (ps := P__law_again) fun _ _ _ _ _ _ us hl => match us, hl with | [_, _, _, _], _ => rfl
  have F_law := fun_mk (st := s_law) l_law o_law k_law
  have B_law := F_law.binds (ps := P_law) fun _ _ _ _ _ _ us hl => match us, hl with | [_], _ => rfl
  exact ⟨{
    c_TillError := c_TillError,
    c_NoTill := c_NoTill,
    c_NoKind := c_NoKind,
    c_Twice := c_Twice,
    c_NoCount := c_NoCount,
    c_NoSum := c_NoSum,
    c_TooLittle := c_TooLittle,
    c_NoChange := c_NoChange,
    c_TooFew := c_TooFew,
    c_StillHeld := c_StillHeld,
    c_NoDeed := c_NoDeed,
    a_check_value := a_check_value, d_check_value := _,
    a_check_count := a_check_count, d_check_count := _,
    a_count_of := a_count_of, d_count_of := _,
    a_check_sum := a_check_sum, d_check_sum := _,
    a_table := a_table, d_table := _,
    a_fewest := a_fewest, d_fewest := _,
    a_with_kind := a_with_kind, d_with_kind := _,
    a__bundles := a__bundles, d__bundles := _,
    a__with_bundle := a__with_bundle, d__with_bundle := _,
    a__most_given := a__most_given, d__most_given := _,
    a_paid := a_paid, d_paid := _,
    a_brought := a_brought, d_brought := _,
    a_fetched := a_fetched, d_fetched := _,
    a_kind_in := a_kind_in, d_kind_in := _,
    a_kind_out := a_kind_out, d_kind_out := _,
    a__with_count := a__with_count, d__with_count := _,
    a_day := a_day, d_day := _,
    a__answered := a__answered, d__answered := _,
    a__done := a__done, d__done := _,
    a__law_cell_at := a__law_cell_at, d__law_cell_at := _,
    a__law_whole := a__law_whole, d__law_whole := _,
    a__law_mixed := a__law_mixed, d__law_mixed := _,
    a__law_value := a__law_value, d__law_value := _,
    a__law_count := a__law_count, d__law_count := _,
    a__law_pairs := a__law_pairs, d__law_pairs := _,
    a__law_alike := a__law_alike, d__law_alike := _,
    a__law_least := a__law_least, d__law_least := _,
    a__law_row := a__law_row, d__law_row := _,
    a__law_walked := a__law_walked, d__law_walked := _,
    a__law_change := a__law_change, d__law_change := _,
    a__law_known := a__law_known, d__law_known := _,
    a__law_deed := a__law_deed, d__law_deed := _,
    a__law_moved := a__law_moved, d__law_moved := _,
    a__law_kind := a__law_kind, d__law_kind := _,
    a__law_unpaid := a__law_unpaid, d__law_unpaid := _,
    a__law_exact := a__law_exact, d__law_exact := _,
    a__law_paid := a__law_paid, d__law_paid := _,
    a__law_right := a__law_right, d__law_right := _,
    a__law_copies := a__law_copies, d__law_copies := _,
    a__law_again := a__law_again, d__law_again := _,
    a_law := a_law, d_law := _,
    g_TillError := PySem.W.mg_of X G g_TillError, x_TillError := x_TillError, k_TillError := k_TillError, b_TillError := b_TillError, t_TillError := t_TillError, i_TillError := i_TillError,
    g_NoTill := PySem.W.mg_of X G g_NoTill, x_NoTill := x_NoTill, k_NoTill := k_NoTill, b_NoTill := b_NoTill, t_NoTill := t_NoTill, i_NoTill := i_NoTill,
    g_NoKind := PySem.W.mg_of X G g_NoKind, x_NoKind := x_NoKind, k_NoKind := k_NoKind, b_NoKind := b_NoKind, t_NoKind := t_NoKind, i_NoKind := i_NoKind,
    g_Twice := PySem.W.mg_of X G g_Twice, x_Twice := x_Twice, k_Twice := k_Twice, b_Twice := b_Twice, t_Twice := t_Twice, i_Twice := i_Twice,
    g_NoCount := PySem.W.mg_of X G g_NoCount, x_NoCount := x_NoCount, k_NoCount := k_NoCount, b_NoCount := b_NoCount, t_NoCount := t_NoCount, i_NoCount := i_NoCount,
    g_NoSum := PySem.W.mg_of X G g_NoSum, x_NoSum := x_NoSum, k_NoSum := k_NoSum, b_NoSum := b_NoSum, t_NoSum := t_NoSum, i_NoSum := i_NoSum,
    g_TooLittle := PySem.W.mg_of X G g_TooLittle, x_TooLittle := x_TooLittle, k_TooLittle := k_TooLittle, b_TooLittle := b_TooLittle, t_TooLittle := t_TooLittle, i_TooLittle := i_TooLittle,
    g_NoChange := PySem.W.mg_of X G g_NoChange, x_NoChange := x_NoChange, k_NoChange := k_NoChange, b_NoChange := b_NoChange, t_NoChange := t_NoChange, i_NoChange := i_NoChange,
    g_TooFew := PySem.W.mg_of X G g_TooFew, x_TooFew := x_TooFew, k_TooFew := k_TooFew, b_TooFew := b_TooFew, t_TooFew := t_TooFew, i_TooFew := i_TooFew,
    g_StillHeld := PySem.W.mg_of X G g_StillHeld, x_StillHeld := x_StillHeld, k_StillHeld := k_StillHeld, b_StillHeld := b_StillHeld, t_StillHeld := t_StillHeld, i_StillHeld := i_StillHeld,
    g_NoDeed := PySem.W.mg_of X G g_NoDeed, x_NoDeed := x_NoDeed, k_NoDeed := k_NoDeed, b_NoDeed := b_NoDeed, t_NoDeed := t_NoDeed, i_NoDeed := i_NoDeed,
    u_NoKind_NoKind := u_NoKind_NoKind,
    u_NoKind_Twice := u_NoKind_Twice,
    u_NoKind_NoCount := u_NoKind_NoCount,
    u_NoKind_NoTill := u_NoKind_NoTill,
    u_NoKind_NoSum := u_NoKind_NoSum,
    u_NoKind_TooLittle := u_NoKind_TooLittle,
    u_NoKind_NoChange := u_NoKind_NoChange,
    u_NoKind_TooFew := u_NoKind_TooFew,
    u_NoKind_StillHeld := u_NoKind_StillHeld,
    u_NoKind_NoDeed := u_NoKind_NoDeed,
    u_NoCount_NoKind := u_NoCount_NoKind,
    u_NoCount_Twice := u_NoCount_Twice,
    u_NoCount_NoCount := u_NoCount_NoCount,
    u_NoCount_NoTill := u_NoCount_NoTill,
    u_NoCount_NoSum := u_NoCount_NoSum,
    u_NoCount_TooLittle := u_NoCount_TooLittle,
    u_NoCount_NoChange := u_NoCount_NoChange,
    u_NoCount_TooFew := u_NoCount_TooFew,
    u_NoCount_StillHeld := u_NoCount_StillHeld,
    u_NoCount_NoDeed := u_NoCount_NoDeed,
    u_NoSum_NoKind := u_NoSum_NoKind,
    u_NoSum_Twice := u_NoSum_Twice,
    u_NoSum_NoCount := u_NoSum_NoCount,
    u_NoSum_NoTill := u_NoSum_NoTill,
    u_NoSum_NoSum := u_NoSum_NoSum,
    u_NoSum_TooLittle := u_NoSum_TooLittle,
    u_NoSum_NoChange := u_NoSum_NoChange,
    u_NoSum_TooFew := u_NoSum_TooFew,
    u_NoSum_StillHeld := u_NoSum_StillHeld,
    u_NoSum_NoDeed := u_NoSum_NoDeed,
    u_NoChange_NoKind := u_NoChange_NoKind,
    u_NoChange_Twice := u_NoChange_Twice,
    u_NoChange_NoCount := u_NoChange_NoCount,
    u_NoChange_NoTill := u_NoChange_NoTill,
    u_NoChange_NoSum := u_NoChange_NoSum,
    u_NoChange_TooLittle := u_NoChange_TooLittle,
    u_NoChange_NoChange := u_NoChange_NoChange,
    u_NoChange_TooFew := u_NoChange_TooFew,
    u_NoChange_StillHeld := u_NoChange_StillHeld,
    u_NoChange_NoDeed := u_NoChange_NoDeed,
    u_TooLittle_NoKind := u_TooLittle_NoKind,
    u_TooLittle_Twice := u_TooLittle_Twice,
    u_TooLittle_NoCount := u_TooLittle_NoCount,
    u_TooLittle_NoTill := u_TooLittle_NoTill,
    u_TooLittle_NoSum := u_TooLittle_NoSum,
    u_TooLittle_TooLittle := u_TooLittle_TooLittle,
    u_TooLittle_NoChange := u_TooLittle_NoChange,
    u_TooLittle_TooFew := u_TooLittle_TooFew,
    u_TooLittle_StillHeld := u_TooLittle_StillHeld,
    u_TooLittle_NoDeed := u_TooLittle_NoDeed,
    u_TooFew_NoKind := u_TooFew_NoKind,
    u_TooFew_Twice := u_TooFew_Twice,
    u_TooFew_NoCount := u_TooFew_NoCount,
    u_TooFew_NoTill := u_TooFew_NoTill,
    u_TooFew_NoSum := u_TooFew_NoSum,
    u_TooFew_TooLittle := u_TooFew_TooLittle,
    u_TooFew_NoChange := u_TooFew_NoChange,
    u_TooFew_TooFew := u_TooFew_TooFew,
    u_TooFew_StillHeld := u_TooFew_StillHeld,
    u_TooFew_NoDeed := u_TooFew_NoDeed,
    u_Twice_NoKind := u_Twice_NoKind,
    u_Twice_Twice := u_Twice_Twice,
    u_Twice_NoCount := u_Twice_NoCount,
    u_Twice_NoTill := u_Twice_NoTill,
    u_Twice_NoSum := u_Twice_NoSum,
    u_Twice_TooLittle := u_Twice_TooLittle,
    u_Twice_NoChange := u_Twice_NoChange,
    u_Twice_TooFew := u_Twice_TooFew,
    u_Twice_StillHeld := u_Twice_StillHeld,
    u_Twice_NoDeed := u_Twice_NoDeed,
    u_NoTill_NoKind := u_NoTill_NoKind,
    u_NoTill_Twice := u_NoTill_Twice,
    u_NoTill_NoCount := u_NoTill_NoCount,
    u_NoTill_NoTill := u_NoTill_NoTill,
    u_NoTill_NoSum := u_NoTill_NoSum,
    u_NoTill_TooLittle := u_NoTill_TooLittle,
    u_NoTill_NoChange := u_NoTill_NoChange,
    u_NoTill_TooFew := u_NoTill_TooFew,
    u_NoTill_StillHeld := u_NoTill_StillHeld,
    u_NoTill_NoDeed := u_NoTill_NoDeed,
    u_StillHeld_NoKind := u_StillHeld_NoKind,
    u_StillHeld_Twice := u_StillHeld_Twice,
    u_StillHeld_NoCount := u_StillHeld_NoCount,
    u_StillHeld_NoTill := u_StillHeld_NoTill,
    u_StillHeld_NoSum := u_StillHeld_NoSum,
    u_StillHeld_TooLittle := u_StillHeld_TooLittle,
    u_StillHeld_NoChange := u_StillHeld_NoChange,
    u_StillHeld_TooFew := u_StillHeld_TooFew,
    u_StillHeld_StillHeld := u_StillHeld_StillHeld,
    u_StillHeld_NoDeed := u_StillHeld_NoDeed,
    u_NoDeed_NoKind := u_NoDeed_NoKind,
    u_NoDeed_Twice := u_NoDeed_Twice,
    u_NoDeed_NoCount := u_NoDeed_NoCount,
    u_NoDeed_NoTill := u_NoDeed_NoTill,
    u_NoDeed_NoSum := u_NoDeed_NoSum,
    u_NoDeed_TooLittle := u_NoDeed_TooLittle,
    u_NoDeed_NoChange := u_NoDeed_NoChange,
    u_NoDeed_TooFew := u_NoDeed_TooFew,
    u_NoDeed_StillHeld := u_NoDeed_StillHeld,
    u_NoDeed_NoDeed := u_NoDeed_NoDeed,
    f_check_value := F_check_value, p_check_value := B_check_value, g_check_value := PySem.W.mg_of X G g_check_value,
    f_check_count := F_check_count, p_check_count := B_check_count, g_check_count := PySem.W.mg_of X G g_check_count,
    f_count_of := F_count_of, p_count_of := B_count_of, g_count_of := PySem.W.mg_of X G g_count_of,
    f_check_sum := F_check_sum, p_check_sum := B_check_sum, g_check_sum := PySem.W.mg_of X G g_check_sum,
    f_table := F_table, p_table := B_table, g_table := PySem.W.mg_of X G g_table,
    f_fewest := F_fewest, p_fewest := B_fewest, g_fewest := PySem.W.mg_of X G g_fewest,
    f_with_kind := F_with_kind, p_with_kind := B_with_kind, g_with_kind := PySem.W.mg_of X G g_with_kind,
    f__bundles := F__bundles, p__bundles := B__bundles, g__bundles := PySem.W.mg_of X G g__bundles,
    f__with_bundle := F__with_bundle, p__with_bundle := B__with_bundle, g__with_bundle := PySem.W.mg_of X G g__with_bundle,
    f__most_given := F__most_given, p__most_given := B__most_given, g__most_given := PySem.W.mg_of X G g__most_given,
    f_paid := F_paid, p_paid := B_paid, g_paid := PySem.W.mg_of X G g_paid,
    f_brought := F_brought, p_brought := B_brought, g_brought := PySem.W.mg_of X G g_brought,
    f_fetched := F_fetched, p_fetched := B_fetched, g_fetched := PySem.W.mg_of X G g_fetched,
    f_kind_in := F_kind_in, p_kind_in := B_kind_in, g_kind_in := PySem.W.mg_of X G g_kind_in,
    f_kind_out := F_kind_out, p_kind_out := B_kind_out, g_kind_out := PySem.W.mg_of X G g_kind_out,
    f__with_count := F__with_count, p__with_count := B__with_count, g__with_count := PySem.W.mg_of X G g__with_count,
    f_day := F_day, p_day := B_day, g_day := PySem.W.mg_of X G g_day,
    f__answered := F__answered, p__answered := B__answered, g__answered := PySem.W.mg_of X G g__answered,
    f__done := F__done, p__done := B__done, g__done := PySem.W.mg_of X G g__done,
    f__law_cell_at := F__law_cell_at, p__law_cell_at := B__law_cell_at, g__law_cell_at := PySem.W.mg_of X G g__law_cell_at,
    f__law_whole := F__law_whole, p__law_whole := B__law_whole, g__law_whole := PySem.W.mg_of X G g__law_whole,
    f__law_mixed := F__law_mixed, p__law_mixed := B__law_mixed, g__law_mixed := PySem.W.mg_of X G g__law_mixed,
    f__law_value := F__law_value, p__law_value := B__law_value, g__law_value := PySem.W.mg_of X G g__law_value,
    f__law_count := F__law_count, p__law_count := B__law_count, g__law_count := PySem.W.mg_of X G g__law_count,
    f__law_pairs := F__law_pairs, p__law_pairs := B__law_pairs, g__law_pairs := PySem.W.mg_of X G g__law_pairs,
    f__law_alike := F__law_alike, p__law_alike := B__law_alike, g__law_alike := PySem.W.mg_of X G g__law_alike,
    f__law_least := F__law_least, p__law_least := B__law_least, g__law_least := PySem.W.mg_of X G g__law_least,
    f__law_row := F__law_row, p__law_row := B__law_row, g__law_row := PySem.W.mg_of X G g__law_row,
    f__law_walked := F__law_walked, p__law_walked := B__law_walked, g__law_walked := PySem.W.mg_of X G g__law_walked,
    f__law_change := F__law_change, p__law_change := B__law_change, g__law_change := PySem.W.mg_of X G g__law_change,
    f__law_known := F__law_known, p__law_known := B__law_known, g__law_known := PySem.W.mg_of X G g__law_known,
    f__law_deed := F__law_deed, p__law_deed := B__law_deed, g__law_deed := PySem.W.mg_of X G g__law_deed,
    f__law_moved := F__law_moved, p__law_moved := B__law_moved, g__law_moved := PySem.W.mg_of X G g__law_moved,
    f__law_kind := F__law_kind, p__law_kind := B__law_kind, g__law_kind := PySem.W.mg_of X G g__law_kind,
    f__law_unpaid := F__law_unpaid, p__law_unpaid := B__law_unpaid, g__law_unpaid := PySem.W.mg_of X G g__law_unpaid,
    f__law_exact := F__law_exact, p__law_exact := B__law_exact, g__law_exact := PySem.W.mg_of X G g__law_exact,
    f__law_paid := F__law_paid, p__law_paid := B__law_paid, g__law_paid := PySem.W.mg_of X G g__law_paid,
    f__law_right := F__law_right, p__law_right := B__law_right, g__law_right := PySem.W.mg_of X G g__law_right,
    f__law_copies := F__law_copies, p__law_copies := B__law_copies, g__law_copies := PySem.W.mg_of X G g__law_copies,
    f__law_again := F__law_again, p__law_again := B__law_again, g__law_again := PySem.W.mg_of X G g__law_again,
    f_law := F_law, p_law := B_law, g_law := PySem.W.mg_of X G g_law,
    w_MOST_KINDS := ⟨_, PySem.W.mg_of X G w_MOST_KINDS⟩,
    w_MOST_VALUE := ⟨_, PySem.W.mg_of X G w_MOST_VALUE⟩,
    w_MOST_COUNT := ⟨_, PySem.W.mg_of X G w_MOST_COUNT⟩,
    w_MOST_SUM := ⟨_, PySem.W.mg_of X G w_MOST_SUM⟩,
    w_MOST_PAID := ⟨_, PySem.W.mg_of X G w_MOST_PAID⟩,
    m_bool := PySem.W.mg_none_of X G m_bool,
    m_dict := PySem.W.mg_none_of X G m_dict,
    m_enumerate := PySem.W.mg_none_of X G m_enumerate,
    m_int := PySem.W.mg_none_of X G m_int,
    m_isinstance := PySem.W.mg_none_of X G m_isinstance,
    m_len := PySem.W.mg_none_of X G m_len,
    m_list := PySem.W.mg_none_of X G m_list,
    m_max := PySem.W.mg_none_of X G m_max,
    m_min := PySem.W.mg_none_of X G m_min,
    m_range := PySem.W.mg_none_of X G m_range,
    m_reversed := PySem.W.mg_none_of X G m_reversed,
    m_sorted := PySem.W.mg_none_of X G m_sorted,
    m_sum := PySem.W.mg_none_of X G m_sum,
    m_tuple := PySem.W.mg_none_of X G m_tuple,
    m_zip := PySem.W.mg_none_of X G m_zip }, rfl, fun s v => .of_eq rfl⟩

theorem fin {l : PySem.W.OpenLaw} {w : World} {K : PySem.W.Frag} {h : Heap} {mg : Str → Option Value} {fa a_law : Addr} (X : K.In h) (G : h.Ns mainGlobals mg) (hfa : mg "law" = some (.ref fa))
    (x : ∃ T : Tx K mg, T.a_law = a_law ∧ (∀ (s : Shared) (v : Value), BindsTo s T.d_law ⟨[v], []⟩ [("_law_script", v)])) :
    ∃ fd : FuncData, (∀ (s : Shared) (v : Value), BindsTo s fd ⟨[v], []⟩ [("_law_script", v)]) ∧ ∀ base : Heap, K.In base → base.Ns mainGlobals mg → FnOk l.prog w K mg base CX0 10 fa fd ["_law_script"] (spLaw K) := by
  obtain ⟨T, _, hb⟩ := x
  have e := hfa.symm.trans T.g_law
  cases e
  exact ⟨T.d_law, hb, fun base _ _ => ok_law T⟩

end K09
open PySem PySem.W PyProof.Rows
set_option maxRecDepth 100000 in
set_option maxHeartbeats 0 in
theorem PySem.Challenge.cw_tilldrawer_k09_whole_day_holds : PySem.Challenge.rw_tilldrawer_k09_whole_day.Holds := by
  w_on; o_law; k_head; (case hw => w_witness2)
  k_fill
  refine L2.walk_ofK (l := PySem.Challenge.rw_tilldrawer_k09_whole_day) (n := 63) (k := 10) (x := "_law_script") (CX := L2.CX0) (sp := K09.spLaw) rfl (by decide) rfl ⟨rfl, by decide, by decide⟩ (fun w h Y => PySem.W.kIn_of Y) ?F (fun K H a ns hl hO hS => K09.law_start hl hO hS) (fun _ _ _ _ h => h)
  case F =>
    intro w mg fa h KX G hmg
    refine' K09.fin KX G hmg (K09.tx_mk KX G ?g_TillError ?x_TillError ?k_TillError ?b_TillError ?t_TillError ?i_TillError ?g_NoTill ?x_NoTill ?k_NoTill ?b_NoTill ?t_NoTill ?i_NoTill ?g_NoKind ?x_NoKind ?k_NoKind ?b_NoKind ?t_NoKind ?i_NoKind ?g_Twice ?x_Twice ?k_Twice ?b_Twice ?t_Twice ?i_Twice ?g_NoCount ?x_NoCount ?k_NoCount ?b_NoCount ?t_NoCount ?i_NoCount ?g_NoSum ?x_NoSum ?k_NoSum ?b_NoSum ?t_NoSum ?i_NoSum ?g_TooLittle ?x_TooLittle ?k_TooLittle ?b_TooLittle ?t_TooLittle ?i_TooLittle ?g_NoChange ?x_NoChange ?k_NoChange ?b_NoChange ?t_NoChange ?i_NoChange ?g_TooFew ?x_TooFew ?k_TooFew ?b_TooFew ?t_TooFew ?i_TooFew ?g_StillHeld ?x_StillHeld ?k_StillHeld ?b_StillHeld ?t_StillHeld ?i_StillHeld ?g_NoDeed ?x_NoDeed ?k_NoDeed ?b_NoDeed ?t_NoDeed ?i_NoDeed ?u_NoKind_NoKind ?u_NoKind_Twice ?u_NoKind_NoCount ?u_NoKind_NoTill ?u_NoKind_NoSum ?u_NoKind_TooLittle ?u_NoKind_NoChange ?u_NoKind_TooFew ?u_NoKind_StillHeld ?u_NoKind_NoDeed ?u_NoCount_NoKind ?u_NoCount_Twice ?u_NoCount_NoCount ?u_NoCount_NoTill ?u_NoCount_NoSum ?u_NoCount_TooLittle ?u_NoCount_NoChange ?u_NoCount_TooFew ?u_NoCount_StillHeld ?u_NoCount_NoDeed ?u_NoSum_NoKind ?u_NoSum_Twice ?u_NoSum_NoCount ?u_NoSum_NoTill ?u_NoSum_NoSum ?u_NoSum_TooLittle ?u_NoSum_NoChange ?u_NoSum_TooFew ?u_NoSum_StillHeld ?u_NoSum_NoDeed ?u_NoChange_NoKind ?u_NoChange_Twice ?u_NoChange_NoCount ?u_NoChange_NoTill ?u_NoChange_NoSum ?u_NoChange_TooLittle ?u_NoChange_NoChange ?u_NoChange_TooFew ?u_NoChange_StillHeld ?u_NoChange_NoDeed ?u_TooLittle_NoKind ?u_TooLittle_Twice ?u_TooLittle_NoCount ?u_TooLittle_NoTill ?u_TooLittle_NoSum ?u_TooLittle_TooLittle ?u_TooLittle_NoChange ?u_TooLittle_TooFew ?u_TooLittle_StillHeld ?u_TooLittle_NoDeed ?u_TooFew_NoKind ?u_TooFew_Twice ?u_TooFew_NoCount ?u_TooFew_NoTill ?u_TooFew_NoSum ?u_TooFew_TooLittle ?u_TooFew_NoChange ?u_TooFew_TooFew ?u_TooFew_StillHeld ?u_TooFew_NoDeed ?u_Twice_NoKind ?u_Twice_Twice ?u_Twice_NoCount ?u_Twice_NoTill ?u_Twice_NoSum ?u_Twice_TooLittle ?u_Twice_NoChange ?u_Twice_TooFew ?u_Twice_StillHeld ?u_Twice_NoDeed ?u_NoTill_NoKind ?u_NoTill_Twice ?u_NoTill_NoCount ?u_NoTill_NoTill ?u_NoTill_NoSum ?u_NoTill_TooLittle ?u_NoTill_NoChange ?u_NoTill_TooFew ?u_NoTill_StillHeld ?u_NoTill_NoDeed ?u_StillHeld_NoKind ?u_StillHeld_Twice ?u_StillHeld_NoCount ?u_StillHeld_NoTill ?u_StillHeld_NoSum ?u_StillHeld_TooLittle ?u_StillHeld_NoChange ?u_StillHeld_TooFew ?u_StillHeld_StillHeld ?u_StillHeld_NoDeed ?u_NoDeed_NoKind ?u_NoDeed_Twice ?u_NoDeed_NoCount ?u_NoDeed_NoTill ?u_NoDeed_NoSum ?u_NoDeed_TooLittle ?u_NoDeed_NoChange ?u_NoDeed_TooFew ?u_NoDeed_StillHeld ?u_NoDeed_NoDeed ?g_check_value ?l_check_value ?o_check_value ?k_check_value ?g_check_count ?l_check_count ?o_check_count ?k_check_count ?g_count_of ?l_count_of ?o_count_of ?k_count_of ?g_check_sum ?l_check_sum ?o_check_sum ?k_check_sum ?g_table ?l_table ?o_table ?k_table ?g_fewest ?l_fewest ?o_fewest ?k_fewest ?g_with_kind ?l_with_kind ?o_with_kind ?k_with_kind ?g__bundles ?l__bundles ?o__bundles ?k__bundles ?g__with_bundle ?l__with_bundle ?o__with_bundle ?k__with_bundle ?g__most_given ?l__most_given ?o__most_given ?k__most_given ?g_paid ?l_paid ?o_paid ?k_paid ?g_brought ?l_brought ?o_brought ?k_brought ?g_fetched ?l_fetched ?o_fetched ?k_fetched ?g_kind_in ?l_kind_in ?o_kind_in ?k_kind_in ?g_kind_out ?l_kind_out ?o_kind_out ?k_kind_out ?g__with_count ?l__with_count ?o__with_count ?k__with_count ?g_day ?l_day ?o_day ?k_day ?g__answered ?l__answered ?o__answered ?k__answered ?g__done ?l__done ?o__done ?k__done ?g__law_cell_at ?l__law_cell_at ?o__law_cell_at ?k__law_cell_at ?g__law_whole ?l__law_whole ?o__law_whole ?k__law_whole ?g__law_mixed ?l__law_mixed ?o__law_mixed ?k__law_mixed ?g__law_value ?l__law_value ?o__law_value ?k__law_value ?g__law_count ?l__law_count ?o__law_count ?k__law_count ?g__law_pairs ?l__law_pairs ?o__law_pairs ?k__law_pairs ?g__law_alike ?l__law_alike ?o__law_alike ?k__law_alike ?g__law_least ?l__law_least ?o__law_least ?k__law_least ?g__law_row ?l__law_row ?o__law_row ?k__law_row ?g__law_walked ?l__law_walked ?o__law_walked ?k__law_walked ?g__law_change ?l__law_change ?o__law_change ?k__law_change ?g__law_known ?l__law_known ?o__law_known ?k__law_known ?g__law_deed ?l__law_deed ?o__law_deed ?k__law_deed ?g__law_moved ?l__law_moved ?o__law_moved ?k__law_moved ?g__law_kind ?l__law_kind ?o__law_kind ?k__law_kind ?g__law_unpaid ?l__law_unpaid ?o__law_unpaid ?k__law_unpaid ?g__law_exact ?l__law_exact ?o__law_exact ?k__law_exact ?g__law_paid ?l__law_paid ?o__law_paid ?k__law_paid ?g__law_right ?l__law_right ?o__law_right ?k__law_right ?g__law_copies ?l__law_copies ?o__law_copies ?k__law_copies ?g__law_again ?l__law_again ?o__law_again ?k__law_again ?g_law ?l_law ?o_law ?k_law ?w_MOST_KINDS ?w_MOST_VALUE ?w_MOST_COUNT ?w_MOST_SUM ?w_MOST_PAID ?m_bool ?m_dict ?m_enumerate ?m_int ?m_isinstance ?m_len ?m_list ?m_max ?m_min ?m_range ?m_reversed ?m_sorted ?m_sum ?m_tuple ?m_zip)
    (case g_TillError => k_is)
    (case x_TillError => k_exc)
    (case k_TillError => k_is)
    (case b_TillError => k_is)
    (case t_TillError => k_is)
    (case i_TillError => k_is)
    (case g_NoTill => k_is)
    (case x_NoTill => k_exc)
    (case k_NoTill => k_is)
    (case b_NoTill => k_is)
    (case t_NoTill => k_is)
    (case i_NoTill => k_is)
    (case g_NoKind => k_is)
    (case x_NoKind => k_exc)
    (case k_NoKind => k_is)
    (case b_NoKind => k_is)
    (case t_NoKind => k_is)
    (case i_NoKind => k_is)
    (case g_Twice => k_is)
    (case x_Twice => k_exc)
    (case k_Twice => k_is)
    (case b_Twice => k_is)
    (case t_Twice => k_is)
    (case i_Twice => k_is)
    (case g_NoCount => k_is)
    (case x_NoCount => k_exc)
    (case k_NoCount => k_is)
    (case b_NoCount => k_is)
    (case t_NoCount => k_is)
    (case i_NoCount => k_is)
    (case g_NoSum => k_is)
    (case x_NoSum => k_exc)
    (case k_NoSum => k_is)
    (case b_NoSum => k_is)
    (case t_NoSum => k_is)
    (case i_NoSum => k_is)
    (case g_TooLittle => k_is)
    (case x_TooLittle => k_exc)
    (case k_TooLittle => k_is)
    (case b_TooLittle => k_is)
    (case t_TooLittle => k_is)
    (case i_TooLittle => k_is)
    (case g_NoChange => k_is)
    (case x_NoChange => k_exc)
    (case k_NoChange => k_is)
    (case b_NoChange => k_is)
    (case t_NoChange => k_is)
    (case i_NoChange => k_is)
    (case g_TooFew => k_is)
    (case x_TooFew => k_exc)
    (case k_TooFew => k_is)
    (case b_TooFew => k_is)
    (case t_TooFew => k_is)
    (case i_TooFew => k_is)
    (case g_StillHeld => k_is)
    (case x_StillHeld => k_exc)
    (case k_StillHeld => k_is)
    (case b_StillHeld => k_is)
    (case t_StillHeld => k_is)
    (case i_StillHeld => k_is)
    (case g_NoDeed => k_is)
    (case x_NoDeed => k_exc)
    (case k_NoDeed => k_is)
    (case b_NoDeed => k_is)
    (case t_NoDeed => k_is)
    (case i_NoDeed => k_is)
    (case u_NoKind_NoKind => first | rfl | k_is)
    (case u_NoKind_Twice => first | rfl | k_is)
    (case u_NoKind_NoCount => first | rfl | k_is)
    (case u_NoKind_NoTill => first | rfl | k_is)
    (case u_NoKind_NoSum => first | rfl | k_is)
    (case u_NoKind_TooLittle => first | rfl | k_is)
    (case u_NoKind_NoChange => first | rfl | k_is)
    (case u_NoKind_TooFew => first | rfl | k_is)
    (case u_NoKind_StillHeld => first | rfl | k_is)
    (case u_NoKind_NoDeed => first | rfl | k_is)
    (case u_NoCount_NoKind => first | rfl | k_is)
    (case u_NoCount_Twice => first | rfl | k_is)
    (case u_NoCount_NoCount => first | rfl | k_is)
    (case u_NoCount_NoTill => first | rfl | k_is)
    (case u_NoCount_NoSum => first | rfl | k_is)
    (case u_NoCount_TooLittle => first | rfl | k_is)
    (case u_NoCount_NoChange => first | rfl | k_is)
    (case u_NoCount_TooFew => first | rfl | k_is)
    (case u_NoCount_StillHeld => first | rfl | k_is)
    (case u_NoCount_NoDeed => first | rfl | k_is)
    (case u_NoSum_NoKind => first | rfl | k_is)
    (case u_NoSum_Twice => first | rfl | k_is)
    (case u_NoSum_NoCount => first | rfl | k_is)
    (case u_NoSum_NoTill => first | rfl | k_is)
    (case u_NoSum_NoSum => first | rfl | k_is)
    (case u_NoSum_TooLittle => first | rfl | k_is)
    (case u_NoSum_NoChange => first | rfl | k_is)
    (case u_NoSum_TooFew => first | rfl | k_is)
    (case u_NoSum_StillHeld => first | rfl | k_is)
    (case u_NoSum_NoDeed => first | rfl | k_is)
    (case u_NoChange_NoKind => first | rfl | k_is)
    (case u_NoChange_Twice => first | rfl | k_is)
    (case u_NoChange_NoCount => first | rfl | k_is)
    (case u_NoChange_NoTill => first | rfl | k_is)
    (case u_NoChange_NoSum => first | rfl | k_is)
    (case u_NoChange_TooLittle => first | rfl | k_is)
    (case u_NoChange_NoChange => first | rfl | k_is)
    (case u_NoChange_TooFew => first | rfl | k_is)
    (case u_NoChange_StillHeld => first | rfl | k_is)
    (case u_NoChange_NoDeed => first | rfl | k_is)
    (case u_TooLittle_NoKind => first | rfl | k_is)
    (case u_TooLittle_Twice => first | rfl | k_is)
    (case u_TooLittle_NoCount => first | rfl | k_is)
    (case u_TooLittle_NoTill => first | rfl | k_is)
    (case u_TooLittle_NoSum => first | rfl | k_is)
    (case u_TooLittle_TooLittle => first | rfl | k_is)
    (case u_TooLittle_NoChange => first | rfl | k_is)
    (case u_TooLittle_TooFew => first | rfl | k_is)
    (case u_TooLittle_StillHeld => first | rfl | k_is)
    (case u_TooLittle_NoDeed => first | rfl | k_is)
    (case u_TooFew_NoKind => first | rfl | k_is)
    (case u_TooFew_Twice => first | rfl | k_is)
    (case u_TooFew_NoCount => first | rfl | k_is)
    (case u_TooFew_NoTill => first | rfl | k_is)
    (case u_TooFew_NoSum => first | rfl | k_is)
    (case u_TooFew_TooLittle => first | rfl | k_is)
    (case u_TooFew_NoChange => first | rfl | k_is)
    (case u_TooFew_TooFew => first | rfl | k_is)
    (case u_TooFew_StillHeld => first | rfl | k_is)
    (case u_TooFew_NoDeed => first | rfl | k_is)
    (case u_Twice_NoKind => first | rfl | k_is)
    (case u_Twice_Twice => first | rfl | k_is)
    (case u_Twice_NoCount => first | rfl | k_is)
    (case u_Twice_NoTill => first | rfl | k_is)
    (case u_Twice_NoSum => first | rfl | k_is)
    (case u_Twice_TooLittle => first | rfl | k_is)
    (case u_Twice_NoChange => first | rfl | k_is)
    (case u_Twice_TooFew => first | rfl | k_is)
    (case u_Twice_StillHeld => first | rfl | k_is)
    (case u_Twice_NoDeed => first | rfl | k_is)
    (case u_NoTill_NoKind => first | rfl | k_is)
    (case u_NoTill_Twice => first | rfl | k_is)
    (case u_NoTill_NoCount => first | rfl | k_is)
    (case u_NoTill_NoTill => first | rfl | k_is)
    (case u_NoTill_NoSum => first | rfl | k_is)
    (case u_NoTill_TooLittle => first | rfl | k_is)
    (case u_NoTill_NoChange => first | rfl | k_is)
    (case u_NoTill_TooFew => first | rfl | k_is)
    (case u_NoTill_StillHeld => first | rfl | k_is)
    (case u_NoTill_NoDeed => first | rfl | k_is)
    (case u_StillHeld_NoKind => first | rfl | k_is)
    (case u_StillHeld_Twice => first | rfl | k_is)
    (case u_StillHeld_NoCount => first | rfl | k_is)
    (case u_StillHeld_NoTill => first | rfl | k_is)
    (case u_StillHeld_NoSum => first | rfl | k_is)
    (case u_StillHeld_TooLittle => first | rfl | k_is)
    (case u_StillHeld_NoChange => first | rfl | k_is)
    (case u_StillHeld_TooFew => first | rfl | k_is)
    (case u_StillHeld_StillHeld => first | rfl | k_is)
    (case u_StillHeld_NoDeed => first | rfl | k_is)
    (case u_NoDeed_NoKind => first | rfl | k_is)
    (case u_NoDeed_Twice => first | rfl | k_is)
    (case u_NoDeed_NoCount => first | rfl | k_is)
    (case u_NoDeed_NoTill => first | rfl | k_is)
    (case u_NoDeed_NoSum => first | rfl | k_is)
    (case u_NoDeed_TooLittle => first | rfl | k_is)
    (case u_NoDeed_NoChange => first | rfl | k_is)
    (case u_NoDeed_TooFew => first | rfl | k_is)
    (case u_NoDeed_StillHeld => first | rfl | k_is)
    (case u_NoDeed_NoDeed => first | rfl | k_is)
    (case g_check_value => k_is)
    (case l_check_value => k_is)
    (case o_check_value => k_is)
    (case k_check_value => k_is)
    (case g_check_count => k_is)
    (case l_check_count => k_is)
    (case o_check_count => k_is)
    (case k_check_count => k_is)
    (case g_count_of => k_is)
    (case l_count_of => k_is)
    (case o_count_of => k_is)
    (case k_count_of => k_is)
    (case g_check_sum => k_is)
    (case l_check_sum => k_is)
    (case o_check_sum => k_is)
    (case k_check_sum => k_is)
    (case g_table => k_is)
    (case l_table => k_is)
    (case o_table => k_is)
    (case k_table => k_is)
    (case g_fewest => k_is)
    (case l_fewest => k_is)
    (case o_fewest => k_is)
    (case k_fewest => k_is)
    (case g_with_kind => k_is)
    (case l_with_kind => k_is)
    (case o_with_kind => k_is)
    (case k_with_kind => k_is)
    (case g__bundles => k_is)
    (case l__bundles => k_is)
    (case o__bundles => k_is)
    (case k__bundles => k_is)
    (case g__with_bundle => k_is)
    (case l__with_bundle => k_is)
    (case o__with_bundle => k_is)
    (case k__with_bundle => k_is)
    (case g__most_given => k_is)
    (case l__most_given => k_is)
    (case o__most_given => k_is)
    (case k__most_given => k_is)
    (case g_paid => k_is)
    (case l_paid => k_is)
    (case o_paid => k_is)
    (case k_paid => k_is)
    (case g_brought => k_is)
    (case l_brought => k_is)
    (case o_brought => k_is)
    (case k_brought => k_is)
    (case g_fetched => k_is)
    (case l_fetched => k_is)
    (case o_fetched => k_is)
    (case k_fetched => k_is)
    (case g_kind_in => k_is)
    (case l_kind_in => k_is)
    (case o_kind_in => k_is)
    (case k_kind_in => k_is)
    (case g_kind_out => k_is)
    (case l_kind_out => k_is)
    (case o_kind_out => k_is)
    (case k_kind_out => k_is)
    (case g__with_count => k_is)
    (case l__with_count => k_is)
    (case o__with_count => k_is)
    (case k__with_count => k_is)
    (case g_day => k_is)
    (case l_day => k_is)
    (case o_day => k_is)
    (case k_day => k_is)
    (case g__answered => k_is)
    (case l__answered => k_is)
    (case o__answered => k_is)
    (case k__answered => k_is)
    (case g__done => k_is)
    (case l__done => k_is)
    (case o__done => k_is)
    (case k__done => k_is)
    (case g__law_cell_at => k_is)
    (case l__law_cell_at => k_is)
    (case o__law_cell_at => k_is)
    (case k__law_cell_at => k_is)
    (case g__law_whole => k_is)
    (case l__law_whole => k_is)
    (case o__law_whole => k_is)
    (case k__law_whole => k_is)
    (case g__law_mixed => k_is)
    (case l__law_mixed => k_is)
    (case o__law_mixed => k_is)
    (case k__law_mixed => k_is)
    (case g__law_value => k_is)
    (case l__law_value => k_is)
    (case o__law_value => k_is)
    (case k__law_value => k_is)
    (case g__law_count => k_is)
    (case l__law_count => k_is)
    (case o__law_count => k_is)
    (case k__law_count => k_is)
    (case g__law_pairs => k_is)
    (case l__law_pairs => k_is)
    (case o__law_pairs => k_is)
    (case k__law_pairs => k_is)
    (case g__law_alike => k_is)
    (case l__law_alike => k_is)
    (case o__law_alike => k_is)
    (case k__law_alike => k_is)
    (case g__law_least => k_is)
    (case l__law_least => k_is)
    (case o__law_least => k_is)
    (case k__law_least => k_is)
    (case g__law_row => k_is)
    (case l__law_row => k_is)
    (case o__law_row => k_is)
    (case k__law_row => k_is)
    (case g__law_walked => k_is)
    (case l__law_walked => k_is)
    (case o__law_walked => k_is)
    (case k__law_walked => k_is)
    (case g__law_change => k_is)
    (case l__law_change => k_is)
    (case o__law_change => k_is)
    (case k__law_change => k_is)
    (case g__law_known => k_is)
    (case l__law_known => k_is)
    (case o__law_known => k_is)
    (case k__law_known => k_is)
    (case g__law_deed => k_is)
    (case l__law_deed => k_is)
    (case o__law_deed => k_is)
    (case k__law_deed => k_is)
    (case g__law_moved => k_is)
    (case l__law_moved => k_is)
    (case o__law_moved => k_is)
    (case k__law_moved => k_is)
    (case g__law_kind => k_is)
    (case l__law_kind => k_is)
    (case o__law_kind => k_is)
    (case k__law_kind => k_is)
    (case g__law_unpaid => k_is)
    (case l__law_unpaid => k_is)
    (case o__law_unpaid => k_is)
    (case k__law_unpaid => k_is)
    (case g__law_exact => k_is)
    (case l__law_exact => k_is)
    (case o__law_exact => k_is)
    (case k__law_exact => k_is)
    (case g__law_paid => k_is)
    (case l__law_paid => k_is)
    (case o__law_paid => k_is)
    (case k__law_paid => k_is)
    (case g__law_right => k_is)
    (case l__law_right => k_is)
    (case o__law_right => k_is)
    (case k__law_right => k_is)
    (case g__law_copies => k_is)
    (case l__law_copies => k_is)
    (case o__law_copies => k_is)
    (case k__law_copies => k_is)
    (case g__law_again => k_is)
    (case l__law_again => k_is)
    (case o__law_again => k_is)
    (case k__law_again => k_is)
    (case g_law => k_is)
    (case l_law => k_is)
    (case o_law => k_is)
    (case k_law => k_is)
    (case w_MOST_KINDS => k_is)
    (case w_MOST_VALUE => k_is)
    (case w_MOST_COUNT => k_is)
    (case w_MOST_SUM => k_is)
    (case w_MOST_PAID => k_is)
    (case m_bool => k_is)
    (case m_dict => k_is)
    (case m_enumerate => k_is)
    (case m_int => k_is)
    (case m_isinstance => k_is)
    (case m_len => k_is)
    (case m_list => k_is)
    (case m_max => k_is)
    (case m_min => k_is)
    (case m_range => k_is)
    (case m_reversed => k_is)
    (case m_sorted => k_is)
    (case m_sum => k_is)
    (case m_tuple => k_is)
    (case m_zip => k_is)

