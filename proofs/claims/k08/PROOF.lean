import PyProof.Rows.All
import Wide.All
import OpenK.AllK
import Wide.FinOn
import PyProof.EqAt
import PyProof.EqKinds
import PyProof.TupleCall
import HandS.ForMost
import HandS.ForExc
import HandS.TryMany
import HandS.Sort
import HandS.SortRule
import HandS.IsInst
import HandS.ExcIs
import HandS.Evl
import HandS.Walk
import HandS.Strs
import HandS.SetFor
import HandS.RevRange
import HandS.Conv
import HandS.Style
import HandS.Zip
import PySem.Challenge.RW_tilldrawer_k08_a_price_paid
set_option Elab.async false
set_option linter.all false
set_option maxRecDepth 100000
set_option maxHeartbeats 4000000
namespace K08
open PySem PySem.Spec PyProof.Rows L2
def topS (i : Nat) : Stmt := PySem.Challenge.pw_tilldrawer_k08_a_price_paid.main.body.getD i (.Pass ⟨0, 0, 0, 0⟩)
abbrev s_check_count : Stmt := topS 14
abbrev N_check_count : List Str := ["count"]
abbrev P_check_count : List Str := ["count"]
theorem sc_check_count : FnScope N_check_count P_check_count (defScope s_check_count) := ⟨rfl, rfl, rfl, by decide +kernel, rfl, by decide +kernel, by decide +kernel⟩
abbrev s_count_of : Stmt := topS 15
abbrev N_count_of : List Str := ["till", "value", "held", "count"]
abbrev P_count_of : List Str := ["till", "value"]
theorem sc_count_of : FnScope N_count_of P_count_of (defScope s_count_of) := ⟨rfl, rfl, rfl, by decide +kernel, rfl, by decide +kernel, by decide +kernel⟩
abbrev s_check_sum : Stmt := topS 18
abbrev N_check_sum : List Str := ["due"]
abbrev P_check_sum : List Str := ["due"]
theorem sc_check_sum : FnScope N_check_sum P_check_sum (defScope s_check_sum) := ⟨rfl, rfl, rfl, by decide +kernel, rfl, by decide +kernel, by decide +kernel⟩
abbrev s_table : Stmt := topS 19
abbrev N_table : List Str := ["till", "most", "row", "rows", "value", "count"]
abbrev P_table : List Str := ["till", "most"]
theorem sc_table : FnScope N_table P_table (defScope s_table) := ⟨rfl, rfl, rfl, by decide +kernel, rfl, by decide +kernel, by decide +kernel⟩
abbrev s_fewest : Stmt := topS 20
abbrev N_fewest : List Str := ["till", "due", "rows", "change", "left", "at", "value", "count", "given"]
abbrev P_fewest : List Str := ["till", "due"]
theorem sc_fewest : FnScope N_fewest P_fewest (defScope s_fewest) := ⟨rfl, rfl, rfl, by decide +kernel, rfl, by decide +kernel, by decide +kernel⟩
abbrev s_with_kind : Stmt := topS 21
abbrev N_with_kind : List Str := ["row", "value", "count", "out", "usable", "size"]
abbrev P_with_kind : List Str := ["row", "value", "count"]
theorem sc_with_kind : FnScope N_with_kind P_with_kind (defScope s_with_kind) := ⟨rfl, rfl, rfl, by decide +kernel, rfl, by decide +kernel, by decide +kernel⟩
abbrev s__bundles : Stmt := topS 22
abbrev N__bundles : List Str := ["count", "sizes", "size", "taken"]
abbrev P__bundles : List Str := ["count"]
theorem sc__bundles : FnScope N__bundles P__bundles (defScope s__bundles) := ⟨rfl, rfl, rfl, by decide +kernel, rfl, by decide +kernel, by decide +kernel⟩
abbrev s__with_bundle : Stmt := topS 23
abbrev N__with_bundle : List Str := ["row", "value", "size", "out", "due", "rest"]
abbrev P__with_bundle : List Str := ["row", "value", "size"]
theorem sc__with_bundle : FnScope N__with_bundle P__with_bundle (defScope s__with_bundle) := ⟨rfl, rfl, rfl, by decide +kernel, rfl, by decide +kernel, by decide +kernel⟩
abbrev s__most_given : Stmt := topS 24
abbrev N__most_given : List Str := ["row", "due", "least", "value", "count", "given"]
abbrev P__most_given : List Str := ["row", "due", "least", "value", "count"]
theorem sc__most_given : FnScope N__most_given P__most_given (defScope s__most_given) := ⟨rfl, rfl, rfl, by decide +kernel, rfl, by decide +kernel, by decide +kernel⟩
abbrev s_paid : Stmt := topS 27
abbrev N_paid : List Str := ["till", "price", "values", "filled", "value", "over", "change", "given", "behind", "count"]
abbrev P_paid : List Str := ["till", "price", "values"]
theorem sc_paid : FnScope N_paid P_paid (defScope s_paid) := ⟨rfl, rfl, rfl, by decide +kernel, rfl, by decide +kernel, by decide +kernel⟩
abbrev s_brought : Stmt := topS 28
abbrev N_brought : List Str := ["till", "value", "count", "lies"]
abbrev P_brought : List Str := ["till", "value", "count"]
theorem sc_brought : FnScope N_brought P_brought (defScope s_brought) := ⟨rfl, rfl, rfl, by decide +kernel, rfl, by decide +kernel, by decide +kernel⟩
abbrev s__with_count : Stmt := topS 29
abbrev N__with_count : List Str := ["till", "value", "count", "held", "lies"]
abbrev P__with_count : List Str := ["till", "value", "count"]
theorem sc__with_count : FnScope N__with_count P__with_count (defScope s__with_count) := ⟨rfl, rfl, rfl, by decide +kernel, rfl, by decide +kernel, by decide +kernel⟩
abbrev s__law_cell_at : Stmt := topS 31
abbrev N__law_cell_at : List Str := ["_law_script", "_law_k"]
abbrev P__law_cell_at : List Str := ["_law_script", "_law_k"]
theorem sc__law_cell_at : FnScope N__law_cell_at P__law_cell_at (defScope s__law_cell_at) := ⟨rfl, rfl, rfl, by decide +kernel, rfl, by decide +kernel, by decide +kernel⟩
abbrev s__law_whole : Stmt := topS 32
abbrev N__law_whole : List Str := ["_law_found"]
abbrev P__law_whole : List Str := ["_law_found"]
theorem sc__law_whole : FnScope N__law_whole P__law_whole (defScope s__law_whole) := ⟨rfl, rfl, rfl, by decide +kernel, rfl, by decide +kernel, by decide +kernel⟩
abbrev s__law_mixed : Stmt := topS 33
abbrev N__law_mixed : List Str := ["_law_cell", "_law_k"]
abbrev P__law_mixed : List Str := ["_law_cell", "_law_k"]
theorem sc__law_mixed : FnScope N__law_mixed P__law_mixed (defScope s__law_mixed) := ⟨rfl, rfl, rfl, by decide +kernel, rfl, by decide +kernel, by decide +kernel⟩
abbrev s__law_value : Stmt := topS 34
abbrev N__law_value : List Str := ["_law_cell", "_law_k", "_law_drawn"]
abbrev P__law_value : List Str := ["_law_cell", "_law_k"]
theorem sc__law_value : FnScope N__law_value P__law_value (defScope s__law_value) := ⟨rfl, rfl, rfl, by decide +kernel, rfl, by decide +kernel, by decide +kernel⟩
abbrev s__law_count : Stmt := topS 35
abbrev N__law_count : List Str := ["_law_cell", "_law_k", "_law_drawn"]
abbrev P__law_count : List Str := ["_law_cell", "_law_k"]
theorem sc__law_count : FnScope N__law_count P__law_count (defScope s__law_count) := ⟨rfl, rfl, rfl, by decide +kernel, rfl, by decide +kernel, by decide +kernel⟩
abbrev s__law_pairs : Stmt := topS 36
abbrev N__law_pairs : List Str := ["_law_script", "_law_cell", "_law_many", "_law_found", "_law_seen", "_law_k", "_law_value_here"]
abbrev P__law_pairs : List Str := ["_law_script"]
theorem sc__law_pairs : FnScope N__law_pairs P__law_pairs (defScope s__law_pairs) := ⟨rfl, rfl, rfl, by decide +kernel, rfl, by decide +kernel, by decide +kernel⟩
abbrev s__law_alike : Stmt := topS 37
abbrev N__law_alike : List Str := ["_law_found", "_law_due_here", "_law_pair"]
abbrev P__law_alike : List Str := ["_law_found", "_law_due_here"]
theorem sc__law_alike : FnScope N__law_alike P__law_alike (defScope s__law_alike) := ⟨rfl, rfl, rfl, by decide +kernel, rfl, by decide +kernel, by decide +kernel⟩
abbrev s__law_least : Stmt := topS 38
abbrev N__law_least : List Str := ["_law_ahead", "_law_at", "_law_value_here", "_law_count_here", "_law_found", "_law_many", "_law_few"]
abbrev P__law_least : List Str := ["_law_ahead", "_law_at", "_law_value_here", "_law_count_here"]
theorem sc__law_least : FnScope N__law_least P__law_least (defScope s__law_least) := ⟨rfl, rfl, rfl, by decide +kernel, rfl, by decide +kernel, by decide +kernel⟩
abbrev s__law_row : Stmt := topS 39
abbrev N__law_row : List Str := ["_law_row_here", "_law_size", "_law_few"]
abbrev P__law_row : List Str := ["_law_row_here", "_law_size"]
theorem sc__law_row : FnScope N__law_row P__law_row (defScope s__law_row) := ⟨rfl, rfl, rfl, by decide +kernel, rfl, by decide +kernel, by decide +kernel⟩
abbrev s__law_walked : Stmt := topS 40
abbrev N__law_walked : List Str := ["_law_rows", "_law_till", "_law_most", "_law_k", "_law_at"]
abbrev P__law_walked : List Str := ["_law_rows", "_law_till", "_law_most"]
theorem sc__law_walked : FnScope N__law_walked P__law_walked (defScope s__law_walked) := ⟨rfl, rfl, rfl, by decide +kernel, rfl, by decide +kernel, by decide +kernel⟩
abbrev s__law_change : Stmt := topS 41
abbrev N__law_change : List Str := ["_law_found", "_law_till", "_law_due_here", "_law_left", "_law_many", "_law_last", "_law_pair", "_law_there", "_law_one"]
abbrev P__law_change : List Str := ["_law_found", "_law_till", "_law_due_here"]
theorem sc__law_change : FnScope N__law_change P__law_change (defScope s__law_change) := ⟨rfl, rfl, rfl, by decide +kernel, rfl, by decide +kernel, by decide +kernel⟩
abbrev s__law_values : Stmt := topS 42
abbrev N__law_values : List Str := ["_law_till", "_law_cell", "_law_other", "_law_many", "_law_found", "_law_k", "_law_at", "_law_strange"]
abbrev P__law_values : List Str := ["_law_till", "_law_cell", "_law_other"]
theorem sc__law_values : FnScope N__law_values P__law_values (defScope s__law_values) := ⟨rfl, rfl, rfl, by decide +kernel, rfl, by decide +kernel, by decide +kernel⟩
abbrev s__law_full : Stmt := topS 43
abbrev N__law_full : List Str := ["_law_till", "_law_values_here", "_law_found", "_law_pair"]
abbrev P__law_full : List Str := ["_law_till", "_law_values_here"]
theorem sc__law_full : FnScope N__law_full P__law_full (defScope s__law_full) := ⟨rfl, rfl, rfl, by decide +kernel, rfl, by decide +kernel, by decide +kernel⟩
abbrev s__law_due : Stmt := topS 44
abbrev N__law_due : List Str := ["_law_till", "_law_price", "_law_values_here", "_law_k", "_law_there", "_law_pair"]
abbrev P__law_due : List Str := ["_law_till", "_law_price", "_law_values_here"]
theorem sc__law_due : FnScope N__law_due P__law_due (defScope s__law_due) := ⟨rfl, rfl, rfl, by decide +kernel, rfl, by decide +kernel, by decide +kernel⟩
abbrev s__law_tried : Stmt := topS 45
abbrev N__law_tried : List Str := ["_law_till", "_law_price", "_law_values_here"]
abbrev P__law_tried : List Str := ["_law_till", "_law_price", "_law_values_here"]
theorem sc__law_tried : FnScope N__law_tried P__law_tried (defScope s__law_tried) := ⟨rfl, rfl, rfl, by decide +kernel, rfl, by decide +kernel, by decide +kernel⟩
abbrev s__law_any : Stmt := topS 46
abbrev N__law_any : List Str := ["_law_till", "_law_price", "_law_values_here", "e", "_law_kinds"]
abbrev P__law_any : List Str := ["_law_till", "_law_price", "_law_values_here"]
theorem sc__law_any : FnScope N__law_any P__law_any (defScope s__law_any) := ⟨rfl, rfl, rfl, by decide +kernel, rfl, by decide +kernel, by decide +kernel⟩
abbrev s__law_exact : Stmt := topS 47
abbrev N__law_exact : List Str := ["_law_rows", "_law_till", "_law_due_here", "_law_found", "_law_at", "_law_k", "_law_value_here", "_law_few", "_law_many"]
abbrev P__law_exact : List Str := ["_law_rows", "_law_till", "_law_due_here"]
theorem sc__law_exact : FnScope N__law_exact P__law_exact (defScope s__law_exact) := ⟨rfl, rfl, rfl, by decide +kernel, rfl, by decide +kernel, by decide +kernel⟩
abbrev s__law_given : Stmt := topS 48
abbrev N__law_given : List Str := ["_law_found", "_law_till", "_law_values_here", "_law_due_here", "_law_full_here", "_law_rows", "_law_behind", "_law_pair", "_law_given_here", "_law_one"]
abbrev P__law_given : List Str := ["_law_found", "_law_till", "_law_values_here", "_law_due_here"]
theorem sc__law_given : FnScope N__law_given P__law_given (defScope s__law_given) := ⟨rfl, rfl, rfl, by decide +kernel, rfl, by decide +kernel, by decide +kernel⟩
abbrev s__law_within : Stmt := topS 49
abbrev N__law_within : List Str := ["_law_till", "_law_most", "_law_pair"]
abbrev P__law_within : List Str := ["_law_till", "_law_most"]
theorem sc__law_within : FnScope N__law_within P__law_within (defScope s__law_within) := ⟨rfl, rfl, rfl, by decide +kernel, rfl, by decide +kernel, by decide +kernel⟩
abbrev s__law_near : Stmt := topS 50
abbrev N__law_near : List Str := ["_law_till", "_law_values_here", "_law_price", "_law_left"]
abbrev P__law_near : List Str := ["_law_till", "_law_values_here", "_law_price"]
theorem sc__law_near : FnScope N__law_near P__law_near (defScope s__law_near) := ⟨rfl, rfl, rfl, by decide +kernel, rfl, by decide +kernel, by decide +kernel⟩
abbrev s_law : Stmt := topS 51
abbrev N_law : List Str := ["_law_script", "_law_till", "_law_values_here", "_law_cell", "_law_price", "_law_far", "_law_at", "_law_handed", "_law_due_here", "_law_found", "_law_full_here", "_law_rows", "_law_kept", "_law_again"]
abbrev P_law : List Str := ["_law_script"]
theorem sc_law : FnScope N_law P_law (defScope s_law) := ⟨rfl, rfl, rfl, by decide +kernel, rfl, by decide +kernel, by decide +kernel⟩
/-- what the top has written -/
structure Tx (K : PySem.W.Frag) (mg : Str → Option Value) : Type where
  c_TillError : Addr
  c_NoTill : Addr
  c_NoKind : Addr
  c_Twice : Addr
  c_NoCount : Addr
  c_NoSum : Addr
  c_TooLittle : Addr
  c_NoChange : Addr
  c_TooFew : Addr
  c_StillHeld : Addr
  c_NoDeed : Addr
  a_check_count : Addr
  d_check_count : FuncData
  a_count_of : Addr
  d_count_of : FuncData
  a_check_sum : Addr
  d_check_sum : FuncData
  a_table : Addr
  d_table : FuncData
  a_fewest : Addr
  d_fewest : FuncData
  a_with_kind : Addr
  d_with_kind : FuncData
  a__bundles : Addr
  d__bundles : FuncData
  a__with_bundle : Addr
  d__with_bundle : FuncData
  a__most_given : Addr
  d__most_given : FuncData
  a_paid : Addr
  d_paid : FuncData
  a_brought : Addr
  d_brought : FuncData
  a__with_count : Addr
  d__with_count : FuncData
  a__law_cell_at : Addr
  d__law_cell_at : FuncData
  a__law_whole : Addr
  d__law_whole : FuncData
  a__law_mixed : Addr
  d__law_mixed : FuncData
  a__law_value : Addr
  d__law_value : FuncData
  a__law_count : Addr
  d__law_count : FuncData
  a__law_pairs : Addr
  d__law_pairs : FuncData
  a__law_alike : Addr
  d__law_alike : FuncData
  a__law_least : Addr
  d__law_least : FuncData
  a__law_row : Addr
  d__law_row : FuncData
  a__law_walked : Addr
  d__law_walked : FuncData
  a__law_change : Addr
  d__law_change : FuncData
  a__law_values : Addr
  d__law_values : FuncData
  a__law_full : Addr
  d__law_full : FuncData
  a__law_due : Addr
  d__law_due : FuncData
  a__law_tried : Addr
  d__law_tried : FuncData
  a__law_any : Addr
  d__law_any : FuncData
  a__law_exact : Addr
  d__law_exact : FuncData
  a__law_given : Addr
  d__law_given : FuncData
  a__law_within : Addr
  d__law_within : FuncData
  a__law_near : Addr
  d__law_near : FuncData
  a_law : Addr
  d_law : FuncData
  g_TillError : mg "TillError" = some (.ref c_TillError)
  x_TillError : PySem.W.excIn K c_TillError [.type "ValueError", .type "Exception", .type "BaseException", .type "object"] "ValueError.__new__" = true
  k_TillError : PySem.W.keepIn K (.ref c_TillError) = true
  b_TillError : PySem.W.subIn K (.ref c_TillError) (.type "BaseException") = some true
  t_TillError : PySem.W.typeIn K (.ref c_TillError) = some (.type "type")
  i_TillError : PySem.W.isClsIn K c_TillError = true
  g_NoTill : mg "NoTill" = some (.ref c_NoTill)
  x_NoTill : PySem.W.excIn K c_NoTill [.type "ValueError", .type "Exception", .type "BaseException", .type "object"] "ValueError.__new__" = true
  k_NoTill : PySem.W.keepIn K (.ref c_NoTill) = true
  b_NoTill : PySem.W.subIn K (.ref c_NoTill) (.type "BaseException") = some true
  t_NoTill : PySem.W.typeIn K (.ref c_NoTill) = some (.type "type")
  i_NoTill : PySem.W.isClsIn K c_NoTill = true
  g_NoKind : mg "NoKind" = some (.ref c_NoKind)
  x_NoKind : PySem.W.excIn K c_NoKind [.type "ValueError", .type "Exception", .type "BaseException", .type "object"] "ValueError.__new__" = true
  k_NoKind : PySem.W.keepIn K (.ref c_NoKind) = true
  b_NoKind : PySem.W.subIn K (.ref c_NoKind) (.type "BaseException") = some true
  t_NoKind : PySem.W.typeIn K (.ref c_NoKind) = some (.type "type")
  i_NoKind : PySem.W.isClsIn K c_NoKind = true
  g_Twice : mg "Twice" = some (.ref c_Twice)
  x_Twice : PySem.W.excIn K c_Twice [.type "ValueError", .type "Exception", .type "BaseException", .type "object"] "ValueError.__new__" = true
  k_Twice : PySem.W.keepIn K (.ref c_Twice) = true
  b_Twice : PySem.W.subIn K (.ref c_Twice) (.type "BaseException") = some true
  t_Twice : PySem.W.typeIn K (.ref c_Twice) = some (.type "type")
  i_Twice : PySem.W.isClsIn K c_Twice = true
  g_NoCount : mg "NoCount" = some (.ref c_NoCount)
  x_NoCount : PySem.W.excIn K c_NoCount [.type "ValueError", .type "Exception", .type "BaseException", .type "object"] "ValueError.__new__" = true
  k_NoCount : PySem.W.keepIn K (.ref c_NoCount) = true
  b_NoCount : PySem.W.subIn K (.ref c_NoCount) (.type "BaseException") = some true
  t_NoCount : PySem.W.typeIn K (.ref c_NoCount) = some (.type "type")
  i_NoCount : PySem.W.isClsIn K c_NoCount = true
  g_NoSum : mg "NoSum" = some (.ref c_NoSum)
  x_NoSum : PySem.W.excIn K c_NoSum [.type "ValueError", .type "Exception", .type "BaseException", .type "object"] "ValueError.__new__" = true
  k_NoSum : PySem.W.keepIn K (.ref c_NoSum) = true
  b_NoSum : PySem.W.subIn K (.ref c_NoSum) (.type "BaseException") = some true
  t_NoSum : PySem.W.typeIn K (.ref c_NoSum) = some (.type "type")
  i_NoSum : PySem.W.isClsIn K c_NoSum = true
  g_TooLittle : mg "TooLittle" = some (.ref c_TooLittle)
  x_TooLittle : PySem.W.excIn K c_TooLittle [.type "ValueError", .type "Exception", .type "BaseException", .type "object"] "ValueError.__new__" = true
  k_TooLittle : PySem.W.keepIn K (.ref c_TooLittle) = true
  b_TooLittle : PySem.W.subIn K (.ref c_TooLittle) (.type "BaseException") = some true
  t_TooLittle : PySem.W.typeIn K (.ref c_TooLittle) = some (.type "type")
  i_TooLittle : PySem.W.isClsIn K c_TooLittle = true
  g_NoChange : mg "NoChange" = some (.ref c_NoChange)
  x_NoChange : PySem.W.excIn K c_NoChange [.type "ValueError", .type "Exception", .type "BaseException", .type "object"] "ValueError.__new__" = true
  k_NoChange : PySem.W.keepIn K (.ref c_NoChange) = true
  b_NoChange : PySem.W.subIn K (.ref c_NoChange) (.type "BaseException") = some true
  t_NoChange : PySem.W.typeIn K (.ref c_NoChange) = some (.type "type")
  i_NoChange : PySem.W.isClsIn K c_NoChange = true
  g_TooFew : mg "TooFew" = some (.ref c_TooFew)
  x_TooFew : PySem.W.excIn K c_TooFew [.type "ValueError", .type "Exception", .type "BaseException", .type "object"] "ValueError.__new__" = true
  k_TooFew : PySem.W.keepIn K (.ref c_TooFew) = true
  b_TooFew : PySem.W.subIn K (.ref c_TooFew) (.type "BaseException") = some true
  t_TooFew : PySem.W.typeIn K (.ref c_TooFew) = some (.type "type")
  i_TooFew : PySem.W.isClsIn K c_TooFew = true
  g_StillHeld : mg "StillHeld" = some (.ref c_StillHeld)
  x_StillHeld : PySem.W.excIn K c_StillHeld [.type "ValueError", .type "Exception", .type "BaseException", .type "object"] "ValueError.__new__" = true
  k_StillHeld : PySem.W.keepIn K (.ref c_StillHeld) = true
  b_StillHeld : PySem.W.subIn K (.ref c_StillHeld) (.type "BaseException") = some true
  t_StillHeld : PySem.W.typeIn K (.ref c_StillHeld) = some (.type "type")
  i_StillHeld : PySem.W.isClsIn K c_StillHeld = true
  g_NoDeed : mg "NoDeed" = some (.ref c_NoDeed)
  x_NoDeed : PySem.W.excIn K c_NoDeed [.type "ValueError", .type "Exception", .type "BaseException", .type "object"] "ValueError.__new__" = true
  k_NoDeed : PySem.W.keepIn K (.ref c_NoDeed) = true
  b_NoDeed : PySem.W.subIn K (.ref c_NoDeed) (.type "BaseException") = some true
  t_NoDeed : PySem.W.typeIn K (.ref c_NoDeed) = some (.type "type")
  i_NoDeed : PySem.W.isClsIn K c_NoDeed = true
  u_NoCount_NoSum : PySem.W.subIn K (.ref c_NoCount) (.ref c_NoSum) = some false
  u_NoCount_NoCount : PySem.W.subIn K (.ref c_NoCount) (.ref c_NoCount) = some true
  u_NoCount_NoKind : PySem.W.subIn K (.ref c_NoCount) (.ref c_NoKind) = some false
  u_NoCount_TooLittle : PySem.W.subIn K (.ref c_NoCount) (.ref c_TooLittle) = some false
  u_NoCount_NoChange : PySem.W.subIn K (.ref c_NoCount) (.ref c_NoChange) = some false
  u_NoCount_TillError : PySem.W.subIn K (.ref c_NoCount) (.ref c_TillError) = some true
  u_NoCount_NoDeed : PySem.W.subIn K (.ref c_NoCount) (.ref c_NoDeed) = some false
  u_NoCount_NoTill : PySem.W.subIn K (.ref c_NoCount) (.ref c_NoTill) = some false
  u_NoCount_StillHeld : PySem.W.subIn K (.ref c_NoCount) (.ref c_StillHeld) = some false
  u_NoCount_TooFew : PySem.W.subIn K (.ref c_NoCount) (.ref c_TooFew) = some false
  u_NoCount_Twice : PySem.W.subIn K (.ref c_NoCount) (.ref c_Twice) = some false
  u_NoKind_NoSum : PySem.W.subIn K (.ref c_NoKind) (.ref c_NoSum) = some false
  u_NoKind_NoCount : PySem.W.subIn K (.ref c_NoKind) (.ref c_NoCount) = some false
  u_NoKind_NoKind : PySem.W.subIn K (.ref c_NoKind) (.ref c_NoKind) = some true
  u_NoKind_TooLittle : PySem.W.subIn K (.ref c_NoKind) (.ref c_TooLittle) = some false
  u_NoKind_NoChange : PySem.W.subIn K (.ref c_NoKind) (.ref c_NoChange) = some false
  u_NoKind_TillError : PySem.W.subIn K (.ref c_NoKind) (.ref c_TillError) = some true
  u_NoKind_NoDeed : PySem.W.subIn K (.ref c_NoKind) (.ref c_NoDeed) = some false
  u_NoKind_NoTill : PySem.W.subIn K (.ref c_NoKind) (.ref c_NoTill) = some false
  u_NoKind_StillHeld : PySem.W.subIn K (.ref c_NoKind) (.ref c_StillHeld) = some false
  u_NoKind_TooFew : PySem.W.subIn K (.ref c_NoKind) (.ref c_TooFew) = some false
  u_NoKind_Twice : PySem.W.subIn K (.ref c_NoKind) (.ref c_Twice) = some false
  u_NoSum_NoSum : PySem.W.subIn K (.ref c_NoSum) (.ref c_NoSum) = some true
  u_NoSum_NoCount : PySem.W.subIn K (.ref c_NoSum) (.ref c_NoCount) = some false
  u_NoSum_NoKind : PySem.W.subIn K (.ref c_NoSum) (.ref c_NoKind) = some false
  u_NoSum_TooLittle : PySem.W.subIn K (.ref c_NoSum) (.ref c_TooLittle) = some false
  u_NoSum_NoChange : PySem.W.subIn K (.ref c_NoSum) (.ref c_NoChange) = some false
  u_NoSum_TillError : PySem.W.subIn K (.ref c_NoSum) (.ref c_TillError) = some true
  u_NoSum_NoDeed : PySem.W.subIn K (.ref c_NoSum) (.ref c_NoDeed) = some false
  u_NoSum_NoTill : PySem.W.subIn K (.ref c_NoSum) (.ref c_NoTill) = some false
  u_NoSum_StillHeld : PySem.W.subIn K (.ref c_NoSum) (.ref c_StillHeld) = some false
  u_NoSum_TooFew : PySem.W.subIn K (.ref c_NoSum) (.ref c_TooFew) = some false
  u_NoSum_Twice : PySem.W.subIn K (.ref c_NoSum) (.ref c_Twice) = some false
  u_NoChange_NoSum : PySem.W.subIn K (.ref c_NoChange) (.ref c_NoSum) = some false
  u_NoChange_NoCount : PySem.W.subIn K (.ref c_NoChange) (.ref c_NoCount) = some false
  u_NoChange_NoKind : PySem.W.subIn K (.ref c_NoChange) (.ref c_NoKind) = some false
  u_NoChange_TooLittle : PySem.W.subIn K (.ref c_NoChange) (.ref c_TooLittle) = some false
  u_NoChange_NoChange : PySem.W.subIn K (.ref c_NoChange) (.ref c_NoChange) = some true
  u_NoChange_TillError : PySem.W.subIn K (.ref c_NoChange) (.ref c_TillError) = some true
  u_NoChange_NoDeed : PySem.W.subIn K (.ref c_NoChange) (.ref c_NoDeed) = some false
  u_NoChange_NoTill : PySem.W.subIn K (.ref c_NoChange) (.ref c_NoTill) = some false
  u_NoChange_StillHeld : PySem.W.subIn K (.ref c_NoChange) (.ref c_StillHeld) = some false
  u_NoChange_TooFew : PySem.W.subIn K (.ref c_NoChange) (.ref c_TooFew) = some false
  u_NoChange_Twice : PySem.W.subIn K (.ref c_NoChange) (.ref c_Twice) = some false
  u_TooLittle_NoSum : PySem.W.subIn K (.ref c_TooLittle) (.ref c_NoSum) = some false
  u_TooLittle_NoCount : PySem.W.subIn K (.ref c_TooLittle) (.ref c_NoCount) = some false
  u_TooLittle_NoKind : PySem.W.subIn K (.ref c_TooLittle) (.ref c_NoKind) = some false
  u_TooLittle_TooLittle : PySem.W.subIn K (.ref c_TooLittle) (.ref c_TooLittle) = some true
  u_TooLittle_NoChange : PySem.W.subIn K (.ref c_TooLittle) (.ref c_NoChange) = some false
  u_TooLittle_TillError : PySem.W.subIn K (.ref c_TooLittle) (.ref c_TillError) = some true
  u_TooLittle_NoDeed : PySem.W.subIn K (.ref c_TooLittle) (.ref c_NoDeed) = some false
  u_TooLittle_NoTill : PySem.W.subIn K (.ref c_TooLittle) (.ref c_NoTill) = some false
  u_TooLittle_StillHeld : PySem.W.subIn K (.ref c_TooLittle) (.ref c_StillHeld) = some false
  u_TooLittle_TooFew : PySem.W.subIn K (.ref c_TooLittle) (.ref c_TooFew) = some false
  u_TooLittle_Twice : PySem.W.subIn K (.ref c_TooLittle) (.ref c_Twice) = some false
  e_NoCount : ExcC K c_NoCount
  z_NoCount : PySem.W.kitOne K (.ref c_NoCount) (.type "ValueError") = some true
  y_NoCount : PySem.W.kitAny K (.ref c_NoCount) [.ref c_NoDeed, .ref c_NoTill, .ref c_StillHeld, .ref c_TooFew, .ref c_Twice] = some false
  e_NoKind : ExcC K c_NoKind
  z_NoKind : PySem.W.kitOne K (.ref c_NoKind) (.type "ValueError") = some true
  y_NoKind : PySem.W.kitAny K (.ref c_NoKind) [.ref c_NoDeed, .ref c_NoTill, .ref c_StillHeld, .ref c_TooFew, .ref c_Twice] = some false
  e_NoSum : ExcC K c_NoSum
  z_NoSum : PySem.W.kitOne K (.ref c_NoSum) (.type "ValueError") = some true
  y_NoSum : PySem.W.kitAny K (.ref c_NoSum) [.ref c_NoDeed, .ref c_NoTill, .ref c_StillHeld, .ref c_TooFew, .ref c_Twice] = some false
  e_NoChange : ExcC K c_NoChange
  z_NoChange : PySem.W.kitOne K (.ref c_NoChange) (.type "ValueError") = some true
  y_NoChange : PySem.W.kitAny K (.ref c_NoChange) [.ref c_NoDeed, .ref c_NoTill, .ref c_StillHeld, .ref c_TooFew, .ref c_Twice] = some false
  e_TooLittle : ExcC K c_TooLittle
  z_TooLittle : PySem.W.kitOne K (.ref c_TooLittle) (.type "ValueError") = some true
  y_TooLittle : PySem.W.kitAny K (.ref c_TooLittle) [.ref c_NoDeed, .ref c_NoTill, .ref c_StillHeld, .ref c_TooFew, .ref c_Twice] = some false
  f_check_count : Fun K "check_count" "check_count" s_check_count a_check_count d_check_count
  p_check_count : Binds K d_check_count P_check_count []
  g_check_count : mg "check_count" = some (.ref a_check_count)
  f_count_of : Fun K "count_of" "count_of" s_count_of a_count_of d_count_of
  p_count_of : Binds K d_count_of P_count_of []
  g_count_of : mg "count_of" = some (.ref a_count_of)
  f_check_sum : Fun K "check_sum" "check_sum" s_check_sum a_check_sum d_check_sum
  p_check_sum : Binds K d_check_sum P_check_sum []
  g_check_sum : mg "check_sum" = some (.ref a_check_sum)
  f_table : Fun K "table" "table" s_table a_table d_table
  p_table : Binds K d_table P_table []
  g_table : mg "table" = some (.ref a_table)
  f_fewest : Fun K "fewest" "fewest" s_fewest a_fewest d_fewest
  p_fewest : Binds K d_fewest P_fewest []
  g_fewest : mg "fewest" = some (.ref a_fewest)
  f_with_kind : Fun K "with_kind" "with_kind" s_with_kind a_with_kind d_with_kind
  p_with_kind : Binds K d_with_kind P_with_kind []
  g_with_kind : mg "with_kind" = some (.ref a_with_kind)
  f__bundles : Fun K "_bundles" "_bundles" s__bundles a__bundles d__bundles
  p__bundles : Binds K d__bundles P__bundles []
  g__bundles : mg "_bundles" = some (.ref a__bundles)
  f__with_bundle : Fun K "_with_bundle" "_with_bundle" s__with_bundle a__with_bundle d__with_bundle
  p__with_bundle : Binds K d__with_bundle P__with_bundle []
  g__with_bundle : mg "_with_bundle" = some (.ref a__with_bundle)
  f__most_given : Fun K "_most_given" "_most_given" s__most_given a__most_given d__most_given
  p__most_given : Binds K d__most_given P__most_given []
  g__most_given : mg "_most_given" = some (.ref a__most_given)
  f_paid : Fun K "paid" "paid" s_paid a_paid d_paid
  p_paid : Binds K d_paid P_paid []
  g_paid : mg "paid" = some (.ref a_paid)
  f_brought : Fun K "brought" "brought" s_brought a_brought d_brought
  p_brought : Binds K d_brought P_brought []
  g_brought : mg "brought" = some (.ref a_brought)
  f__with_count : Fun K "_with_count" "_with_count" s__with_count a__with_count d__with_count
  p__with_count : Binds K d__with_count P__with_count []
  g__with_count : mg "_with_count" = some (.ref a__with_count)
  f__law_cell_at : Fun K "_law_cell_at" "_law_cell_at" s__law_cell_at a__law_cell_at d__law_cell_at
  p__law_cell_at : Binds K d__law_cell_at P__law_cell_at []
  g__law_cell_at : mg "_law_cell_at" = some (.ref a__law_cell_at)
  f__law_whole : Fun K "_law_whole" "_law_whole" s__law_whole a__law_whole d__law_whole
  p__law_whole : Binds K d__law_whole P__law_whole []
  g__law_whole : mg "_law_whole" = some (.ref a__law_whole)
  f__law_mixed : Fun K "_law_mixed" "_law_mixed" s__law_mixed a__law_mixed d__law_mixed
  p__law_mixed : Binds K d__law_mixed P__law_mixed []
  g__law_mixed : mg "_law_mixed" = some (.ref a__law_mixed)
  f__law_value : Fun K "_law_value" "_law_value" s__law_value a__law_value d__law_value
  p__law_value : Binds K d__law_value P__law_value []
  g__law_value : mg "_law_value" = some (.ref a__law_value)
  f__law_count : Fun K "_law_count" "_law_count" s__law_count a__law_count d__law_count
  p__law_count : Binds K d__law_count P__law_count []
  g__law_count : mg "_law_count" = some (.ref a__law_count)
  f__law_pairs : Fun K "_law_pairs" "_law_pairs" s__law_pairs a__law_pairs d__law_pairs
  p__law_pairs : Binds K d__law_pairs P__law_pairs []
  g__law_pairs : mg "_law_pairs" = some (.ref a__law_pairs)
  f__law_alike : Fun K "_law_alike" "_law_alike" s__law_alike a__law_alike d__law_alike
  p__law_alike : Binds K d__law_alike P__law_alike []
  g__law_alike : mg "_law_alike" = some (.ref a__law_alike)
  f__law_least : Fun K "_law_least" "_law_least" s__law_least a__law_least d__law_least
  p__law_least : Binds K d__law_least P__law_least []
  g__law_least : mg "_law_least" = some (.ref a__law_least)
  f__law_row : Fun K "_law_row" "_law_row" s__law_row a__law_row d__law_row
  p__law_row : Binds K d__law_row P__law_row []
  g__law_row : mg "_law_row" = some (.ref a__law_row)
  f__law_walked : Fun K "_law_walked" "_law_walked" s__law_walked a__law_walked d__law_walked
  p__law_walked : Binds K d__law_walked P__law_walked []
  g__law_walked : mg "_law_walked" = some (.ref a__law_walked)
  f__law_change : Fun K "_law_change" "_law_change" s__law_change a__law_change d__law_change
  p__law_change : Binds K d__law_change P__law_change []
  g__law_change : mg "_law_change" = some (.ref a__law_change)
  f__law_values : Fun K "_law_values" "_law_values" s__law_values a__law_values d__law_values
  p__law_values : Binds K d__law_values P__law_values []
  g__law_values : mg "_law_values" = some (.ref a__law_values)
  f__law_full : Fun K "_law_full" "_law_full" s__law_full a__law_full d__law_full
  p__law_full : Binds K d__law_full P__law_full []
  g__law_full : mg "_law_full" = some (.ref a__law_full)
  f__law_due : Fun K "_law_due" "_law_due" s__law_due a__law_due d__law_due
  p__law_due : Binds K d__law_due P__law_due []
  g__law_due : mg "_law_due" = some (.ref a__law_due)
  f__law_tried : Fun K "_law_tried" "_law_tried" s__law_tried a__law_tried d__law_tried
  p__law_tried : Binds K d__law_tried P__law_tried []
  g__law_tried : mg "_law_tried" = some (.ref a__law_tried)
  f__law_any : Fun K "_law_any" "_law_any" s__law_any a__law_any d__law_any
  p__law_any : Binds K d__law_any P__law_any []
  g__law_any : mg "_law_any" = some (.ref a__law_any)
  f__law_exact : Fun K "_law_exact" "_law_exact" s__law_exact a__law_exact d__law_exact
  p__law_exact : Binds K d__law_exact P__law_exact []
  g__law_exact : mg "_law_exact" = some (.ref a__law_exact)
  f__law_given : Fun K "_law_given" "_law_given" s__law_given a__law_given d__law_given
  p__law_given : Binds K d__law_given P__law_given []
  g__law_given : mg "_law_given" = some (.ref a__law_given)
  f__law_within : Fun K "_law_within" "_law_within" s__law_within a__law_within d__law_within
  p__law_within : Binds K d__law_within P__law_within []
  g__law_within : mg "_law_within" = some (.ref a__law_within)
  f__law_near : Fun K "_law_near" "_law_near" s__law_near a__law_near d__law_near
  p__law_near : Binds K d__law_near P__law_near []
  g__law_near : mg "_law_near" = some (.ref a__law_near)
  f_law : Fun K "law" "law" s_law a_law d_law
  p_law : Binds K d_law P_law []
  g_law : mg "law" = some (.ref a_law)
  w_MOST_COUNT : ∃ t, mg "MOST_COUNT" = some (.int 1000000000 t)
  w_MOST_SUM : ∃ t, mg "MOST_SUM" = some (.int 1000 t)
  w_MOST_PAID : ∃ t, mg "MOST_PAID" = some (.int 60 t)
  m_ValueError : mg "ValueError" = none
  m_bool : mg "bool" = none
  m_dict : mg "dict" = none
  m_int : mg "int" = none
  m_isinstance : mg "isinstance" = none
  m_len : mg "len" = none
  m_list : mg "list" = none
  m_max : mg "max" = none
  m_min : mg "min" = none
  m_range : mg "range" = none
  m_reversed : mg "reversed" = none
  m_sorted : mg "sorted" = none
  m_sum : mg "sum" = none
  m_tuple : mg "tuple" = none
section
variable {P : Program} {w : World} {K : PySem.W.Frag} {mg : Str → Option Value} {base : Heap}
/-! ### small things over the layer -/
abbrev CXR (P : Program) (w : World) : CXT := L2.CX P w
abbrev Ex := Evl.Ex
theorem Ex.rfl' {H : Hp} : Ex H H := fun _ _ h => h
theorem Ex.tr {H H1 H2 : Hp} (a : Ex H H1) (b : Ex H1 H2) : Ex H H2 := Evl.Ex.trans a b
theorem Ex.nw {H : Hp} {p : Addr} {o : HO} (h : H p = none) : Ex H (upd H p o) := Evl.Ex.new h
theorem Ex.seq {K : PySem.W.Frag} {H H' : Hp} {a : Addr} {xs : List V} (e : Ex H H') (h : SqL K H a xs) : SqL K H' a xs := Evl.ex_l e h
theorem ipR {X : Cx} {op : Operator} {r : R2} (ho : OpR X (inplaceOp op) r) : PIp X op r := fun pins s σ H x y v u Q I rx ry h => ho pins s σ H x y v u Q I rx ry h
theorem ip_mulR {X : Cx} : PIp X .Mult (rI CMul fun i j => .int (i * j)) := ipR iop_mul
/-- isinstance of the caught error: a class, a tuple of classes just laid; the error's class is told in the reading -/
def rIsE1 (K : PySem.W.Frag) (cls : Value) (d : Option Addr) (a : Addr) : List V → Hp → VK → Prop := fun xs H Q => ∃ (D : Addr) (c : V) (cv : Value) (b : Bool), cls = .ref D ∧ d = none ∧ ExcC K D ∧ xs = [.ref a, c] ∧ (∀ u, RelV c u → u = cv) ∧ PySem.W.kitOne K (.ref D) cv = some b ∧ Q (.bl b) H
theorem call_isE1 {X : Cx} {a : Addr} {cls : Value} {d : Option Addr} {oe : Obj} {pn : List (Addr × Obj)} (hz : Zc cls d oe) (hf : ∃ vs, oe.data = .fields vs) : CallR (X.suite a ((a, oe) :: pn)) (.builtin "isinstance") (rIsE1 X.K cls d a) := by
  intro pins s σ H xs us Q I r h
  obtain ⟨D, c, cv, b, rfl, rfl, C, rfl, hcv, e, q⟩ := h
  exact call_isE C hz hf pins s σ H _ us Q I r ⟨c, cv, b, rfl, hcv, e, q⟩
def rIsET (K : PySem.W.Frag) (cls : Value) (d : Option Addr) (a : Addr) : List V → Hp → VK → Prop := fun xs H Q => ∃ (D tp : Addr) (cs : List V) (us : List Value) (b : Bool), cls = .ref D ∧ d = none ∧ ExcC K D ∧ xs = [.ref a, .ref tp] ∧ H tp = some (.tup cs) ∧ Paired ClsV cs us ∧ PySem.W.kitAny K (.ref D) us = some b ∧ Q (.bl b) H
theorem call_isET {X : Cx} {a : Addr} {cls : Value} {d : Option Addr} {oe : Obj} {pn : List (Addr × Obj)} (hz : Zc cls d oe) (hf : ∃ fs, oe.data = .fields fs) : CallR (X.suite a ((a, oe) :: pn)) (.builtin "isinstance") (rIsET X.K cls d a) := by
  intro pins s σ H xs us Q I r h
  obtain ⟨D, tp, cs, ws, b, rfl, rfl, C, rfl, hT, k, e, q⟩ := h
  obtain ⟨w1, w2, rfl, p1, p2⟩ := vals2 r
  cases (show w2 = Value.ref tp from p2)
  cases (show w1 = Value.ref a from p1)
  obtain ⟨hgt, _⟩ := I.pin (a, oe) (List.mem_append.mpr (.inl List.mem_cons_self))
  obtain ⟨fs, hv⟩ := hf
  have J : PySem.W.InstAt s.heap a oe D none := by
    obtain ⟨oc, od, odt, oss⟩ := oe
    obtain ⟨k1, k2⟩ := hz
    dsimp only at k1 k2 hv
    subst k1 k2 hv
    exact ⟨hgt, rfl, rfl, trivial⟩
  obtain ⟨_, zs, rv, o, k1, k2, n, k3⟩ := (show ObjOk X.prog X.w H s.heap tp (.tup cs) from I.hok tp _ hT)
  have e3 := ClsV.all k rv
  subst e3
  obtain ⟨oc, od, dt, sl⟩ := o
  simp only at k2 k3
  subst k2 k3
  exact PySem.W.kia_tup (PySem.W.handS_kitx_exc C.hg C.hk C.hs C.hd C.ha C.hn C.ht C.hm) I.kIn J k1 e (fun z => nomatch z) fun tk => ⟨.bl b, H, I.tok tk, rfl, q⟩
/-- len, list(x), told by a K that is named -/
abbrev rLenK (K : PySem.W.Frag) : List V → Hp → VK → Prop := fun zs H Q => ∃ p ys, zs = [.ref p] ∧ (SqL K H p ys ∨ SqT K H p ys) ∧ Q (.int ys.length) H
abbrev rListK (K : PySem.W.Frag) : List V → Hp → VK → Prop := fun zs H Q => ∃ p ys, zs = [.ref p] ∧ (SqL K H p ys ∨ SqT K H p ys) ∧ ∀ l, H l = none → Q (.ref l) (upd H l (.lst ys))
/-- pairs of ints, each a tracked tuple -/
def Prs (H : Hp) : List V → List (Int × Int) → Prop := Paired fun x p => ∃ t, x = .ref t ∧ H t = some (.tup [.int p.1, .int p.2])
theorem Prs.ex {H H' : Hp} (e : Ex H H') : ∀ {xs : List V} {ps : List (Int × Int)}, Prs H xs ps → Prs H' xs ps
  | _, _, .nil => .nil
  | _, _, .cons ⟨t, h1, h2⟩ r => .cons ⟨t, h1, e _ _ h2⟩ (Prs.ex e r)
theorem Prs.len {H : Hp} {xs : List V} {ps : List (Int × Int)} (h : Prs H xs ps) : xs.length = ps.length := Paired.length h
theorem Prs.snoc {H : Hp} : ∀ {xs : List V} {ps : List (Int × Int)} {x : V} {p : Int × Int}, Prs H xs ps → (∃ t, x = .ref t ∧ H t = some (.tup [.int p.1, .int p.2])) → Prs H (xs ++ [x]) (ps ++ [p])
  | _, _, _, _, .nil, h => .cons h .nil
  | _, _, _, _, .cons a r, h => .cons a (Prs.snoc r h)
theorem Prs.get {H : Hp} : ∀ {xs : List V} {ps : List (Int × Int)} {i : Nat} {x : V}, Prs H xs ps → xs[i]? = some x → ∃ p t, ps[i]? = some p ∧ x = .ref t ∧ H t = some (.tup [.int p.1, .int p.2])
  | _, _, _, _, .nil, e => by simp at e
  | _, _, 0, _, .cons (b := p) ⟨t, h1, h2⟩ _, e => by simp at e; subst e; exact ⟨p, t, by simp, h1, h2⟩
  | _, _, i + 1, x, .cons _ r, e => by
    obtain ⟨p, t, h1, h2⟩ := Prs.get (i := i) (x := x) r (by simpa using e)
    exact ⟨p, t, by simpa using h1, h2⟩
theorem Prs.getL {H : Hp} : ∀ {xs : List V} {ps : List (Int × Int)} {i : Nat} {p : Int × Int}, Prs H xs ps → ps[i]? = some p → ∃ t, xs[i]? = some (.ref t) ∧ H t = some (.tup [.int p.1, .int p.2])
  | _, _, _, _, .nil, e => by simp at e
  | _, _, 0, _, .cons ⟨t, h1, h2⟩ _, e => by simp at e; subst e; exact ⟨t, by simpa using h1, h2⟩
  | _, _, i + 1, p, .cons _ r, e => by
    obtain ⟨t, h1, h2⟩ := Prs.getL (i := i) (p := p) r (by simpa using e)
    exact ⟨t, by simpa using h1, h2⟩
/-- a till (or purse): a list of such pairs -/
def Till (K : PySem.W.Frag) (H : Hp) (a : Addr) (ps : List (Int × Int)) : Prop := ∃ xs, SqL K H a xs ∧ Prs H xs ps
theorem Till.ex {K : PySem.W.Frag} {H H' : Hp} {a : Addr} {ps : List (Int × Int)} (e : Ex H H') (h : Till K H a ps) : Till K H' a ps :=
  let ⟨xs, h1, h2⟩ := h; ⟨xs, Ex.seq e h1, h2.ex e⟩
/-- what a def that gives no new list answers -/
def Ret (v : V) (H : Hp) (Q : VK) : Prop := ∀ H2, Ex H H2 → Q v H2
theorem Ret.at {v : V} {H H' : Hp} {Q : VK} (k : Ret v H Q) (e : Ex H H') : Q v H' := k H' e
theorem len63 {n : Nat} (h : n ≤ 1000000) : n ≤ sizeLine := Nat.le_trans h (by decide)
theorem len63' {n : Nat} (h : n < 1000000) : n < sizeLine := Nat.lt_of_lt_of_le h (by decide)
theorem iteD {c A B : Prop} [Decidable c] (h1 : c → A) (h2 : ¬ c → B) : if decide c = true then A else B := by
  by_cases h : c
  · rw [if_pos (decide_eq_true h)]; exact h1 h
  · rw [if_neg (by simpa using h)]; exact h2 h
theorem iteDN {c A B : Prop} [Decidable c] (h1 : ¬ c → A) (h2 : c → B) : if (!decide c) = true then A else B := by
  by_cases h : c
  · rw [if_neg (by simpa using h)]; exact h2 h
  · rw [if_pos (by simpa using h)]; exact h1 h
theorem iteVI {i j : Int} {A B : Prop} (h1 : i = j → A) (h2 : ¬ i = j → B) : if decide (V.int i = V.int j) = true then A else B :=
  iteD (fun e => h1 (V.int.inj e)) fun e => h2 fun z => e (congrArg V.int z)
theorem iteVN {i j : Int} {A B : Prop} (h1 : ¬ i = j → A) (h2 : i = j → B) : if (!decide (V.int i = V.int j)) = true then A else B :=
  iteDN (fun e => h1 fun z => e (congrArg V.int z)) fun e => h2 (V.int.inj e)
theorem iteB {b : Bool} {A B : Prop} (h1 : b = true → A) (h2 : b = false → B) : if b = true then A else B := by
  cases b with
  | true => exact iteT (h1 rfl)
  | false => exact iteF (h2 rfl)
/-- what «except D» says of an error of the class C -/
theorem exm_mk {K : PySem.W.Frag} {C D : Addr} {b : Bool} (h1 : PySem.W.subIn K (.ref D) (.type "BaseException") = some true) (h2 : PySem.W.isClsIn K D = true) (h3 : PySem.W.typeIn K (.ref D) = some (.type "type")) (h4 : PySem.W.subIn K (.ref C) (.ref D) = some b) :
    PySem.W.exmOne K (.ref C) (.ref D) = some b := by
  have e1 : (PySem.W.subIn K (.ref D) (.type "BaseException") == some true) = true := by rw [h1] <;> rfl
  have e2 : ((PySem.W.clsIn K D).isSome && PySem.W.typeIn K (.ref D) == some (.type "type")) = true := by
    have h2' : (PySem.W.clsIn K D).isSome = true := h2
    rw [h2', h3] <;> rfl
  show (if (PySem.W.subIn K (.ref D) (.type "BaseException") == some true) = true then (if ((PySem.W.clsIn K D).isSome && PySem.W.typeIn K (.ref D) == some (.type "type")) = true then PySem.W.subIn K (.ref C) (.ref D) else none) else none) = some b
  rw [if_pos e1, if_pos e2]
  exact h4
theorem Ex.mu {H H' : Hp} {p : Addr} {o : HO} (e : Ex H H') (h : H p = none) : Ex H (upd H' p o) := Evl.Ex.mut e h
theorem Prs.up {H : Hp} {f : Addr} {o : HO} (hf : ∀ ys, H f ≠ some (.tup ys)) : ∀ {xs : List V} {ps : List (Int × Int)}, Prs H xs ps → Prs (upd H f o) xs ps
  | _, _, .nil => .nil
  | _, _, .cons ⟨t, h1, h2⟩ r => .cons ⟨t, h1, by rw [upd_ne fun e => hf _ (e ▸ h2)]; exact h2⟩ (Prs.up hf r)
/-- the pair that stands at an address -/
def pairAt (H : Hp) : V → Int × Int
  | .ref t => match H t with
    | some (.tup [.int i, .int j]) => (i, j)
    | _ => (0, 0)
  | _ => (0, 0)
theorem pairAt_eq {H : Hp} {t : Addr} {i j : Int} (h : H t = some (.tup [.int i, .int j])) : pairAt H (.ref t) = (i, j) := by
  show (match H t with | some (.tup [.int i, .int j]) => (i, j) | _ => (0, 0)) = (i, j)
  rw [h]
theorem Prs.map {H : Hp} : ∀ {xs : List V} {ps : List (Int × Int)}, Prs H xs ps → ps = xs.map (pairAt H)
  | _, _, .nil => rfl
  | _, _, .cons ⟨t, h1, h2⟩ r => by rw [List.map_cons, ← Prs.map r, h1, pairAt_eq h2]
theorem Prs.all {H : Hp} {xs : List V} {ps : List (Int × Int)} (h : Prs H xs ps) : ∀ x ∈ xs, ∃ t, x = V.ref t ∧ H t = some (.tup [.int (pairAt H x).1, .int (pairAt H x).2]) := by
  intro x hx
  obtain ⟨i, hi, e⟩ := List.getElem_of_mem hx
  obtain ⟨p, t, h1, h2, h3⟩ := Prs.get h (by rw [List.getElem?_eq_getElem hi, e])
  refine ⟨t, h2, ?_⟩
  rw [h2, pairAt_eq h3]
  exact h3
theorem Prs.of {H : Hp} : ∀ {xs : List V}, (∀ x ∈ xs, ∃ t, x = V.ref t ∧ H t = some (.tup [.int (pairAt H x).1, .int (pairAt H x).2])) → Prs H xs (xs.map (pairAt H))
  | [], _ => .nil
  | x :: xs, h => .cons (h x List.mem_cons_self) (Prs.of fun y hy => h y (List.mem_cons_of_mem _ hy))
/-- the pairs rise by value and are apart -/
def Rising (ps : List (Int × Int)) : Prop := ps.Pairwise fun p q => p.1 < q.1
theorem rising_of {H : Hp} {ys : List V} (hs : SrtO.Srtd (ltP (pairAt H)) ys) (nd : ((ys.map (pairAt H)).map (·.1)).Nodup) : Rising (ys.map (pairAt H)) := by
  unfold Rising
  rw [List.pairwise_map]
  rw [List.map_map, List.Nodup, List.pairwise_map] at nd
  refine (hs.and nd).imp ?_
  intro a b h
  have h1 := SrtO.lexB_no.mp h.1
  have h2 : (pairAt H a).1 ≠ (pairAt H b).1 := h.2
  omega
/-- sorted of such pairs -/
theorem sorted_prs {H : Hp} {xs ys : List V} {ps : List (Int × Int)} (hp : Prs H xs ps) (nd : (ps.map (·.1)).Nodup) (h1 : SrtO.Srtd (ltP (pairAt H)) ys) (h2 : SrtO.Stb (ltP (pairAt H)) ys xs) :
    ∃ qs, Prs H ys qs ∧ qs.Perm ps ∧ Rising qs := by
  have hpm : (ys.map (pairAt H)).Perm ps := by
    rw [hp.map]
    exact h2.perm.map _
  exact ⟨ys.map (pairAt H), Prs.of fun y hy => hp.all y (h2.perm.mem_iff.mp hy), hpm, rising_of h1 ((hpm.map _).nodup_iff.mpr nd)⟩
/-- what a till drawn here is: 1 to 10 kinds, apart, in bounds -/
structure Drawn (ps : List (Int × Int)) : Prop where
  nd : (ps.map (·.1)).Nodup
  val : ∀ p ∈ ps, 1 ≤ p.1 ∧ p.1 ≤ 1000
  cnt : ∀ p ∈ ps, 0 ≤ p.2 ∧ p.2 ≤ 1000000000
theorem Drawn.perm {ps qs : List (Int × Int)} (d : Drawn ps) (h : qs.Perm ps) : Drawn qs :=
  ⟨(h.map _).nodup_iff.mpr d.nd, fun p hp => d.val p (h.mem_iff.mp hp), fun p hp => d.cnt p (h.mem_iff.mp hp)⟩
/-- a till as data -/
def dP (p : Int × Int) : PyData := .tuple [.int p.1, .int p.2]
theorem prs_dp {K : PySem.W.Frag} {H : Hp} : ∀ {xs : List V} {ps : List (Int × Int)}, Prs H xs ps → DpAll K H xs (ps.map dP)
  | _, _, .nil => .nil
  | _, _, .cons ⟨t, h1, h2⟩ r => .cons (h1 ▸ .tup (.of h2) (.cons (.int _) (.cons (.int _) .nil))) (prs_dp r)
theorem till_dp {K : PySem.W.Frag} {H : Hp} {a : Addr} {ps : List (Int × Int)} (h : Till K H a ps) : Dp K H (.ref a) (.list (ps.map dP)) :=
  let ⟨_, h1, h2⟩ := h; .lst h1 (prs_dp h2)
theorem canLay_dPs : ∀ ps : List (Int × Int), PyData.canLayAll0 (ps.map dP) = true
  | [] => rfl
  | p :: r => by
    rw [List.map_cons]
    show (PyData.canLay0 (dP p) && PyData.canLayAll0 (r.map dP)) = true
    rw [canLay_dPs r]
    rfl
theorem depth_dPs : ∀ ps : List (Int × Int), PyData.depthAll (ps.map dP) ≤ 3
  | [] => by decide
  | p :: r => by
    have h := depth_dPs r
    rw [List.map_cons]
    show max (PyData.depth (dP p)) (PyData.depthAll (r.map dP)) ≤ 3
    have : PyData.depth (dP p) ≤ 3 := by
      show PyData.depth (.tuple [.int p.1, .int p.2]) ≤ 3
      simp [PyData.depth, PyData.depthAll]
    omega
theorem shaped_till (ps : List (Int × Int)) : SeqAt.shaped (.list (ps.map dP)) = true := by
  unfold SeqAt.shaped
  have h1 : PyData.canLay0 (.list (ps.map dP)) = true := canLay_dPs ps
  have h2 : PyData.depth (.list (ps.map dP)) ≤ 64 := by
    have := depth_dPs ps
    simp only [PyData.depth]
    omega
  rw [h1, decide_eq_true h2]
  rfl
theorem eqv_of_shaped {d : PyData} (h : SeqAt.shaped d = true) : PyData.eqv d d = true := PySem.SeqAt.eqv_refl d (SeqAt.canLay_of_shaped h)
theorem t_yes {A B : Hp → Prop} {σ : L2.St} {H : Hp} (h : A H) : tYes σ H (fun b H3 => if b = true then A H3 else B H3) := by
  show if true = true then A H else B H
  rw [if_pos rfl]
  exact h
theorem canLay_ints : ∀ l : List Int, PyData.canLayAll0 (l.map PyData.int) = true
  | [] => rfl
  | p :: r => by
    rw [List.map_cons]
    show (PyData.canLay0 (.int p) && PyData.canLayAll0 (r.map PyData.int)) = true
    rw [canLay_ints r]
    rfl
theorem depth_ints : ∀ l : List Int, PyData.depthAll (l.map PyData.int) ≤ 3
  | [] => by decide
  | p :: r => by
    have h := depth_ints r
    rw [List.map_cons]
    show max (PyData.depth (.int p)) (PyData.depthAll (r.map PyData.int)) ≤ 3
    have : PyData.depth (.int p) ≤ 3 := by simp [PyData.depth]
    omega
theorem shaped_ints (l : List Int) : SeqAt.shaped (.list (l.map PyData.int)) = true := by
  unfold SeqAt.shaped
  have h1 : PyData.canLay0 (.list (l.map PyData.int)) = true := canLay_ints l
  have h2 : PyData.depth (.list (l.map PyData.int)) ≤ 64 := by
    have := depth_ints l
    simp only [PyData.depth]
    omega
  rw [h1, decide_eq_true h2]
  rfl
theorem kone_own {K : PySem.W.Frag} {D C : Addr} {b : Bool} (hn : D ≠ C) (h2 : PySem.W.isClsIn K C = true) (h3 : PySem.W.typeIn K (.ref C) = some (.type "type")) (h4 : PySem.W.subIn K (.ref D) (.ref C) = some b) : PySem.W.kitOne K (.ref D) (.ref C) = some b := by
  have e1 : ¬ (Value.ref D == Value.ref C) = true := fun z => hn (Value.ref.inj (beq_iff_eq.mp z))
  have e2 : ((PySem.W.clsIn K C).isSome && PySem.W.typeIn K (.ref C) == some (.type "type")) = true := by
    have h2' : (PySem.W.clsIn K C).isSome = true := h2
    rw [h2', h3] <;> rfl
  unfold PySem.W.kitOne
  rw [if_neg e1]
  show (if ((PySem.W.clsIn K C).isSome && PySem.W.typeIn K (.ref C) == some (.type "type")) = true then PySem.W.subIn K (.ref D) (.ref C) else none) = some b
  rw [if_pos e2]
  exact h4
theorem kone_self {K : PySem.W.Frag} {D : Addr} : PySem.W.kitOne K (.ref D) (.ref D) = some true := by
  unfold PySem.W.kitOne
  rw [if_pos (beq_self_eq_true _)]
theorem kone_ty {K : PySem.W.Frag} {D : Addr} (h : PySem.W.subIn K (.ref D) (.type "ValueError") = some true) : PySem.W.kitOne K (.ref D) (.type "ValueError") = some true := by
  have e1 : ¬ (Value.ref D == Value.type "ValueError") = true := fun z => by cases beq_iff_eq.mp z
  unfold PySem.W.kitOne
  rw [if_neg e1]
  show (if PySem.W.kitMeta "ValueError" = true then PySem.W.subIn K (.ref D) (.type "ValueError") else none) = some true
  rw [if_pos (by decide +kernel)]
  exact h
theorem kany_f {K : PySem.W.Frag} {t c : Value} {cs : List Value} {r : Bool} (h : PySem.W.kitOne K t c = some false) (hr : PySem.W.kitAny K t cs = some r) : PySem.W.kitAny K t (c :: cs) = some r :=
  kitAny_cons h (fun _ => hr) fun z => nomatch z
theorem kany_t {K : PySem.W.Frag} {t c : Value} {cs : List Value} (h : PySem.W.kitOne K t c = some true) : PySem.W.kitAny K t (c :: cs) = some true :=
  kitAny_cons h (fun z => nomatch z) fun _ => rfl
theorem take_snoc {α : Type} {l : List α} {i : Nat} {x : α} (h : l[i]? = some x) : l.take (i + 1) = l.take i ++ [x] := by
  rw [List.take_add_one, h]
  rfl
theorem drop_at {α : Type} {l : List α} {i : Nat} {x : α} (h : l[i]? = some x) : l.drop i = x :: l.drop (i + 1) := by
  obtain ⟨hi, e⟩ := List.getElem?_eq_some_iff.mp h
  rw [List.drop_eq_getElem_cons hi, e]
theorem none_back {H H' : Hp} {p : Addr} (ex : Ex H H') (h : H' p = none) : H p = none := by
  cases z : H p with
  | none => rfl
  | some o => rw [ex _ _ z] at h; cases h
theorem Prs.take {H : Hp} : ∀ {xs : List V} {ps : List (Int × Int)} (n : Nat), Prs H xs ps → Prs H (xs.take n) (ps.take n)
  | _, _, 0, _ => .nil
  | _, _, _ + 1, .nil => .nil
  | _, _, n + 1, .cons h r => .cons h (Prs.take n r)
theorem Prs.drop {H : Hp} : ∀ {xs : List V} {ps : List (Int × Int)} (n : Nat), Prs H xs ps → Prs H (xs.drop n) (ps.drop n)
  | _, _, 0, h => h
  | _, _, _ + 1, .nil => .nil
  | _, _, n + 1, .cons h r => Prs.drop n r
theorem Prs.app {H : Hp} : ∀ {xs ys : List V} {ps qs : List (Int × Int)}, Prs H xs ps → Prs H ys qs → Prs H (xs ++ ys) (ps ++ qs)
  | _, _, _, _, .nil, h => h
  | _, _, _, _, .cons a r, h => .cons a (Prs.app r h)
theorem cut_take (xs : List V) (k : Nat) (h : k ≤ xs.length) : cutV xs none (some (k : Int)) = xs.take k := by
  unfold cutV
  rw [HT.sIx_none, HT.sIx_nat, List.drop_zero, Nat.sub_zero, Nat.min_eq_left h]
theorem cut_drop (xs : List V) (k : Nat) (h : k ≤ xs.length) : cutV xs (some (k : Int)) none = xs.drop k := by
  unfold cutV
  rw [HT.sIx_none, HT.sIx_nat, Nat.min_eq_left h, List.take_of_length_le (by rw [List.length_drop]; exact Nat.le_refl _)]
theorem seq_at {i : Int} {n : Nat} (h0 : 0 ≤ i) (h1 : i < n) : seqIndex? i n = some i.toNat := by
  have h2 : ¬ i < 0 := by omega
  simp [seqIndex?, h2, h0, h1]
theorem nodup_at {α : Type} {l : List α} {i j : Nat} {x : α} (h : l.Nodup) (hi : l[i]? = some x) (hj : l[j]? = some x) : i = j := by
  obtain ⟨h1, e1⟩ := List.getElem?_eq_some_iff.mp hi
  obtain ⟨h2, e2⟩ := List.getElem?_eq_some_iff.mp hj
  rcases Nat.lt_trichotomy i j with z | z | z
  · exact absurd (e1.trans e2.symm) (List.pairwise_iff_getElem.mp h i j h1 h2 z)
  · exact z
  · exact absurd (e2.trans e1.symm) (List.pairwise_iff_getElem.mp h j i h2 h1 z)
theorem Prs.keep {H H' : Hp} : ∀ {xs : List V} {ps : List (Int × Int)}, Prs H xs ps → (∀ t zs, H t = some (.tup zs) → H' t = some (.tup zs)) → Prs H' xs ps
  | _, _, .nil, _ => .nil
  | _, _, .cons ⟨t, h1, h2⟩ r, k => .cons ⟨t, h1, k _ _ h2⟩ (Prs.keep r k)
theorem take_succ_map {α β : Type} {l : List α} {i : Nat} {x : α} (f : α → β) (h : l[i]? = some x) : (l.take (i + 1)).map f = (l.take i).map f ++ [f x] := by
  rw [List.take_add_one, h, List.map_append]
  rfl
theorem rising_nd {ps : List (Int × Int)} (h : Rising ps) : (ps.map (·.1)).Nodup := by
  rw [List.Nodup, List.pairwise_map]
  exact h.imp fun z e => by omega
/-! ### what the law draws -/
def cell (ns : List Int) (k : Nat) : Int := ns.getD k 0
def mixed (c k : Int) : Int := (c + 7919 * k) * 48271 % 2147483647
theorem mixed_nn (c k : Int) : 0 ≤ mixed c k := Int.emod_nonneg _ (by decide)
theorem mixed_lt (c k : Int) : mixed c k < 2147483647 := Int.emod_lt_of_pos _ (by decide)
def spCellAt (K : PySem.W.Frag) : Sp := fun vs H Q _ => ∃ (a : Addr) (ns : List Int) (k : Nat), vs = [.ref a, .int k] ∧ SqL K H a (ns.map V.int) ∧ Q (.int (cell ns k)) H
theorem ok_cell_at (T : Tx K mg) : FnOk P w K mg base CX0 1 T.a__law_cell_at T.d__law_cell_at P__law_cell_at (spCellAt K) := by
  refine T.f__law_cell_at.ok sc__law_cell_at (fun vs H Q E h => ?_) (fun cdv A outer s H vs Q E hr h => ?_)
  · obtain ⟨a, ns, k, rfl, _⟩ := h
    rfl
  · obtain ⟨a, ns, k, rfl, hS, q⟩ := h
    refine ⟨_, (pss_cons (ps_if (pt_cmpR op_lt (pv 1) (pe_callB call_len_seq (by rfl) T.m_len (by decide +kernel) (pa_cons (pv 0) pa_nil)) (nomark _))
      (pss_one (ps_ret (pe_ix ix_list (pv 0) (pv 1) (fun _ _ => rfl))))
      pss_nil)
    (pss_one (ps_ret pe_int))), ?_⟩
    refine ⟨_, rfl, _, rfl, a, _, rfl, .inl hS, _, _, rfl, rfl, _, rfl, ite2 (fun e => ?_) (fun e => ?_)⟩
    · have e1 : (k : Int) < ((ns.map V.int).length : Int) := of_decide_eq_true e
      rw [List.length_map] at e1
      have e2 : k < ns.length := by omega
      refine ⟨_, rfl, _, rfl, a, _, _, .int (cell ns k), rfl, rfl, hS, atI_nat ?_, q⟩
      rw [List.getElem?_map, List.getElem?_eq_getElem e2]
      show some (V.int ns[k]) = _
      unfold cell
      rw [List.getD_eq_getElem?_getD, List.getElem?_eq_getElem e2]
      rfl
    · have e1 : ¬ (k : Int) < ((ns.map V.int).length : Int) := fun z => e (decide_eq_true z)
      rw [List.length_map] at e1
      have e2 : cell ns k = 0 := by
        unfold cell
        rw [List.getD_eq_getElem?_getD, List.getElem?_eq_none (by omega)]
        rfl
      rw [e2] at q
      exact q
def spMixed : Sp := fun vs H Q _ => ∃ c k, vs = [.int c, .int k] ∧ (-(2 ^ 64) < k ∧ k < 2 ^ 64) ∧ Q (.int (mixed c k)) H
theorem ok_mixed (T : Tx K mg) : FnOk P w K mg base CX0 1 T.a__law_mixed T.d__law_mixed P__law_mixed spMixed := by
  refine T.f__law_mixed.ok sc__law_mixed (fun vs H Q E h => ?_) (fun cdv A outer s H vs Q E hr h => ?_)
  · obtain ⟨c, k, rfl, _⟩ := h
    rfl
  · obtain ⟨c, k, rfl, hk, q⟩ := h
    refine ⟨_, (pss_one (ps_ret (pe_op op_mod (pe_op op_mul (pe_op op_add (pv 0) (pe_op op_mul pe_int (pv 1))) pe_int) pe_int))), ?_⟩
    repeat (first | refine ⟨_, rfl, ?_⟩ | refine ⟨(by show (0 : Int) < _; decide), ?_⟩ | refine ⟨⟨by decide, by decide⟩, ?_⟩ | refine ⟨.inr ⟨by decide, by decide⟩, ?_⟩ | refine ⟨.inl ⟨by decide, by decide⟩, ?_⟩ | refine ⟨⟨by decide, by decide, by decide⟩, ?_⟩ | refine ⟨_, _, rfl, rfl, ?_⟩ | refine ⟨rfl, _, rfl, ?_⟩)
    exact q
def menu : List Int := [1, 2, 5, 10, 20, 50, 100, 200, 500, 1000]
theorem menu_in : ∀ i : Nat, i < 10 → 1 ≤ menu.getD i 0 ∧ menu.getD i 0 ≤ 1000 := by decide
theorem menu_at {ms : List Int} {i : Int} {n : Nat} (hl : ms.length = n) (h0 : 0 ≤ i) (h1 : i < n) : atI (ms.map V.int) i = some (.int (ms.getD i.toNat 0)) := by
  have hn : ((i.toNat : Nat) : Int) = i := Int.toNat_of_nonneg h0
  have hlt : i.toNat < ms.length := by omega
  refine at_of hn.symm ?_
  rw [List.getElem?_map, List.getElem?_eq_getElem hlt, List.getD_eq_getElem?_getD, List.getElem?_eq_getElem hlt]
  rfl
def value (c k : Int) : Int := if c % 3 = 0 then menu.getD (mixed c k % 10).toNat 0 else if c % 3 = 1 then 1 + mixed c k % 30 else 1 + mixed c k % 1000
theorem value_in (c k : Int) : 1 ≤ value c k ∧ value c k ≤ 1000 := by
  unfold value
  split
  · exact menu_in _ (by have := Int.emod_lt_of_pos (mixed c k) (by decide : (0 : Int) < 10); have := Int.emod_nonneg (mixed c k) (by decide : (10 : Int) ≠ 0); omega)
  · split <;> omega
def spValue : Sp := fun vs H Q _ => ∃ c k, vs = [.int c, .int k] ∧ (-(2 ^ 64) < k ∧ k < 2 ^ 64) ∧ Ret (.int (value c k)) H Q
theorem ok_value (T : Tx K mg) : FnOk P w K mg base CX0 2 T.a__law_value T.d__law_value P__law_value spValue := by
  have G__law_mixed := ok_mixed (P := P) (w := w) (base := base) T
  refine T.f__law_value.ok sc__law_value (fun vs H Q E h => ?_) (fun cdv A outer s H vs Q E hr h => ?_)
  · obtain ⟨c, k, rfl, _⟩ := h
    rfl
  · obtain ⟨c, k, rfl, hk, q⟩ := h
    refine ⟨_, (pss_cons (ps_set (i := 2) sc__law_value.nd rfl (.inl rfl) (pe_call G__law_mixed (hr.mono (by decide)) (by rfl) T.g__law_mixed T.f__law_mixed.kp T.p__law_mixed .nil pass0 (pa_cons (pv 0) (pa_cons (pv 1) pa_nil))))
    (pss_cons (ps_if (pt_cmpR op_eq (pe_op op_mod (pv 0) pe_int) pe_int (nomark _))
      (pss_one (ps_ret (pe_ix ix_list (pe_lst (pa_cons pe_int (pa_cons pe_int (pa_cons pe_int (pa_cons pe_int (pa_cons pe_int (pa_cons pe_int (pa_cons pe_int (pa_cons pe_int (pa_cons pe_int (pa_cons pe_int pa_nil))))))))))) (pe_op op_mod (pv 2) pe_int) (fun _ _ => rfl))))
      pss_nil)
    (pss_cons (ps_if (pt_cmpR op_eq (pe_op op_mod (pv 0) pe_int) pe_int (nomark _))
      (pss_one (ps_ret (pe_op op_add pe_int (pe_op op_mod (pv 2) pe_int))))
      pss_nil)
    (pss_one (ps_ret (pe_op op_add pe_int (pe_op op_mod (pv 2) pe_int))))))), ?_⟩
    unfold value at q
    repeat (first | refine ⟨_, rfl, ?_⟩ | refine ⟨(by show (0 : Int) < _; decide), ?_⟩ | refine ⟨⟨by decide, by decide⟩, ?_⟩ | refine ⟨.inr ⟨by decide, by decide⟩, ?_⟩ | refine ⟨.inl ⟨by decide, by decide⟩, ?_⟩ | refine ⟨⟨by decide, by decide, by decide⟩, ?_⟩ | refine ⟨_, _, rfl, rfl, ?_⟩ | refine ⟨rfl, _, rfl, ?_⟩)
    refine ⟨_, _, rfl, hk, ?_⟩
    repeat (first | refine ⟨_, rfl, ?_⟩ | refine ⟨(by show (0 : Int) < _; decide), ?_⟩ | refine ⟨⟨by decide, by decide⟩, ?_⟩ | refine ⟨.inr ⟨by decide, by decide⟩, ?_⟩ | refine ⟨.inl ⟨by decide, by decide⟩, ?_⟩ | refine ⟨⟨by decide, by decide, by decide⟩, ?_⟩ | refine ⟨_, _, rfl, rfl, ?_⟩ | refine ⟨rfl, _, rfl, ?_⟩)
    first | refine iteVI (fun e => ?_) (fun e => ?_) | refine iteVN (fun e => ?_) (fun e => ?_) | refine iteD (fun e => ?_) (fun e => ?_) | refine iteDN (fun e => ?_) (fun e => ?_) | refine iteB (fun e => ?_) (fun e => ?_)
    · rw [if_pos e] at q
      refine ⟨len63 (by decide), fun p hp => ?_⟩
      repeat (first | refine ⟨_, rfl, ?_⟩ | refine ⟨(by show (0 : Int) < _; decide), ?_⟩ | refine ⟨⟨by decide, by decide⟩, ?_⟩ | refine ⟨.inr ⟨by decide, by decide⟩, ?_⟩ | refine ⟨.inl ⟨by decide, by decide⟩, ?_⟩ | refine ⟨⟨by decide, by decide, by decide⟩, ?_⟩ | refine ⟨_, _, rfl, rfl, ?_⟩ | refine ⟨rfl, _, rfl, ?_⟩)
      exact ⟨p, menu.map V.int, _, _, rfl, rfl, .of upd_same, menu_at rfl (Int.emod_nonneg _ (by decide)) (Int.emod_lt_of_pos _ (by decide)), q _ (Ex.nw hp)⟩
    · rw [if_neg e] at q
      repeat (first | refine ⟨_, rfl, ?_⟩ | refine ⟨(by show (0 : Int) < _; decide), ?_⟩ | refine ⟨⟨by decide, by decide⟩, ?_⟩ | refine ⟨.inr ⟨by decide, by decide⟩, ?_⟩ | refine ⟨.inl ⟨by decide, by decide⟩, ?_⟩ | refine ⟨⟨by decide, by decide, by decide⟩, ?_⟩ | refine ⟨_, _, rfl, rfl, ?_⟩ | refine ⟨rfl, _, rfl, ?_⟩)
      first | refine iteVI (fun e => ?_) (fun e => ?_) | refine iteVN (fun e => ?_) (fun e => ?_) | refine iteD (fun e => ?_) (fun e => ?_) | refine iteDN (fun e => ?_) (fun e => ?_) | refine iteB (fun e => ?_) (fun e => ?_)
      · rw [if_pos e] at q
        repeat (first | refine ⟨_, rfl, ?_⟩ | refine ⟨(by show (0 : Int) < _; decide), ?_⟩ | refine ⟨⟨by decide, by decide⟩, ?_⟩ | refine ⟨.inr ⟨by decide, by decide⟩, ?_⟩ | refine ⟨.inl ⟨by decide, by decide⟩, ?_⟩ | refine ⟨⟨by decide, by decide, by decide⟩, ?_⟩ | refine ⟨_, _, rfl, rfl, ?_⟩ | refine ⟨rfl, _, rfl, ?_⟩)
        exact q _ Ex.rfl'
      · rw [if_neg e] at q
        repeat (first | refine ⟨_, rfl, ?_⟩ | refine ⟨(by show (0 : Int) < _; decide), ?_⟩ | refine ⟨⟨by decide, by decide⟩, ?_⟩ | refine ⟨.inr ⟨by decide, by decide⟩, ?_⟩ | refine ⟨.inl ⟨by decide, by decide⟩, ?_⟩ | refine ⟨⟨by decide, by decide, by decide⟩, ?_⟩ | refine ⟨_, _, rfl, rfl, ?_⟩ | refine ⟨rfl, _, rfl, ?_⟩)
        exact q _ Ex.rfl'
def count (c k : Int) : Int := if c / 3 % 4 = 1 then mixed c k % 61 else if c / 3 % 12 = 6 then mixed c k / 7 % 2 * (1000000000 - mixed c k % 50) else mixed c k % 5
theorem count_in (c k : Int) : 0 ≤ count c k ∧ count c k ≤ 1000000000 := by
  unfold count
  split
  · omega
  · split
    · rcases (by omega : mixed c k / 7 % 2 = 0 ∨ mixed c k / 7 % 2 = 1) with h | h <;> rw [h] <;> omega
    · omega
def spCount : Sp := fun vs H Q _ => ∃ c k, vs = [.int c, .int k] ∧ (-(2 ^ 64) < k ∧ k < 2 ^ 64) ∧ Q (.int (count c k)) H
theorem ok_count (T : Tx K mg) : FnOk P w K mg base CX0 2 T.a__law_count T.d__law_count P__law_count spCount := by
  have G__law_mixed := ok_mixed (P := P) (w := w) (base := base) T
  refine T.f__law_count.ok sc__law_count (fun vs H Q E h => ?_) (fun cdv A outer s H vs Q E hr h => ?_)
  · obtain ⟨c, k, rfl, _⟩ := h
    rfl
  · obtain ⟨c, k, rfl, hk, q⟩ := h
    refine ⟨_, (pss_cons (ps_set (i := 2) sc__law_count.nd rfl (.inl rfl) (pe_call G__law_mixed (hr.mono (by decide)) (by rfl) T.g__law_mixed T.f__law_mixed.kp T.p__law_mixed .nil pass0 (pa_cons (pv 0) (pa_cons (pv 1) pa_nil))))
    (pss_cons (ps_if (pt_cmpR op_eq (pe_op op_mod (pe_op op_fdiv (pv 0) pe_int) pe_int) pe_int (nomark _))
      (pss_one (ps_ret (pe_op op_mod (pv 2) pe_int)))
      pss_nil)
    (pss_cons (ps_if (pt_cmpR op_eq (pe_op op_mod (pe_op op_fdiv (pv 0) pe_int) pe_int) pe_int (nomark _))
      (pss_one (ps_ret (pe_op op_mul (pe_op op_mod (pe_op op_fdiv (pv 2) pe_int) pe_int) (pe_op op_sub (pe_op op_pow pe_int pe_int) (pe_op op_mod (pv 2) pe_int)))))
      pss_nil)
    (pss_one (ps_ret (pe_op op_mod (pv 2) pe_int)))))), ?_⟩
    unfold count at q
    repeat (first | refine ⟨_, rfl, ?_⟩ | refine ⟨(by show (0 : Int) < _; decide), ?_⟩ | refine ⟨⟨by decide, by decide⟩, ?_⟩ | refine ⟨.inr ⟨by decide, by decide⟩, ?_⟩ | refine ⟨.inl ⟨by decide, by decide⟩, ?_⟩ | refine ⟨⟨by decide, by decide, by decide⟩, ?_⟩ | refine ⟨_, _, rfl, rfl, ?_⟩ | refine ⟨rfl, _, rfl, ?_⟩)
    refine ⟨_, _, rfl, hk, ?_⟩
    repeat (first | refine ⟨_, rfl, ?_⟩ | refine ⟨(by show (0 : Int) < _; decide), ?_⟩ | refine ⟨⟨by decide, by decide⟩, ?_⟩ | refine ⟨.inr ⟨by decide, by decide⟩, ?_⟩ | refine ⟨.inl ⟨by decide, by decide⟩, ?_⟩ | refine ⟨⟨by decide, by decide, by decide⟩, ?_⟩ | refine ⟨_, _, rfl, rfl, ?_⟩ | refine ⟨rfl, _, rfl, ?_⟩)
    first | refine iteVI (fun e => ?_) (fun e => ?_) | refine iteVN (fun e => ?_) (fun e => ?_) | refine iteD (fun e => ?_) (fun e => ?_) | refine iteDN (fun e => ?_) (fun e => ?_) | refine iteB (fun e => ?_) (fun e => ?_)
    · rw [if_pos e] at q
      repeat (first | refine ⟨_, rfl, ?_⟩ | refine ⟨(by show (0 : Int) < _; decide), ?_⟩ | refine ⟨⟨by decide, by decide⟩, ?_⟩ | refine ⟨.inr ⟨by decide, by decide⟩, ?_⟩ | refine ⟨.inl ⟨by decide, by decide⟩, ?_⟩ | refine ⟨⟨by decide, by decide, by decide⟩, ?_⟩ | refine ⟨_, _, rfl, rfl, ?_⟩ | refine ⟨rfl, _, rfl, ?_⟩)
      exact q
    · rw [if_neg e] at q
      repeat (first | refine ⟨_, rfl, ?_⟩ | refine ⟨(by show (0 : Int) < _; decide), ?_⟩ | refine ⟨⟨by decide, by decide⟩, ?_⟩ | refine ⟨.inr ⟨by decide, by decide⟩, ?_⟩ | refine ⟨.inl ⟨by decide, by decide⟩, ?_⟩ | refine ⟨⟨by decide, by decide, by decide⟩, ?_⟩ | refine ⟨_, _, rfl, rfl, ?_⟩ | refine ⟨rfl, _, rfl, ?_⟩)
      first | refine iteVI (fun e => ?_) (fun e => ?_) | refine iteVN (fun e => ?_) (fun e => ?_) | refine iteD (fun e => ?_) (fun e => ?_) | refine iteDN (fun e => ?_) (fun e => ?_) | refine iteB (fun e => ?_) (fun e => ?_)
      · rw [if_pos e] at q
        have h1 := mixed_nn c k
        have h2 := mixed_lt c k
        repeat (first | refine ⟨_, rfl, ?_⟩ | refine ⟨(by show (0 : Int) < _; decide), ?_⟩ | refine ⟨⟨by decide, by decide⟩, ?_⟩ | refine ⟨.inr ⟨by decide, by decide⟩, ?_⟩ | refine ⟨.inl ⟨by decide, by decide⟩, ?_⟩ | refine ⟨⟨by decide, by decide, by decide⟩, ?_⟩ | refine ⟨_, _, rfl, rfl, ?_⟩ | refine ⟨rfl, _, rfl, ?_⟩)
        refine ⟨.inl ⟨by omega, by omega⟩, ?_⟩
        exact q
      · rw [if_neg e] at q
        repeat (first | refine ⟨_, rfl, ?_⟩ | refine ⟨(by show (0 : Int) < _; decide), ?_⟩ | refine ⟨⟨by decide, by decide⟩, ?_⟩ | refine ⟨.inr ⟨by decide, by decide⟩, ?_⟩ | refine ⟨.inl ⟨by decide, by decide⟩, ?_⟩ | refine ⟨⟨by decide, by decide, by decide⟩, ?_⟩ | refine ⟨_, _, rfl, rfl, ?_⟩ | refine ⟨rfl, _, rfl, ?_⟩)
        exact q
/-! the kinds: a value that stands already is moved on -/
def nxt (v : Int) : Int := v % 1000 + 1
def itn (v : Int) (j : Nat) : Int := (v - 1 + j) % 1000 + 1
theorem itn_zero {v : Int} (h1 : 1 ≤ v) (h2 : v ≤ 1000) : itn v 0 = v := by unfold itn; omega
theorem itn_succ (v : Int) (j : Nat) : itn v (j + 1) = nxt (itn v j) := by unfold itn nxt; omega
theorem itn_in (v : Int) (j : Nat) : 1 ≤ itn v j ∧ itn v j ≤ 1000 := by unfold itn; omega
theorem itn_inj {v : Int} {i j : Nat} (hi : i < 1000) (hj : j < 1000) (h : itn v i = itn v j) : i = j := by unfold itn at h; omega
theorem escape : ∀ (n : Nat) (ks : List Int) (f : Nat → Int), ks.length = n → (∀ i j, i ≤ n → j ≤ n → f i = f j → i = j) → ∃ j, j ≤ n ∧ f j ∉ ks
  | 0, ks, f, hl, _ => ⟨0, Nat.le_refl _, by rw [List.length_eq_zero_iff.mp hl]; simp⟩
  | n + 1, ks, f, hl, hf => by
    by_cases h : f 0 ∈ ks
    · obtain ⟨j, hj, hn⟩ := escape n (ks.erase (f 0)) (fun i => f (i + 1)) (by rw [List.length_erase_of_mem h]; omega) fun i j hi hj e => by
        have := hf (i + 1) (j + 1) (by omega) (by omega) e
        omega
      refine ⟨j + 1, by omega, fun z => hn ?_⟩
      refine (List.mem_erase_of_ne fun e => ?_).mpr z
      have := hf (j + 1) 0 (by omega) (by omega) e
      omega
    · exact ⟨0, Nat.zero_le _, h⟩
theorem free_at {ks : List Int} (v : Int) (h : ks.length < 1000) : ∃ j, itn v j ∉ ks := by
  obtain ⟨j, _, hn⟩ := escape ks.length ks (itn v) rfl fun i j hi hj e => itn_inj (by omega) (by omega) e
  exact ⟨j, hn⟩
theorem least {p : Nat → Prop} (h : ∃ j, p j) : ∃ j, p j ∧ ∀ i, i < j → ¬ p i := by
  obtain ⟨j, hj⟩ := h
  induction j using Nat.strongRecOn with
  | _ j ih =>
    by_cases z : ∃ i, i < j ∧ p i
    · obtain ⟨i, hi, hp⟩ := z
      exact ih i hi hp
    · exact ⟨j, hj, fun i hi hp => z ⟨i, hi, hp⟩⟩
def dkv (ks : List Int) : List (Key × V) := ks.map fun k => (Sum.inl k, V.bl true)
theorem dkv_none {ks : List Int} {k : Int} (h : k ∉ ks) : valV (dkv ks) (Sum.inl k) = none := by
  cases e : valV (dkv ks) (Sum.inl k) with
  | none => rfl
  | some v =>
    have := valV_in e
    unfold dkv at this
    rw [List.map_map] at this
    obtain ⟨x, hx, ex⟩ := List.mem_map.mp this
    cases ex
    exact absurd hx h
theorem dkv_some {ks : List Int} {k : Int} (h : k ∈ ks) : ∃ v, valV (dkv ks) (Sum.inl k) = some v := by
  cases e : valV (dkv ks) (Sum.inl k) with
  | some v => exact ⟨v, rfl⟩
  | none =>
    refine absurd ?_ (valV_not e)
    unfold dkv
    rw [List.map_map]
    exact List.mem_map.mpr ⟨k, h, rfl⟩
theorem dkv_put {ks : List Int} {k : Int} (h : k ∉ ks) : putK (dkv ks) (Sum.inl k) (V.bl true) = dkv (ks ++ [k]) := by
  rw [putK_new _ (dkv_none h)]
  unfold dkv
  rw [List.map_append]
  rfl
def spPairs (K : PySem.W.Frag) : Sp := fun vs H Q _ => ∃ (a : Addr) (ns : List Int), vs = [.ref a] ∧ SqL K H a (ns.map V.int) ∧
  ∀ p xs ps H2, Ex H H2 → H p = none → H2 p = some (.lst xs) → Prs H2 xs ps → Drawn ps → 1 ≤ ps.length → ps.length ≤ 10 → Q (.ref p) H2
theorem ok_pairs (T : Tx K mg) : FnOk P w K mg base CX0 3 T.a__law_pairs T.d__law_pairs P__law_pairs (spPairs K) := by
  have G__law_cell_at := ok_cell_at (P := P) (w := w) (base := base) T
  have G__law_value := ok_value (P := P) (w := w) (base := base) T
  have G__law_count := ok_count (P := P) (w := w) (base := base) T
  refine T.f__law_pairs.ok sc__law_pairs (fun vs H Q E h => ?_) (fun cdv A outer s H vs Q E hr h => ?_)
  · obtain ⟨a, ns, rfl, _⟩ := h
    rfl
  · obtain ⟨a, ns, rfl, hS, q⟩ := h
    refine ⟨_, (pss_cons (ps_set (i := 1) sc__law_pairs.nd rfl (.inl rfl) (pe_call G__law_cell_at (hr.mono (by decide)) (by rfl) T.g__law_cell_at T.f__law_cell_at.kp T.p__law_cell_at .nil pass0 (pa_cons (pv 0) (pa_cons pe_int pa_nil))))
    (pss_cons (ps_set (i := 2) sc__law_pairs.nd rfl (.inl rfl) (pe_op op_add pe_int (pe_op op_mod (pv 1) pe_int)))
    (Evl.pss_cut (ps_if (pt_cmpR op_eq (pe_op op_mod (pe_op op_fdiv (pv 1) pe_int) pe_int) pe_int (nomark _))
      (pss_one (ps_set (i := 2) sc__law_pairs.nd rfl (.inl rfl) (pe_op op_add pe_int (pe_op op_mod (pe_op op_fdiv (pv 1) pe_int) pe_int))))
      pss_nil)
    (pss_cons (ps_set (i := 3) sc__law_pairs.nd rfl (.inl rfl) (pe_lst pa_nil))
    (pss_cons (ps_set (i := 4) sc__law_pairs.nd rfl (.inl rfl) pe_dnewK)
    (pss_cons (ps_for PassesOwn.never rfl (pi_range1 (by rfl) T.m_range (pa_cons (pv 2) pa_nil)) (pg_name (i := 5) sc__law_pairs.nd rfl (.inl rfl))
      (pss_cons (ps_set (i := 6) sc__law_pairs.nd rfl (.inl rfl) (pe_call G__law_value (hr.mono (by decide)) (by rfl) T.g__law_value T.f__law_value.kp T.p__law_value .nil pass0 (pa_cons (pe_call G__law_cell_at (hr.mono (by decide)) (by rfl) T.g__law_cell_at T.f__law_cell_at.kp T.p__law_cell_at .nil pass0 (pa_cons (pv 0) (pa_cons pe_int pa_nil))) (pa_cons (pe_op op_add (pv 5) pe_int) pa_nil))))
      (pss_cons (ps_while PassesOwn.never (pt_cmp (pc_din (hu_of hr) (pv 6) (pv 4)))
        (pss_one (ps_set (i := 6) sc__law_pairs.nd rfl (.inl rfl) (pe_op op_add (pe_op op_mod (pv 6) pe_int) pe_int))))
      (pss_cons (ps_dput (hu_of hr) (pv 4) (pv 6) pe_bl rfl)
      (pss_one (ps_expr (pe_bm PySem.F.plainAttrs_list PySem.F.slot_list_append PySem.F.type_list_append mt_append (pv 3) (pa_cons (pe_tup (pa_cons (pv 6) (pa_cons (pe_call G__law_count (hr.mono (by decide)) (by rfl) T.g__law_count T.f__law_count.kp T.p__law_count .nil pass0 (pa_cons (pe_call G__law_cell_at (hr.mono (by decide)) (by rfl) T.g__law_cell_at T.f__law_cell_at.kp T.p__law_cell_at .nil pass0 (pa_cons (pv 0) (pa_cons pe_int pa_nil))) (pa_cons (pe_op op_add (pv 5) pe_int) pa_nil))) pa_nil))) pa_nil))))))))
    (pss_one (ps_ret (pv 3))))))))), ?_⟩
    refine ⟨_, rfl, a, ns, 0, rfl, hS, ?_⟩
    repeat (first | refine ⟨_, rfl, ?_⟩ | refine ⟨(by show (0 : Int) < _; decide), ?_⟩ | refine ⟨⟨by decide, by decide⟩, ?_⟩ | refine ⟨.inr ⟨by decide, by decide⟩, ?_⟩ | refine ⟨.inl ⟨by decide, by decide⟩, ?_⟩ | refine ⟨⟨by decide, by decide, by decide⟩, ?_⟩ | refine ⟨_, _, rfl, rfl, ?_⟩ | refine ⟨rfl, _, rfl, ?_⟩)
    refine ⟨fun σ' H' => ∃ m : Int, 1 ≤ m ∧ m ≤ 10 ∧ σ' = [some (.ref a), some (.int (cell ns 0)), some (.int m), none, none, none, none] ∧ H' = H, ?_, ?_⟩
    · repeat (first | refine ⟨_, rfl, ?_⟩ | refine ⟨(by show (0 : Int) < _; decide), ?_⟩ | refine ⟨⟨by decide, by decide⟩, ?_⟩ | refine ⟨.inr ⟨by decide, by decide⟩, ?_⟩ | refine ⟨.inl ⟨by decide, by decide⟩, ?_⟩ | refine ⟨⟨by decide, by decide, by decide⟩, ?_⟩ | refine ⟨_, _, rfl, rfl, ?_⟩ | refine ⟨rfl, _, rfl, ?_⟩)
      first | refine iteVI (fun e => ?_) (fun e => ?_) | refine iteVN (fun e => ?_) (fun e => ?_) | refine iteD (fun e => ?_) (fun e => ?_) | refine iteDN (fun e => ?_) (fun e => ?_) | refine iteB (fun e => ?_) (fun e => ?_)
      · repeat (first | refine ⟨_, rfl, ?_⟩ | refine ⟨(by show (0 : Int) < _; decide), ?_⟩ | refine ⟨⟨by decide, by decide⟩, ?_⟩ | refine ⟨.inr ⟨by decide, by decide⟩, ?_⟩ | refine ⟨.inl ⟨by decide, by decide⟩, ?_⟩ | refine ⟨⟨by decide, by decide, by decide⟩, ?_⟩ | refine ⟨_, _, rfl, rfl, ?_⟩ | refine ⟨rfl, _, rfl, ?_⟩)
        exact ⟨_, by omega, by omega, rfl, rfl⟩
      · exact ⟨_, by omega, by omega, rfl, rfl⟩
    rintro σ' H' ⟨m, hm1, hm2, rfl, rfl⟩
    refine ⟨Nat.zero_le _, fun f hf d hd => ?_⟩
    have nfd : d ≠ f := fun e => by rw [e, upd_same] at hd; cases hd
    have hd' : H' d = none := by rw [upd_ne nfd] at hd; exact hd
    refine ⟨_, rfl, m, rfl, by omega, by omega, ?_⟩
    refine for_range (fun i σ H => ∃ xs ps y5 y6, σ = [some (.ref a), some (.int (cell ns 0)), some (.int m), some (.ref f), some (.ref d), y5, y6] ∧ Ex H' H ∧ H f = some (.lst xs) ∧ H d = some (.dK (dkv (ps.map (·.1)))) ∧ Prs H xs ps ∧ Drawn ps ∧ ps.length = i)
      ⟨[], [], none, none, rfl, Ex.mu (Ex.nw hf) hd', by rw [upd_ne nfd.symm, upd_same], by rw [upd_same]; rfl, .nil, ⟨by simp, by simp, by simp⟩, rfl⟩ ?_ ?_
    · rintro i σ H hi ⟨xs, ps, y5, y6, rfl, ex, ef, ed, hp, dr, hlen⟩
      have hi' : i < 10 := by omega
      -- _law_value_here = _law_value(..)
      refine ⟨_, rfl, a, ns, 1, rfl, ex.seq hS, ?_⟩
      repeat (first | refine ⟨_, rfl, ?_⟩ | refine ⟨(by show (0 : Int) < _; decide), ?_⟩ | refine ⟨⟨by decide, by decide⟩, ?_⟩ | refine ⟨.inr ⟨by decide, by decide⟩, ?_⟩ | refine ⟨.inl ⟨by decide, by decide⟩, ?_⟩ | refine ⟨⟨by decide, by decide, by decide⟩, ?_⟩ | refine ⟨_, _, rfl, rfl, ?_⟩ | refine ⟨rfl, _, rfl, ?_⟩)
      refine ⟨_, _, rfl, ⟨by omega, by omega⟩, fun H2 e2 => ?_⟩
      have ex2 : Ex H' H2 := Ex.tr ex e2
      have ef2 := e2 _ _ ef
      have ed2 := e2 _ _ ed
      have hp2 : Prs H2 xs ps := hp.ex e2
      have hv := value_in (cell ns 1) (0 + (i : Int) + 1)
      generalize hvv : value (cell ns 1) (0 + (i : Int) + 1) = v0 at hv
      obtain ⟨j, hj, hmin⟩ := least (free_at (ks := ps.map (·.1)) v0 (by rw [List.length_map]; omega))
      -- the while
      refine ⟨fun n σ H => ∃ k, k + n = j ∧ σ = [some (.ref a), some (.int (cell ns 0)), some (.int m), some (.ref f), some (.ref d), some (.int (0 + (i : Int))), some (.int (itn v0 k))] ∧ H = H2,
        ⟨j, 0, by omega, by rw [itn_zero hv.1 hv.2]; rfl, rfl⟩, ?_⟩
      rintro n σ H3 ⟨k, hk, rfl, rfl⟩
      refine ⟨_, rfl, _, rfl, d, _, rfl, DGet.k (k := Sum.inl (itn v0 k)) ed2, _, rfl, ?_⟩
      by_cases hn : n = 0
      · -- it is free
        have hkj : k = j := by omega
        subst hkj
        rw [dkv_none hj]
        refine iteF ?_
        -- _law_seen[v] = True
        refine ⟨_, rfl, _, rfl, d, _, rfl, DPut.k (k := Sum.inl (itn v0 k)) ed2 ?_, ?_⟩
        · unfold dkv
          rw [List.length_map, List.length_map]
          exact len63' (by omega)
        rw [dkv_put hj]
        have ef3 : (upd H3 d (.dK (dkv (ps.map (·.1) ++ [itn v0 k])))) f = some (.lst xs) := by rw [upd_ne nfd.symm]; exact ef2
        have ex3 : Ex H' (upd H3 d (.dK (dkv (ps.map (·.1) ++ [itn v0 k])))) := Ex.mu ex2 hd'
        have hp3 : Prs (upd H3 d (.dK (dkv (ps.map (·.1) ++ [itn v0 k])))) xs ps := hp2.up (by intro ys z; rw [ed2] at z; cases z)
        -- _law_found.append((v, _law_count(..)))
        refine ⟨_, rfl, .inl ⟨rfl, xs, .of ef3⟩, ?_⟩
        refine ⟨_, rfl, _, rfl, a, ns, 2, rfl, ex3.seq hS, ?_⟩
        repeat (first | refine ⟨_, rfl, ?_⟩ | refine ⟨(by show (0 : Int) < _; decide), ?_⟩ | refine ⟨⟨by decide, by decide⟩, ?_⟩ | refine ⟨.inr ⟨by decide, by decide⟩, ?_⟩ | refine ⟨.inl ⟨by decide, by decide⟩, ?_⟩ | refine ⟨⟨by decide, by decide, by decide⟩, ?_⟩ | refine ⟨_, _, rfl, rfl, ?_⟩ | refine ⟨rfl, _, rfl, ?_⟩)
        refine ⟨_, _, rfl, ⟨by omega, by omega⟩, ?_⟩
        refine ⟨len63 (by show 2 ≤ _; decide), fun t ht => ?_⟩
        have ntf : f ≠ t := ne_of_none ef3 ht
        have ntd : d ≠ t := ne_of_none upd_same ht
        refine ⟨f, xs, _, rfl, rfl, by rw [upd_ne ntf]; exact ef3, len63' (by rw [hp3.len]; omega), ?_⟩
        refine ⟨xs ++ [.ref t], ps ++ [(itn v0 k, count (cell ns 2) (0 + (i : Int) + 1))], _, _, rfl, Ex.mu (ex3.tr (Ex.nw ht)) hf, upd_same, ?_, ?_, ?_, by rw [List.length_append, hlen]; rfl⟩
        · rw [upd_ne nfd, upd_ne ntd, upd_same, List.map_append]
          rfl
        · refine Prs.up (by intro ys z; rw [upd_ne ntf, ef3] at z; cases z) ?_
          exact Prs.snoc (hp3.ex (Ex.nw ht)) ⟨t, rfl, upd_same⟩
        · have hc := count_in (cell ns 2) (0 + (i : Int) + 1)
          refine ⟨?_, fun p hp => ?_, fun p hp => ?_⟩
          · rw [List.map_append]
            exact nd_snoc dr.nd hj
          · rcases List.mem_append.mp hp with h | h
            · exact dr.val p h
            · rw [List.mem_singleton.mp h]; exact itn_in v0 k
          · rcases List.mem_append.mp hp with h | h
            · exact dr.cnt p h
            · rw [List.mem_singleton.mp h]; exact hc
      · have hin : itn v0 k ∈ ps.map (·.1) := by
          by_cases z : itn v0 k ∈ ps.map (·.1)
          · exact z
          · exact absurd z (hmin k (by omega))
        obtain ⟨v, ev⟩ := dkv_some hin
        rw [ev]
        refine iteT ⟨fun σ' H'' => ∃ n', n' < n ∧ ∃ k', k' + n' = j ∧ σ' = [some (.ref a), some (.int (cell ns 0)), some (.int m), some (.ref f), some (.ref d), some (.int (0 + (i : Int))), some (.int (itn v0 k'))] ∧ H'' = H3, fun _ _ z => z, ?_⟩
        repeat (first | refine ⟨_, rfl, ?_⟩ | refine ⟨(by show (0 : Int) < _; decide), ?_⟩ | refine ⟨⟨by decide, by decide⟩, ?_⟩ | refine ⟨.inr ⟨by decide, by decide⟩, ?_⟩ | refine ⟨.inl ⟨by decide, by decide⟩, ?_⟩ | refine ⟨⟨by decide, by decide, by decide⟩, ?_⟩ | refine ⟨_, _, rfl, rfl, ?_⟩ | refine ⟨rfl, _, rfl, ?_⟩)
        exact ⟨n - 1, by omega, k + 1, by omega, by rw [itn_succ]; rfl, rfl⟩
    · rintro σ H ⟨xs, ps, y5, y6, rfl, ex, ef, ed, hp, dr, hlen⟩
      refine ⟨_, rfl, q f xs ps H ex hf ef hp dr (by omega) (by omega)⟩
/-! ### list.count of a truth value -/
theorem vals_bl : ∀ {bs : List Bool} {us : List Value}, Vals (bs.map V.bl) us → us = bs.map Value.bool
  | [], _, .nil => rfl
  | b :: bs, _, .cons h r => by
    have e := vals_bl r
    rw [List.map_cons, e, show _ = Value.bool b from h]
def isB (k : Bool) : Value → Bool := fun v => decide (v = .bool k)
theorem isB_count (k : Bool) : ∀ bs : List Bool, (bs.map Value.bool).countP (isB k) = bs.count k
  | [] => rfl
  | b :: bs => by
    have ih := isB_count k bs
    rw [List.map_cons, List.countP_cons, List.count_cons, ih]
    cases b <;> cases k <;> rfl
def rCntB (K : PySem.W.Frag) : V → List V → Hp → VK → Prop := fun x xs H Q => ∃ (p : Addr) (bs : List Bool) (k : Bool), x = .ref p ∧ xs = [.bl k] ∧ SqL K H p (bs.map V.bl) ∧ Q (.int (bs.count k : Nat)) H
theorem mt_bcount {X : Cx} : MtR X "list.count" (rCntB X.K) := by
  intro pins s σ H x xs v us Q I ra ras h
  obtain ⟨p, bs, k, rfl, rfl, hs, q⟩ := h
  cases ra
  obtain ⟨u, rfl, re⟩ := ras.one
  cases (show u = Value.bool k from re)
  obtain ⟨zs, rz, ⟨⟨c0, d0, da, s0⟩, n, ho, hc, hn, hd⟩, hz⟩ := I.list hs
  simp only at hc hd
  subst hc hd
  cases vals_bl rz
  refine call_meets PySem.F.slot_list_count ⟨_, ho, rfl⟩ PySem.F.entry_list_count (PySem.F.args_list_count_2 _ _)
    (SeqAt.list_countAt p (bs.map Value.bool).toArray n d0 s0 (.bool k) (isB k)) ⟨ho, fun y hy => ?_, ?_⟩
  · obtain ⟨b, _, rfl⟩ := List.mem_map.mp (by simpa using hy : y ∈ bs.map Value.bool)
    have e : isB k (.bool b) = (b == k) := by cases b <;> cases k <;> rfl
    rw [e]
    exact SeqAt.EqAt.bool_bool b k
  · refine ⟨.int (bs.count k : Nat), H, I.tok _, ⟨s.toks, ?_⟩, q⟩
    show Value.int (((bs.map Value.bool).countP (isB k) : Nat) : Int) s.toks = Value.int ((bs.count k : Nat) : Int) s.toks
    rw [isB_count]
/-- counted in an except's suite: told by the K outside -/
theorem pe_countS {X : Cx} {b : Addr} {pn : List (Addr × Obj)} {o e : Expr} {es : List Expr} {to : TE} {t : TA} {apos cpos : Pos} (ho : PE (X.suite b pn) o to) (ha : PA (X.suite b pn) (e :: es) t)
    (h1 : attributeBase o "count" (X.suite b pn).env (eval o (X.suite b pn).env) = eval o (X.suite b pn).env := by rfl)
    (h2 : ((backTo cpos (starEach (e :: es) (X.suite b pn).env)).all (fun x => !x.1) && (backToKw cpos (keywordEach [] (X.suite b pn).env)).all (fun x => x.1.isSome)
      && decide ((e :: es).length + ([] : List Keyword).length + (if ([] : List Keyword).isEmpty then 0 else 1) < 30)) = true := by rfl)
    (h3 : (apos.endLine == cpos.line) = true := by rfl) (h4 : starEach (e :: es) (X.suite b pn).env = (false, eval e (X.suite b pn).env) :: starEach es (X.suite b pn).env := by rfl)
    (h5 : (backTo cpos (starEach es (X.suite b pn).env)).any (·.1) = false := by rfl) :
    PE (X.suite b pn) (.Call (.Attribute o "count" apos) (e :: es) [] cpos) (tBM X.K "list" (rCntB X.K) to t) :=
  pe_bm PySem.F.plainAttrs_list PySem.F.slot_list_count PySem.F.type_list_count mt_bcount ho ha h1 h2 h3 h4 h5
/-- appended in an except's suite -/
theorem pe_appendS {X : Cx} {b : Addr} {pn : List (Addr × Obj)} {o e : Expr} {es : List Expr} {to : TE} {t : TA} {r : V → List V → Hp → VK → Prop} {apos cpos : Pos} (hm : MtR (X.suite b pn) "list.append" r) (ho : PE (X.suite b pn) o to) (ha : PA (X.suite b pn) (e :: es) t)
    (h1 : attributeBase o "append" (X.suite b pn).env (eval o (X.suite b pn).env) = eval o (X.suite b pn).env := by rfl)
    (h2 : ((backTo cpos (starEach (e :: es) (X.suite b pn).env)).all (fun x => !x.1) && (backToKw cpos (keywordEach [] (X.suite b pn).env)).all (fun x => x.1.isSome)
      && decide ((e :: es).length + ([] : List Keyword).length + (if ([] : List Keyword).isEmpty then 0 else 1) < 30)) = true := by rfl)
    (h3 : (apos.endLine == cpos.line) = true := by rfl) (h4 : starEach (e :: es) (X.suite b pn).env = (false, eval e (X.suite b pn).env) :: starEach es (X.suite b pn).env := by rfl)
    (h5 : (backTo cpos (starEach es (X.suite b pn).env)).any (·.1) = false := by rfl) :
    PE (X.suite b pn) (.Call (.Attribute o "append" apos) (e :: es) [] cpos) (tBM X.K "list" r to t) :=
  pe_bm PySem.F.plainAttrs_list PySem.F.slot_list_append PySem.F.type_list_append hm ho ha h1 h2 h3 h4 h5
/-! ### the table, by itself: rows of fewest pieces -/
abbrev Cell := Option Int
def rAt (r : List Cell) (i : Nat) : Cell := r.getD i none
theorem rAt_lt {r : List Cell} {i : Nat} (h : i < r.length) : r[i]? = some (rAt r i) := by
  unfold rAt
  rw [List.getD_eq_getElem?_getD, List.getElem?_eq_getElem h]
  rfl
theorem rAt_map {f : Nat → Cell} {n i : Nat} (h : i < n) : rAt ((List.range n).map f) i = f i := by
  unfold rAt
  rw [List.getD_eq_getElem?_getD, List.getElem?_map, List.getElem?_range h]
  rfl
theorem row_ext {r : List Cell} {n : Nat} {f : Nat → Cell} (hl : r.length = n) (h : ∀ i, i < n → rAt r i = f i) : r = (List.range n).map f := by
  apply List.ext_getElem?
  intro i
  by_cases hi : i < n
  · rw [rAt_lt (by omega), h i hi, List.getElem?_map, List.getElem?_range hi]
    rfl
  · rw [List.getElem?_eq_none (by omega), List.getElem?_eq_none (by rw [List.length_map, List.length_range]; omega)]
/-- a place, given what stands there and what stands ahead by some pieces -/
def bund (o few : Cell) (s : Int) : Cell :=
  match few with
  | none => o
  | some x => match o with
    | none => some (x + s)
    | some y => if x + s < y then some (x + s) else some y
theorem bund_some {o : Cell} {x s : Int} : ∃ m, bund o (some x) s = some m ∧ m ≤ x + s := by
  cases o with
  | none => exact ⟨_, rfl, by omega⟩
  | some y =>
    by_cases h : x + s < y
    · exact ⟨x + s, if_pos h, by omega⟩
    · exact ⟨y, if_neg h, by omega⟩
theorem bund_le {few : Cell} {y s : Int} : ∃ m, bund (some y) few s = some m ∧ m ≤ y := by
  cases few with
  | none => exact ⟨_, rfl, by omega⟩
  | some x =>
    by_cases h : x + s < y
    · exact ⟨x + s, if_pos h, by omega⟩
    · exact ⟨y, if_neg h, by omega⟩
theorem bund_or {o few : Cell} {s m : Int} (h : bund o few s = some m) : o = some m ∨ ∃ x, few = some x ∧ m = x + s := by
  cases few with
  | none => exact .inl h
  | some x =>
    cases o with
    | none => exact .inr ⟨x, rfl, (Option.some.inj h).symm⟩
    | some y =>
      by_cases z : x + s < y
      · have e : bund (some y) (some x) s = some (x + s) := if_pos z
        rw [e] at h
        exact .inr ⟨x, rfl, (Option.some.inj h).symm⟩
      · have e : bund (some y) (some x) s = some y := if_neg z
        rw [e] at h
        exact .inl h
/-- o is the least over up to n pieces of v on top of the row r, at the place d -/
def Lst (r : List Cell) (v n d : Nat) (o : Cell) : Prop :=
  (∀ (j : Nat) (x : Int), j ≤ n → j * v ≤ d → rAt r (d - j * v) = some x → ∃ m, o = some m ∧ m ≤ x + j) ∧
  (∀ m, o = some m → ∃ (j : Nat) (x : Int), j ≤ n ∧ j * v ≤ d ∧ rAt r (d - j * v) = some x ∧ m = x + j)
theorem Lst.uniq {r : List Cell} {v n d : Nat} {o p : Cell} (h : Lst r v n d o) (k : Lst r v n d p) : o = p := by
  obtain ⟨h1, h2⟩ := h
  obtain ⟨k1, k2⟩ := k
  cases o with
  | none =>
    cases p with
    | none => rfl
    | some m =>
      obtain ⟨j, x, a, b, c, _⟩ := k2 m rfl
      obtain ⟨_, z, _⟩ := h1 j x a b c
      cases z
  | some m =>
    obtain ⟨j, x, a, b, c, e⟩ := h2 m rfl
    obtain ⟨q, rfl, le1⟩ := k1 j x a b c
    obtain ⟨j', x', a', b', c', e'⟩ := k2 q rfl
    obtain ⟨m', em, le2⟩ := h1 j' x' a' b' c'
    cases em
    have : m = q := by omega
    rw [this]
theorem Lst.cut {r : List Cell} {v n m d : Nat} {o : Cell} (h : Lst r v n d o) (hm : ∀ j, j * v ≤ d → (j ≤ n ↔ j ≤ m)) : Lst r v m d o :=
  ⟨fun j x a b c => h.1 j x ((hm j b).mpr a) b c, fun q e => let ⟨j, x, a, b, c, z⟩ := h.2 q e; ⟨j, x, (hm j b).mp a, b, c, z⟩⟩
theorem Lst.zero {r : List Cell} {v d : Nat} : Lst r v 0 d (rAt r d) := by
  refine ⟨fun j x a b c => ?_, fun m e => ⟨0, m, Nat.le_refl _, by omega, by simpa using e, by simp⟩⟩
  have hj : j = 0 := by omega
  subst hj
  exact ⟨x, by simpa using c, by simp⟩
/-- s pieces more at once, where s is one more than before at most -/
theorem Lst.more {r : List Cell} {v n d s : Nat} {o p : Cell} (h : Lst r v n d o) (hp : s * v ≤ d → Lst r v n (d - s * v) p) (hs : s ≤ n + 1) :
    Lst r v (n + s) d (if s * v ≤ d then bund o p s else o) := by
  by_cases hd : s * v ≤ d
  · rw [if_pos hd]
    obtain ⟨h1, h2⟩ := h
    obtain ⟨p1, p2⟩ := hp hd
    refine ⟨fun j x a b c => ?_, fun m e => ?_⟩
    · by_cases hj : j ≤ n
      · obtain ⟨m, rfl, le⟩ := h1 j x hj b c
        obtain ⟨q, e, le'⟩ := bund_le (few := p) (y := m) (s := s)
        exact ⟨q, e, by omega⟩
      · have e1 : (j - s) * v = j * v - s * v := Nat.sub_mul ..
        have e2 : s * v ≤ j * v := Nat.mul_le_mul_right _ (by omega)
        obtain ⟨m, rfl, le⟩ := p1 (j - s) x (by omega) (by omega) (by rw [show d - s * v - (j - s) * v = d - j * v by omega]; exact c)
        obtain ⟨q, e, le'⟩ := bund_some (o := o) (x := m) (s := s)
        exact ⟨q, e, by omega⟩
    · rcases bund_or e with rfl | ⟨y, rfl, rfl⟩
      · obtain ⟨j, x, a, b, c, z⟩ := h2 m rfl
        exact ⟨j, x, by omega, b, c, z⟩
      · obtain ⟨j, x, a, b, c, z⟩ := p2 y rfl
        have e1 : (j + s) * v = j * v + s * v := Nat.add_mul ..
        exact ⟨j + s, x, by omega, by omega, by rw [show d - (j + s) * v = d - s * v - j * v by omega]; exact c, by omega⟩
  · rw [if_neg hd]
    refine h.cut fun j hj => ⟨fun _ => by omega, fun hle => ?_⟩
    by_cases hjn : j ≤ n
    · exact hjn
    · exfalso
      have : s * v ≤ j * v := Nat.mul_le_mul_right _ (by omega)
      omega
/-- a bundle of s pieces worth a -/
def withBundle (r : List Cell) (a s : Nat) : List Cell := (List.range r.length).map fun d => if a ≤ d then bund (rAt r d) (rAt r (d - a)) s else rAt r d
theorem withBundle_len (r : List Cell) (a s : Nat) : (withBundle r a s).length = r.length := by
  unfold withBundle
  rw [List.length_map, List.length_range]
/-- each size is one more than what is ahead at most -/
def Steps : Nat → List Nat → Prop
  | _, [] => True
  | n, s :: r => s ≤ n + 1 ∧ Steps (n + s) r
theorem steps_snoc : ∀ {l : List Nat} {n s : Nat}, Steps n l → s ≤ n + l.sum + 1 → Steps n (l ++ [s])
  | [], n, s, _, h => ⟨by simpa using h, trivial⟩
  | a :: l, n, s, ⟨h1, h2⟩, h => ⟨h1, steps_snoc h2 (by rw [List.sum_cons] at h; omega)⟩
theorem fold_lst {r : List Cell} {v : Nat} : ∀ {l : List Nat} {n : Nat} {o : List Cell}, Steps n l → o.length = r.length → (∀ d, d < r.length → Lst r v n d (rAt o d)) →
    (l.foldl (fun o s => withBundle o (s * v) s) o).length = r.length ∧ ∀ d, d < r.length → Lst r v (n + l.sum) d (rAt (l.foldl (fun o s => withBundle o (s * v) s) o) d)
  | [], n, o, _, hl, h => ⟨hl, by simpa using h⟩
  | s :: l, n, o, ⟨hs, hst⟩, hl, h => by
    have h' : ∀ d, d < r.length → Lst r v (n + s) d (rAt (withBundle o (s * v) s) d) := by
      intro d hd
      unfold withBundle
      rw [rAt_map (by omega)]
      exact (h d hd).more (fun hle => h _ (by omega)) hs
    have := fold_lst (l := l) hst (by rw [withBundle_len, hl]) h'
    rw [List.foldl_cons, List.sum_cons]
    rw [show n + (s + l.sum) = n + s + l.sum by omega]
    exact this
/-- the least, count by count, as it is walked -/
def leastUp (r : List Cell) (v d : Nat) : Nat → Cell
  | 0 => none
  | i + 1 => bund (leastUp r v d i) (rAt r (d - i * v)) i
theorem leastUp_lst {r : List Cell} {v d : Nat} : ∀ {i : Nat}, i * v ≤ d → Lst r v i d (leastUp r v d (i + 1))
  | 0, _ => by
    have e : leastUp r v d 1 = rAt r d := by
      show bund none (rAt r (d - 0 * v)) ((0 : Nat) : Int) = rAt r d
      rw [Nat.zero_mul, Nat.sub_zero]
      cases rAt r d with
      | none => rfl
      | some x => show some (x + 0) = some x; rw [Int.add_zero]
    rw [e]
    exact Lst.zero
  | i + 1, h => by
    have h0 : i * v ≤ d := Nat.le_trans (Nat.mul_le_mul_right _ (by omega)) h
    obtain ⟨h1, h2⟩ := leastUp_lst (r := r) h0
    show Lst r v (i + 1) d (bund (leastUp r v d (i + 1)) (rAt r (d - (i + 1) * v)) ((i + 1 : Nat) : Int))
    refine ⟨fun j x a b c => ?_, fun m e => ?_⟩
    · by_cases hj : j ≤ i
      · obtain ⟨m, e, le⟩ := h1 j x hj b c
        rw [e]
        obtain ⟨q, e', le'⟩ := bund_le (few := rAt r (d - (i + 1) * v)) (y := m) (s := ((i + 1 : Nat) : Int))
        exact ⟨q, e', by omega⟩
      · have hj' : j = i + 1 := by omega
        subst hj'
        rw [c]
        exact bund_some
    · rcases bund_or e with z | ⟨y, z, rfl⟩
      · obtain ⟨j, x, a, b, c, z⟩ := h2 m z
        exact ⟨j, x, by omega, b, c, z⟩
      · exact ⟨i + 1, y, Nat.le_refl _, h, z, rfl⟩
def leastF (r : List Cell) (v c d : Nat) : Cell := leastUp r v d (min c (d / v) + 1)
theorem leastF_lst {r : List Cell} {v c d : Nat} (hv : 0 < v) : Lst r v c d (leastF r v c d) := by
  have h1 : min c (d / v) * v ≤ d := Nat.le_trans (Nat.mul_le_mul_right _ (Nat.min_le_right ..)) (Nat.div_mul_le_self ..)
  refine (leastUp_lst h1).cut fun j hj => ?_
  have : j ≤ d / v := (Nat.le_div_iff_mul_le hv).mpr hj
  omega
/-- the next row -/
def nextRow (r : List Cell) (v c : Nat) : List Cell := (List.range r.length).map (leastF r v c)
theorem nextRow_len (r : List Cell) (v c : Nat) : (nextRow r v c).length = r.length := by
  unfold nextRow
  rw [List.length_map, List.length_range]
theorem fold_next {r : List Cell} {v c : Nat} {l : List Nat} (hv : 0 < v) (hst : Steps 0 l) (hsum : l.sum = min c ((r.length - 1) / v)) : l.foldl (fun o s => withBundle o (s * v) s) r = nextRow r v c := by
  obtain ⟨h1, h2⟩ := fold_lst (r := r) (v := v) hst rfl fun d _ => Lst.zero
  refine row_ext h1 fun d hd => ?_
  refine Lst.uniq ((h2 d hd).cut (m := c) fun j hj => ?_) (leastF_lst hv)
  have : j ≤ (r.length - 1) / v := (Nat.le_div_iff_mul_le hv).mpr (by omega)
  omega
/-- the rows of a till -/
def rowsOf (r : List Cell) : List (Int × Int) → List (List Cell)
  | [] => [r]
  | p :: ps => r :: rowsOf (nextRow r p.1.toNat p.2.toNat) ps
def row0 (n : Nat) : List Cell := some 0 :: List.replicate n none
theorem row0_len (n : Nat) : (row0 n).length = n + 1 := by simp [row0]
def lastRow (r : List Cell) : List (Int × Int) → List Cell
  | [] => r
  | p :: ps => lastRow (nextRow r p.1.toNat p.2.toNat) ps
theorem lastRow_snoc (r : List Cell) (p : Int × Int) : ∀ ps : List (Int × Int), lastRow r (ps ++ [p]) = nextRow (lastRow r ps) p.1.toNat p.2.toNat := by
  intro ps
  induction ps generalizing r with
  | nil => rfl
  | cons q ps ih => exact ih _
theorem rowsOf_snoc (r : List Cell) (p : Int × Int) : ∀ ps : List (Int × Int), rowsOf r (ps ++ [p]) = rowsOf r ps ++ [lastRow r (ps ++ [p])] := by
  intro ps
  induction ps generalizing r with
  | nil => rfl
  | cons q ps ih => show r :: rowsOf _ (ps ++ [p]) = r :: rowsOf _ ps ++ [lastRow _ (ps ++ [p])]; rw [ih]; rfl
theorem rowsOf_len (r : List Cell) (ps : List (Int × Int)) : (rowsOf r ps).length = ps.length + 1 := by
  induction ps generalizing r with
  | nil => rfl
  | cons q ps ih => show (rowsOf _ ps).length + 1 = _; rw [ih]; rfl
theorem rowsOf_at (r : List Cell) (ps : List (Int × Int)) : ∀ k, k ≤ ps.length → (rowsOf r ps)[k]? = some (lastRow r (ps.take k)) := by
  induction ps generalizing r with
  | nil => intro k hk; have : k = 0 := by simpa using hk
           subst this; rfl
  | cons q ps ih =>
    intro k hk
    cases k with
    | zero => rfl
    | succ k =>
      show (rowsOf _ ps)[k]? = some (lastRow _ (ps.take k))
      exact ih _ k (by simpa using hk)
theorem lastRow_len (r : List Cell) (ps : List (Int × Int)) : (lastRow r ps).length = r.length := by
  induction ps generalizing r with
  | nil => rfl
  | cons q ps ih => show (lastRow _ ps).length = _; rw [ih, nextRow_len]
/-! ### the way that is told -/
/-- the greatest number of pieces, up to g, that the row ahead goes with -/
def pickUp (r : List Cell) (v d : Nat) (m : Int) : Nat → Nat
  | 0 => 0
  | g + 1 => if rAt r (d - (g + 1) * v) = some (m - ((g + 1 : Nat) : Int)) then g + 1 else pickUp r v d m g
def pick (r : List Cell) (v c d : Nat) (m : Int) : Nat := pickUp r v d m (min c (d / v))
theorem pickUp_le (r : List Cell) (v d : Nat) (m : Int) : ∀ g, pickUp r v d m g ≤ g
  | 0 => Nat.le_refl _
  | g + 1 => by
    unfold pickUp
    split
    · exact Nat.le_refl _
    · exact Nat.le_succ_of_le (pickUp_le r v d m g)
theorem pickUp_ok {r : List Cell} {v d : Nat} {m : Int} : ∀ {g : Nat}, (∃ j, j ≤ g ∧ rAt r (d - j * v) = some (m - (j : Int))) → rAt r (d - pickUp r v d m g * v) = some (m - (pickUp r v d m g : Int)) ∧ ∀ j, pickUp r v d m g < j → j ≤ g → rAt r (d - j * v) ≠ some (m - (j : Int))
  | 0, ⟨j, hj, h⟩ => by
    obtain rfl : j = 0 := by omega
    exact ⟨h, fun j h1 h2 => by omega⟩
  | g + 1, ⟨j, hj, h⟩ => by
    unfold pickUp
    by_cases e : rAt r (d - (g + 1) * v) = some (m - ((g + 1 : Nat) : Int))
    · rw [if_pos e]
      exact ⟨e, fun j h1 h2 => by omega⟩
    · rw [if_neg e]
      have hj2 : j ≠ g + 1 := fun z => e (by rw [← z]; exact h)
      obtain ⟨h1, h2⟩ := pickUp_ok (g := g) ⟨j, by omega, h⟩
      refine ⟨h1, fun i hi hi2 => ?_⟩
      by_cases z : i = g + 1
      · rw [z]
        exact e
      · exact h2 i hi (by omega)
/-- what the table tells of the last place goes back by some pieces of the last kind -/
theorem back_one {r : List Cell} {v c d : Nat} {m : Int} (hv : 0 < v) (h : leastF r v c d = some m) : ∃ j, j ≤ min c (d / v) ∧ rAt r (d - j * v) = some (m - (j : Int)) := by
  obtain ⟨j, x, a, b, e, rfl⟩ := (leastF_lst hv).2 m h
  refine ⟨j, Nat.le_min.mpr ⟨a, (Nat.le_div_iff_mul_le hv).mpr b⟩, ?_⟩
  rw [e]
  congr 1
  omega
def cellI (o : Cell) : Int := o.getD 0
/-- the way, by the table, of the first k kinds for d -/
def given (r0 : List Cell) (ps : List (Int × Int)) : Nat → Nat → List (Int × Int)
  | 0, _ => []
  | k + 1, d =>
    let p := ps.getD k (0, 0)
    let g := pick (lastRow r0 (ps.take k)) p.1.toNat p.2.toNat d (cellI (rAt (lastRow r0 (ps.take (k + 1))) d))
    given r0 ps k (d - g * p.1.toNat) ++ (if 0 < g then [(p.1, (g : Int))] else [])
theorem given_succ (r0 : List Cell) (ps : List (Int × Int)) (k d : Nat) {p : Int × Int} (hp : ps[k]? = some p) {g : Nat} (hg : g = pick (lastRow r0 (ps.take k)) p.1.toNat p.2.toNat d (cellI (rAt (lastRow r0 (ps.take (k + 1))) d))) :
    given r0 ps (k + 1) d = given r0 ps k (d - g * p.1.toNat) ++ (if 0 < g then [(p.1, (g : Int))] else []) := by
  subst hg
  show given r0 ps k _ ++ _ = _
  rw [show ps.getD k (0, 0) = p by rw [List.getD_eq_getElem?_getD, hp]; rfl]
/-- a place that the table tells, goes on to one that it tells -/
theorem step_ok {r0 : List Cell} {ps : List (Int × Int)} {k d : Nat} {m : Int} {p : Int × Int} (hp : ps[k]? = some p) (hv : 1 ≤ p.1) (hd : d < r0.length) (h : rAt (lastRow r0 (ps.take (k + 1))) d = some m) {g : Nat}
    (hg : g = pick (lastRow r0 (ps.take k)) p.1.toNat p.2.toNat d m) :
    g ≤ p.2.toNat ∧ g * p.1.toNat ≤ d ∧ rAt (lastRow r0 (ps.take k)) (d - g * p.1.toNat) = some (m - (g : Int)) := by
  have hl : (lastRow r0 (ps.take k)).length = r0.length := lastRow_len ..
  have e : leastF (lastRow r0 (ps.take k)) p.1.toNat p.2.toNat d = some m := by
    rw [← h, List.take_add_one, hp]
    show _ = rAt (lastRow r0 (ps.take k ++ [p])) d
    rw [lastRow_snoc]
    exact (rAt_map (by rw [hl]; exact hd)).symm
  have hb := back_one (by omega) e
  have hle := pickUp_le (lastRow r0 (ps.take k)) p.1.toNat d m (min p.2.toNat (d / p.1.toNat))
  have hok := (pickUp_ok hb).1
  have hgg : g = pickUp (lastRow r0 (ps.take k)) p.1.toNat d m (min p.2.toNat (d / p.1.toNat)) := hg
  rw [← hgg] at hle hok
  refine ⟨by omega, ?_, hok⟩
  exact Nat.le_trans (Nat.mul_le_mul_right _ (by omega : g ≤ d / p.1.toNat)) (Nat.div_mul_le_self ..)
def worthP (l : List (Int × Int)) : Int := (l.map fun p => p.1 * p.2).sum
def manyP (l : List (Int × Int)) : Int := (l.map (·.2)).sum
theorem worthP_app (l k : List (Int × Int)) : worthP (l ++ k) = worthP l + worthP k := by
  unfold worthP
  rw [List.map_append, List.sum_append]
theorem manyP_app (l k : List (Int × Int)) : manyP (l ++ k) = manyP l + manyP k := by
  unfold manyP
  rw [List.map_append, List.sum_append]
theorem row0_some {n d : Nat} {m : Int} (h : rAt (row0 n) d = some m) : d = 0 ∧ m = 0 := by
  cases d with
  | zero =>
    have : some (0 : Int) = some m := h
    exact ⟨rfl, (Option.some.inj this).symm⟩
  | succ d =>
    have : (List.replicate n (none : Cell)).getD d none = some m := h
    rw [List.getD_eq_getElem?_getD, List.getElem?_replicate] at this
    split at this <;> cases this
/-- what the way is -/
theorem given_ok {n : Nat} {ps : List (Int × Int)} (hv : ∀ p ∈ ps, 1 ≤ p.1) : ∀ {k d : Nat} {m : Int}, k ≤ ps.length → d < n + 1 → rAt (lastRow (row0 n) (ps.take k)) d = some m →
    worthP (given (row0 n) ps k d) = (d : Int) ∧ manyP (given (row0 n) ps k d) = m ∧ (∀ q ∈ given (row0 n) ps k d, 1 ≤ q.2 ∧ ∃ c, (q.1, c) ∈ ps.take k ∧ q.2 ≤ c) ∧
    (ps.Pairwise (fun p q => p.1 < q.1) → (given (row0 n) ps k d).Pairwise fun p q => p.1 < q.1) ∧ (given (row0 n) ps k d).length ≤ k
  | 0, d, m, _, _, h => by
    obtain ⟨rfl, rfl⟩ := row0_some h
    exact ⟨rfl, rfl, by simp [given], fun _ => .nil, Nat.le_refl _⟩
  | k + 1, d, m, hk, hd, h => by
    have hp := List.getElem?_eq_getElem (show k < ps.length by omega)
    have hpm := List.getElem_mem (show k < ps.length by omega)
    generalize ps[k] = p at hp hpm
    have hv1 := hv p hpm
    obtain ⟨g1, g2, g3⟩ := step_ok hp hv1 (by rw [row0_len]; exact hd) h rfl
    rw [given_succ (row0 n) ps k d hp (g := pick (lastRow (row0 n) (ps.take k)) p.1.toNat p.2.toNat d m) (by rw [h]; rfl)]
    generalize pick (lastRow (row0 n) (ps.take k)) p.1.toNat p.2.toNat d m = g at g1 g2 g3
    obtain ⟨i1, i2, i3, i4, i5⟩ := given_ok hv (k := k) (by omega) (by omega) g3
    have tk : ps.take (k + 1) = ps.take k ++ [p] := by
      rw [List.take_add_one, hp]
      rfl
    by_cases hg : 0 < g
    · rw [if_pos hg]
      refine ⟨?_, ?_, ?_, ?_, ?_⟩
      · rw [worthP_app, i1]
        show ((d - g * p.1.toNat : Nat) : Int) + (p.1 * (g : Int) + 0) = d
        have e : ((g * p.1.toNat : Nat) : Int) = (g : Int) * p.1 := by
          rw [Int.natCast_mul, Int.toNat_of_nonneg (by omega)]
        rw [Int.mul_comm p.1]
        omega
      · rw [manyP_app, i2]
        show m - (g : Int) + ((g : Int) + 0) = m
        omega
      · intro q hq
        rcases List.mem_append.mp hq with z | z
        · obtain ⟨a, c, b, b'⟩ := i3 q z
          exact ⟨a, c, by rw [tk]; exact List.mem_append.mpr (.inl b), b'⟩
        · rw [List.mem_singleton.mp z]
          exact ⟨by show (1 : Int) ≤ g; omega, p.2, by rw [tk]; exact List.mem_append.mpr (.inr (List.mem_singleton.mpr rfl)), by show (g : Int) ≤ p.2; omega⟩
      · intro hr
        rw [List.pairwise_append]
        refine ⟨i4 hr, List.pairwise_singleton .., fun a ha b hb => ?_⟩
        rw [List.mem_singleton.mp hb]
        obtain ⟨_, c, hc, _⟩ := i3 a ha
        have hpw : (ps.take k ++ [p]).Pairwise fun p q => p.1 < q.1 := by
          rw [← tk]
          exact hr.sublist (List.take_sublist ..)
        exact (List.pairwise_append.mp hpw).2.2 _ hc p (List.mem_singleton.mpr rfl)
      · rw [List.length_append]
        show _ + 1 ≤ k + 1
        omega
    · rw [if_neg hg, List.append_nil]
      have g0 : g = 0 := by omega
      subst g0
      refine ⟨by rw [i1]; omega, by rw [i2]; simp, fun q hq => ?_, i4, by omega⟩
      obtain ⟨a, c, b, b'⟩ := i3 q hq
      exact ⟨a, c, by rw [tk]; exact List.mem_append.mpr (.inl b), b'⟩
/-! ### the table, as it is built -/
/-! ### rows as lists -/
def vO : Cell → V
  | none => .non
  | some i => .int i
theorem vO_at {r : List Cell} {i : Nat} (h : i < r.length) : (r.map vO)[i]? = some (vO (rAt r i)) := by
  rw [List.getElem?_map, rAt_lt h]
  rfl
def Row (K : PySem.W.Frag) (H : Hp) (a : Addr) (r : List Cell) : Prop := SqL K H a (r.map vO)
/-- the rows, each a list of its own -/
def RowsAt (H : Hp) : List Addr → List (List Cell) → Prop := Paired fun a r => H a = some (.lst (r.map vO))
theorem RowsAt.ex {H H' : Hp} (e : Ex H H') : ∀ {as : List Addr} {rs : List (List Cell)}, RowsAt H as rs → RowsAt H' as rs
  | _, _, .nil => .nil
  | _, _, .cons h r => .cons (e _ _ h) (RowsAt.ex e r)
theorem RowsAt.len {H : Hp} {as : List Addr} {rs : List (List Cell)} (h : RowsAt H as rs) : as.length = rs.length := Paired.length h
theorem RowsAt.snoc {H : Hp} : ∀ {as : List Addr} {rs : List (List Cell)} {a : Addr} {r : List Cell}, RowsAt H as rs → H a = some (.lst (r.map vO)) → RowsAt H (as ++ [a]) (rs ++ [r])
  | _, _, _, _, .nil, h => .cons h .nil
  | _, _, _, _, .cons b r, h => .cons b (RowsAt.snoc r h)
theorem RowsAt.get {H : Hp} : ∀ {as : List Addr} {rs : List (List Cell)} {i : Nat} {r : List Cell}, RowsAt H as rs → rs[i]? = some r → ∃ a, as[i]? = some a ∧ H a = some (.lst (r.map vO))
  | _, _, i, _, .nil, e => by simp at e
  | _, _, 0, _, .cons h _, e => by simp at e; subst e; exact ⟨_, by simp, h⟩
  | _, _, i + 1, _, .cons _ r, e => by
    obtain ⟨a, h1, h2⟩ := RowsAt.get (i := i) r (by simpa using e)
    exact ⟨a, by simpa using h1, h2⟩
theorem RowsAt.getA {H : Hp} : ∀ {as : List Addr} {rs : List (List Cell)} {i : Nat} {a : Addr}, RowsAt H as rs → as[i]? = some a → ∃ r, rs[i]? = some r ∧ H a = some (.lst (r.map vO))
  | _, _, i, _, .nil, e => by simp at e
  | _, _, 0, _, .cons h _, e => by simp at e; subst e; exact ⟨_, by simp, h⟩
  | _, _, i + 1, _, .cons _ r, e => by
    obtain ⟨x, h1, h2⟩ := RowsAt.getA (i := i) r (by simpa using e)
    exact ⟨x, by simpa using h1, h2⟩
theorem RowsAt.up {H : Hp} {f : Addr} {o : HO} : ∀ {as : List Addr} {rs : List (List Cell)}, f ∉ as → RowsAt H as rs → RowsAt (upd H f o) as rs
  | _, _, _, .nil => .nil
  | _, _, hf, .cons h r => .cons (by rw [upd_ne fun e => hf (by rw [← e]; exact List.mem_cons_self)]; exact h) (RowsAt.up (fun z => hf (List.mem_cons_of_mem _ z)) r)
theorem RowsAt.mem {H : Hp} : ∀ {as : List Addr} {rs : List (List Cell)} {x : Addr}, RowsAt H as rs → x ∈ as → ∃ o, H x = some o
  | a :: as, _, x, .cons h r, hx => by
    rcases List.mem_cons.mp hx with e | e
    · exact ⟨_, e ▸ h⟩
    · exact RowsAt.mem r e
/-- the table: new lists -/
def NewRows (H : Hp) (rs : List (List Cell)) (Q : VK) : Prop := ∀ R as H2, Ex H H2 → (∀ a ∈ R :: as, H a = none) → (R :: as).Nodup → H2 R = some (.lst (as.map V.ref)) → RowsAt H2 as rs → Q (.ref R) H2
theorem at_row {H : Hp} {as : List Addr} {rs : List (List Cell)} {i : Int} {k : Nat} {r : List Cell} (h : RowsAt H as rs) (hi : i = (k : Int)) (e : rs[k]? = some r) : ∃ a, atI (as.map V.ref) i = some (.ref a) ∧ as[k]? = some a ∧ H a = some (.lst (r.map vO)) := by
  obtain ⟨a, h1, h2⟩ := h.get e
  refine ⟨a, at_of hi ?_, h1, h2⟩
  rw [List.getElem?_map, h1]
  rfl
/-- the bundle, as far as a place -/
def wbUp (r : List Cell) (A s m : Nat) : List Cell := (List.range r.length).map fun d => if A ≤ d ∧ d < m then bund (rAt r d) (rAt r (d - A)) s else rAt r d
theorem wbUp_len (r : List Cell) (A s m : Nat) : (wbUp r A s m).length = r.length := by
  show ((List.range r.length).map _).length = _
  rw [List.length_map, List.length_range]
theorem wbUp_start (r : List Cell) (A s : Nat) : wbUp r A s A = r := by
  refine (row_ext rfl fun i hi => ?_).symm
  rw [if_neg (by omega)]
theorem wbUp_end {r : List Cell} {A s m : Nat} (h : r.length ≤ m) : wbUp r A s m = withBundle r A s := by
  refine row_ext (wbUp_len ..) fun i hi => ?_
  rw [show rAt (wbUp r A s m) i = _ from rAt_map hi]
  by_cases ha : A ≤ i
  · rw [if_pos ha, if_pos ⟨ha, by omega⟩]
  · rw [if_neg ha, if_neg fun z => ha z.1]
theorem wbUp_at {r : List Cell} {A s m : Nat} (h : m < r.length) : rAt (wbUp r A s m) m = rAt r m := by
  rw [show rAt (wbUp r A s m) m = _ from rAt_map h, if_neg (by omega)]
theorem set_map {r : List Cell} {m : Nat} {c : Cell} : (r.map vO).set m (vO c) = (r.set m c).map vO := by
  rw [List.map_set]
theorem wbUp_set {r : List Cell} {A s m : Nat} {c : Cell} (hm : m < r.length) (ha : A ≤ m) (hc : c = bund (rAt r m) (rAt r (m - A)) s) : (wbUp r A s m).set m c = wbUp r A s (m + 1) := by
  apply List.ext_getElem?
  intro i
  by_cases hi : i < r.length
  · rw [rAt_lt (r := wbUp r A s (m + 1)) (by rw [wbUp_len]; exact hi), show rAt (wbUp r A s (m + 1)) i = _ from rAt_map hi]
    by_cases e : i = m
    · subst e
      rw [List.getElem?_set_self (by rw [wbUp_len]; exact hi), if_pos ⟨ha, by omega⟩, hc]
    · rw [List.getElem?_set_ne (by omega), rAt_lt (by rw [wbUp_len]; exact hi), show rAt (wbUp r A s m) i = _ from rAt_map hi]
      by_cases z : A ≤ i ∧ i < m
      · rw [if_pos z, if_pos ⟨z.1, by omega⟩]
      · rw [if_neg z, if_neg (by omega)]
  · rw [List.getElem?_eq_none (by rw [List.length_set, wbUp_len]; omega), List.getElem?_eq_none (by rw [wbUp_len]; omega)]
theorem wbUp_keep {r : List Cell} {A s m : Nat} (hm : m < r.length) (h : rAt r m = bund (rAt r m) (rAt r (m - A)) s) : wbUp r A s (m + 1) = wbUp r A s m := by
  refine row_ext (n := r.length) (wbUp_len ..) fun i hi => ?_
  rw [show rAt (wbUp r A s (m + 1)) i = _ from rAt_map hi]
  by_cases e : i = m
  · subst e
    rw [if_neg (by omega : ¬ (A ≤ i ∧ i < i))]
    split
    · exact h.symm
    · rfl
  · by_cases z : A ≤ i ∧ i < m
    · rw [if_pos z, if_pos ⟨z.1, by omega⟩]
    · rw [if_neg z, if_neg (by omega)]
/-- a new row -/
def NewRow (H : Hp) (r : List Cell) (Q : VK) : Prop := ∀ p H2, Ex H H2 → H p = none → H2 p = some (.lst (r.map vO)) → Q (.ref p) H2
def spBundle (K : PySem.W.Frag) : Sp := fun vs H Q _ => ∃ (a : Addr) (r : List Cell) (A s : Nat), vs = [.ref a, .int (A : Int), .int (s : Int)] ∧ Row K H a r ∧ r.length ≤ 2000 ∧ A ≤ 1000000 ∧ NewRow H (withBundle r A s) Q
theorem ok_with_bundle (T : Tx K mg) : FnOk P w K mg base CX0 1 T.a__with_bundle T.d__with_bundle P__with_bundle (spBundle K) := by
  refine T.f__with_bundle.ok sc__with_bundle (fun vs H Q E h => ?_) (fun cdv A outer s H vs Q E hr h => ?_)
  · obtain ⟨a, r, B, s, rfl, _⟩ := h
    rfl
  · obtain ⟨a, r, B, s, rfl, hS, hl, hB, q⟩ := h
    refine ⟨_, (pss_cons (ps_set (i := 3) sc__with_bundle.nd rfl (.inl rfl) (pe_callTy call_list_of (by rfl) T.m_list (by decide +kernel) (pa_cons (pv 0) pa_nil)))
    (pss_cons (ps_for PassesOwn.never rfl (pi_range2 (by rfl) T.m_range (pa_cons (pv 1) (pa_cons (pe_callB call_len_seq (by rfl) T.m_len (by decide +kernel) (pa_cons (pv 0) pa_nil)) pa_nil))) (pg_name (i := 4) sc__with_bundle.nd rfl (.inl rfl))
      (pss_cons (ps_set (i := 5) sc__with_bundle.nd rfl (.inl rfl) (pe_ix ix_list (pv 0) (pe_op op_sub (pv 4) (pv 1)) (fun _ _ => rfl)))
      (pss_one (ps_if (PW.pt (pw_and (pt_cmpR op_notN (pv 5) pe_non (nomark _)) (pw_and1 (PW.pt (pw_or (pt_cmpR op_isN (pe_ix ix_list (pv 3) (pv 4) (fun _ _ => rfl)) pe_non (nomark _)) (pw_or1 (pt_cmpR op_lt (pe_op op_add (pv 5) (pv 2)) (pe_ix ix_list (pv 3) (pv 4) (fun _ _ => rfl)) (nomark _))))))))
        (pss_one (ps_asg (pe_op op_add (pv 5) (pv 2)) (pg_sub (pv 3) (pv 4) set_list)))
        pss_nil))))
    (pss_one (ps_ret (pv 3))))), ?_⟩
    have hS' : SqL K H a (r.map vO) := hS
    refine ⟨_, rfl, a, _, rfl, .inl hS', fun l hl0 => ?_⟩
    have hrl : (r.map vO).length = r.length := List.length_map _
    have nal : ∀ ys, H a = some (.lst ys) → a ≠ l := fun ys z => ne_of_none z hl0
    refine ⟨_, rfl, _, rfl, a, _, rfl, .inl ((Ex.nw hl0).seq hS'), _, _, rfl, ⟨by omega, by omega, by omega, by omega⟩, ?_⟩
    refine for_range (fun i σ H' => ∃ y4 y5, σ = [some (.ref a), some (.int (B : Int)), some (.int (s : Int)), some (.ref l), y4, y5] ∧ Ex H H' ∧ H' l = some (.lst ((wbUp r B s (B + i)).map vO)))
      ⟨_, _, rfl, Ex.nw hl0, by rw [Nat.add_zero, wbUp_start]; exact upd_same⟩ ?_ ?_
    · rintro i σ H1 hi ⟨y4, y5, rfl, ex, el⟩
      have hlt : B + i < r.length := by omega
      have a1 : atI (r.map vO) ((B : Int) + (i : Int) - (B : Int)) = some (vO (rAt r i)) := at_of (j := i) (by omega) (vO_at (by omega))
      have a2 : atI ((wbUp r B s (B + i)).map vO) ((B : Int) + (i : Int)) = some (vO (rAt r (B + i))) := at_of (j := B + i) (by omega) (by
        rw [vO_at (by rw [wbUp_len]; exact hlt), wbUp_at hlt])
      have sub : B + i - B = i := by omega
      refine ⟨_, rfl, _, rfl, _, rfl, _, _, rfl, rfl, a, _, _, _, rfl, rfl, ex.seq hS', a1, ?_⟩
      have keep : bund (rAt r (B + i)) (rAt r i) (s : Int) = rAt r (B + i) → wbUp r B s (B + (i + 1)) = wbUp r B s (B + i) := fun z => wbUp_keep hlt (by
        show rAt r (B + i) = bund (rAt r (B + i)) (rAt r (B + i - B)) s
        rw [sub]
        exact z.symm)
      have put : ∀ {x : Int} {o : Cell}, rAt r i = some x → rAt r (B + i) = o → bund o (some x) (s : Int) = some (x + (s : Int)) → ((wbUp r B s (B + i)).map vO).set (B + i) (.int (x + (s : Int))) = (wbUp r B s (B + (i + 1))).map vO := by
        intro x o h1 h2 h3
        rw [show V.int (x + (s : Int)) = vO (some (x + (s : Int))) from rfl, set_map]
        congr 1
        refine wbUp_set hlt (by omega) ?_
        rw [sub, h1, h2, h3]
      have hix : ixN ((wbUp r B s (B + i)).map vO).length ((B : Int) + (i : Int)) = some (B + i) := by
        rw [show ((B : Int) + (i : Int)) = ((B + i : Nat) : Int) from rfl]
        exact Evl.ixN_nat (by rw [List.length_map, wbUp_len]; exact hlt)
      cases hx : rAt r i with
      | none =>
        refine ⟨_, rfl, rfl, _, rfl, iteDN (fun z => absurd rfl z) (fun _ => iteF ?_)⟩
        exact ⟨_, _, rfl, ex, by rw [keep (by rw [hx]; rfl)]; exact el⟩
      | some x =>
        refine ⟨_, rfl, rfl, _, rfl, iteDN (fun _ => ?_) (fun z => nomatch z)⟩
        cases hy : rAt r (B + i) with
        | none =>
          rw [hy] at a2
          refine ⟨_, rfl, _, rfl, l, _, _, _, rfl, rfl, .of el, a2, rfl, _, rfl, iteD (fun _ => iteT ?_) (fun z => absurd rfl z)⟩
          refine ⟨_, rfl, _, rfl, _, _, rfl, rfl, _, rfl, _, rfl, l, _, _, B + i, rfl, rfl, el, hix, _, _, rfl, Ex.mu ex hl0, ?_⟩
          rw [upd_same, put hx hy rfl]
        | some y =>
          rw [hy] at a2
          refine ⟨_, rfl, _, rfl, l, _, _, _, rfl, rfl, .of el, a2, rfl, _, rfl, iteD (fun z => nomatch z) (fun _ => ?_)⟩
          refine ⟨_, rfl, _, rfl, _, _, rfl, rfl, _, rfl, _, rfl, l, _, _, _, rfl, rfl, .of el, a2, _, _, rfl, rfl, _, rfl, iteD (fun e => ?_) (fun e => ?_)⟩
          · refine ⟨_, rfl, _, rfl, _, _, rfl, rfl, _, rfl, _, rfl, l, _, _, B + i, rfl, rfl, el, hix, _, _, rfl, Ex.mu ex hl0, ?_⟩
            rw [upd_same, put hx hy (if_pos e)]
          · refine ⟨_, _, rfl, ex, ?_⟩
            rw [keep (by rw [hx, hy]; exact if_neg e)]
            exact el
    · rintro σ H1 ⟨y4, y5, rfl, ex, el⟩
      rw [wbUp_end (by omega)] at el
      exact ⟨_, rfl, q l H1 ex hl0 el⟩
/-- the bundles -/
def spBundles : Sp := fun vs H Q _ => ∃ n : Nat, vs = [.int (n : Int)] ∧ n ≤ 100000 ∧ ∀ p ss H2, Ex H H2 → H p = none → H2 p = some (.lst (ss.map fun k : Nat => V.int (k : Int))) → Steps 0 ss → ss.sum = n → ss.length ≤ n → Q (.ref p) H2
theorem ok_bundles (T : Tx K mg) : FnOk P w K mg base CX0 1 T.a__bundles T.d__bundles P__bundles spBundles := by
  refine T.f__bundles.ok sc__bundles (fun vs H Q E h => ?_) (fun cdv A outer s H vs Q E hr h => ?_)
  · obtain ⟨n, rfl, _⟩ := h
    rfl
  · obtain ⟨n, rfl, hn, q⟩ := h
    refine ⟨_, (pss_cons (ps_set (i := 1) sc__bundles.nd rfl (.inl rfl) (pe_lst pa_nil))
    (pss_cons (ps_set (i := 2) sc__bundles.nd rfl (.inl rfl) pe_int)
    (pss_cons (ps_while PassesOwn.never (pt_cmpR op_gt (pv 0) pe_int (nomark _))
      (pss_cons (ps_set (i := 3) sc__bundles.nd rfl (.inl rfl) (pe_callB (call_min2 rfl) (by rfl) T.m_min (by decide +kernel) (pa_cons (pv 2) (pa_cons (pv 0) pa_nil))))
      (pss_cons (ps_expr (pe_bm PySem.F.plainAttrs_list PySem.F.slot_list_append PySem.F.type_list_append mt_append (pv 1) (pa_cons (pv 3) pa_nil)))
      (pss_cons (ps_aug (i := 0) sc__bundles.nd rfl (.inl rfl) (pv 3) ip_sub)
      (pss_one (ps_aug (i := 2) sc__bundles.nd rfl (.inl rfl) pe_int ip_mulR))))))
    (pss_one (ps_ret (pv 1)))))), ?_⟩
    refine ⟨Nat.zero_le _, fun l hl0 => ?_⟩
    refine ⟨fun m σ H' => ∃ (ss : List Nat) (z : Nat) (y3 : Option V), σ = [some (.int (m : Int)), some (.ref l), some (.int (z : Int)), y3] ∧ Ex H H' ∧ H' l = some (.lst (ss.map fun k : Nat => V.int (k : Int))) ∧ Steps 0 ss ∧ ss.sum + m = n ∧ ss.length ≤ ss.sum ∧ 1 ≤ z ∧ (m = 0 ∨ z = ss.sum + 1),
      ⟨n, [], 1, none, rfl, Ex.nw hl0, upd_same, trivial, by simp, by simp, Nat.le_refl _, .inr (by simp)⟩, ?_⟩
    rintro m σ H' ⟨ss, z, y3, rfl, ex, el, hst, hsum, hlen, hz, hmz⟩
    refine ⟨_, rfl, _, _, rfl, rfl, _, rfl, iteD (fun e => ?_) (fun e => ?_)⟩
    · have hm : 0 < m := by omega
      obtain ⟨t, ht, ht1, ht2, ht3⟩ : ∃ t : Nat, (if (m : Int) < (z : Int) then (m : Int) else (z : Int)) = (t : Int) ∧ 1 ≤ t ∧ t ≤ m ∧ t ≤ z ∧ (t = m ∨ t = z) := by
        by_cases h : (m : Int) < (z : Int)
        · exact ⟨m, if_pos h, by omega, by omega, by omega, .inl rfl⟩
        · exact ⟨z, if_neg h, hz, by omega, by omega, .inr rfl⟩
      refine ⟨fun σ' H2 => ∃ m', m' < m ∧ ∃ (ss : List Nat) (z : Nat) (y3 : Option V), σ' = [some (.int (m' : Int)), some (.ref l), some (.int (z : Int)), y3] ∧ Ex H H2 ∧ H2 l = some (.lst (ss.map fun k : Nat => V.int (k : Int))) ∧ Steps 0 ss ∧ ss.sum + m' = n ∧ ss.length ≤ ss.sum ∧ 1 ≤ z ∧ (m' = 0 ∨ z = ss.sum + 1), fun _ _ z => z, ?_⟩
      refine ⟨_, rfl, _, rfl, _, _, rfl, ?_⟩
      rw [ht]
      have hl2 : (ss ++ [t]).map (fun k : Nat => V.int (k : Int)) = ss.map (fun k : Nat => V.int (k : Int)) ++ [V.int (t : Int)] := by rw [List.map_append]; rfl
      have hs2 : (ss ++ [t]).sum = ss.sum + t := by rw [List.sum_append]; simp
      refine ⟨_, rfl, .inl ⟨rfl, _, .of el⟩, _, rfl, l, _, _, rfl, rfl, el, len63' (by rw [List.length_map]; omega), ?_⟩
      refine ⟨_, rfl, _, rfl, _, _, rfl, rfl, ?_⟩
      refine ⟨_, rfl, _, _, rfl, rfl, .inr ⟨by decide, by decide⟩, ?_⟩
      refine ⟨m - t, by omega, ss ++ [t], z * 2, some (.int (t : Int)), ?_, Ex.mu ex hl0, ?_, steps_snoc hst (by omega), by omega, by rw [List.length_append, hs2]; simp; omega, by omega, by omega⟩
      · show [some (V.int ((m : Int) - (t : Int))), some (.ref l), some (.int ((z : Int) * 2)), some (.int (t : Int))] = _
        rw [show (m : Int) - (t : Int) = ((m - t : Nat) : Int) by omega, show (z : Int) * 2 = ((z * 2 : Nat) : Int) by omega]
      · rw [hl2]
        exact upd_same
    · exact ⟨_, rfl, q l ss H' ex hl0 el hst (by omega) (by omega)⟩
theorem le_sum : ∀ {l : List Nat} {x : Nat}, x ∈ l → x ≤ l.sum
  | a :: l, x, h => by
    rw [List.sum_cons]
    rcases List.mem_cons.mp h with e | e
    · omega
    · have := le_sum e
      omega
theorem fold_len (r : List Cell) (v : Nat) : ∀ (l : List Nat), (l.foldl (fun o s => withBundle o (s * v) s) r).length = r.length := by
  intro l
  induction l generalizing r with
  | nil => rfl
  | cons s l ih => rw [List.foldl_cons, ih, withBundle_len]
/-- a kind more -/
def spKind (K : PySem.W.Frag) : Sp := fun vs H Q _ => ∃ (a : Addr) (r : List Cell) (v c : Nat), vs = [.ref a, .int (v : Int), .int (c : Int)] ∧ Row K H a r ∧ 1 ≤ r.length ∧ r.length ≤ 2000 ∧ 1 ≤ v ∧ v ≤ 100000 ∧ NewRow H (nextRow r v c) Q
theorem ok_with_kind (T : Tx K mg) : FnOk P w K mg base CX0 2 T.a_with_kind T.d_with_kind P_with_kind (spKind K) := by
  have G__bundles := ok_bundles (P := P) (w := w) (base := base) T
  have G__with_bundle := ok_with_bundle (P := P) (w := w) (base := base) T
  refine T.f_with_kind.ok sc_with_kind (fun vs H Q E h => ?_) (fun cdv A outer s H vs Q E hr h => ?_)
  · obtain ⟨a, r, v, c, rfl, _⟩ := h
    rfl
  · obtain ⟨a, r, v, c, rfl, hS, hl1, hl, hv1, hv2, q⟩ := h
    refine ⟨_, (pss_cons (ps_set (i := 3) sc_with_kind.nd rfl (.inl rfl) (pe_callTy call_list_of (by rfl) T.m_list (by decide +kernel) (pa_cons (pv 0) pa_nil)))
    (pss_cons (ps_set (i := 4) sc_with_kind.nd rfl (.inl rfl) (pe_callB (call_min2 rfl) (by rfl) T.m_min (by decide +kernel) (pa_cons (pv 2) (pa_cons (pe_op op_fdiv (pe_op op_sub (pe_callB call_len_seq (by rfl) T.m_len (by decide +kernel) (pa_cons (pv 0) pa_nil)) pe_int) (pv 1)) pa_nil))))
    (pss_cons (ps_for PassesOwn.never rfl (pi_list (pe_call G__bundles (hr.mono (by decide)) (by rfl) T.g__bundles T.f__bundles.kp T.p__bundles .nil pass0 (pa_cons (pv 4) pa_nil))) (pg_name (i := 5) sc_with_kind.nd rfl (.inl rfl))
      (pss_one (ps_set (i := 3) sc_with_kind.nd rfl (.inl rfl) (pe_call G__with_bundle (hr.mono (by decide)) (by rfl) T.g__with_bundle T.f__with_bundle.kp T.p__with_bundle .nil pass0 (pa_cons (pv 3) (pa_cons (pe_op op_mul (pv 5) (pv 1)) (pa_cons (pv 5) pa_nil)))))))
    (pss_one (ps_ret (pv 3)))))), ?_⟩
    have hS' : SqL K H a (r.map vO) := hS
    have hrl : (r.map vO).length = r.length := List.length_map _
    refine ⟨_, rfl, a, _, rfl, .inl hS', fun l hl0 => ?_⟩
    (generalize hh : upd H l _ = H1; have e1 : Ex H H1 := (by rw [← hh]; exact Ex.nw hl0); have cl := (show H1 l = some _ by rw [← hh]; exact upd_same); clear hh)
    obtain ⟨n, hn, hnn⟩ : ∃ n : Nat, (if (((r.map vO).length : Int) - 1) / (v : Int) < (c : Int) then (((r.map vO).length : Int) - 1) / (v : Int) else (c : Int)) = (n : Int) ∧ n = min c ((r.length - 1) / v) := by
      rw [hrl, show ((r.length : Int) - 1) / (v : Int) = (((r.length - 1) / v : Nat) : Int) by
        rw [Int.natCast_ediv]
        congr 1
        omega]
      by_cases h : (((r.length - 1) / v : Nat) : Int) < (c : Int)
      · exact ⟨(r.length - 1) / v, if_pos h, by omega⟩
      · exact ⟨c, if_neg h, by omega⟩
    have hn2 : n ≤ 2000 := by
      have : (r.length - 1) / v ≤ r.length - 1 := Nat.div_le_self ..
      omega
    refine ⟨_, rfl, _, rfl, a, _, rfl, .inl (e1.seq hS'), _, _, rfl, rfl, _, rfl, _, _, rfl, rfl, ⟨by omega, by omega⟩, _, _, rfl, ?_⟩
    rw [hn]
    refine ⟨_, rfl, n, rfl, by omega, fun p ss H2 e2 hp ep hst hsum hlen => ?_⟩
    refine ⟨p, rfl, ⟨_, .of ep⟩, for_list (xs := ss.map fun k : Nat => V.int (k : Int)) (fun i σ H' => ∃ o y5, σ = [some (.ref a), some (.int (v : Int)), some (.int (c : Int)), some (.ref o), some (.int (n : Int)), y5] ∧ Ex H2 H' ∧ H o = none ∧ H' o = some (.lst (((ss.take i).foldl (fun o s => withBundle o (s * v) s) r).map vO)))
      ⟨l, _, rfl, Ex.rfl', hl0, e2 _ _ cl⟩ (fun i σ H' _ h => by obtain ⟨_, _, _, e, _⟩ := h; exact .of (e _ _ ep)) ?_ ?_⟩
    · rintro i x σ H3 hx ⟨o, y5, rfl, ex, ho, eo⟩
      rw [List.getElem?_map] at hx
      obtain ⟨s, hs, rfl⟩ := Option.map_eq_some_iff.mp hx
      have hsl : s ≤ n := by
        rw [← hsum]
        exact le_sum (List.mem_of_getElem? hs)
      have hsv : s * v ≤ r.length - 1 := by
        have h1 : n * v ≤ r.length - 1 := by
          rw [hnn]
          exact Nat.le_trans (Nat.mul_le_mul_right _ (Nat.min_le_right ..)) (Nat.div_mul_le_self ..)
        exact Nat.le_trans (Nat.mul_le_mul_right _ hsl) h1
      have hfl : ((ss.take i).foldl (fun o s => withBundle o (s * v) s) r).length = r.length := fold_len ..
      refine ⟨_, rfl, _, rfl, _, rfl, _, _, rfl, rfl, .inr ⟨by omega, by omega⟩, _, rfl, o, _, s * v, s, congrArg (fun z => [V.ref o, V.int z, V.int (s : Int)]) (Int.natCast_mul ..).symm, .of eo, by omega, by omega, fun p' H4 e4 hp' ep' => ?_⟩
      refine ⟨p', _, rfl, ex.tr e4, none_back ((e1.tr e2).tr ex) hp', ?_⟩
      rw [List.take_add_one, hs, List.foldl_append]
      exact ep'
    · rintro σ H3 ⟨o, y5, rfl, ex, ho, eo⟩
      rw [List.take_of_length_le (by rw [List.length_map]; exact Nat.le_refl _), fold_next (v := v) (c := c) (by omega) hst (by omega)] at eo
      exact ⟨_, rfl, q o H3 ((e1.tr e2).tr ex) ho eo⟩
def spCheck (lo hi : Int) (cN : Addr) : Sp := fun vs H Q E => ∃ v : Int, vs = [.int v] ∧ ((lo ≤ v ∧ v ≤ hi) → Q .non H) ∧ (¬ (lo ≤ v ∧ v ≤ hi) → E (.ref cN) none H)
theorem ok_check_sum (T : Tx K mg) : FnOk P w K mg base (L2.CX P w) 1 T.a_check_sum T.d_check_sum P_check_sum (spCheck 0 1000 T.c_NoSum) := by
  refine T.f_check_sum.okX sc_check_sum (fun vs H Q E h => ?_) (fun cdv A outer s H vs Q E hr h => ?_)
  · obtain ⟨v, rfl, _⟩ := h
    rfl
  · obtain ⟨v, rfl, q1, q2⟩ := h
    refine ⟨_, (pss_one (ps_if (pt_not (pt_chain op_le op_le pe_int (pv 0) (pe_glob (v := .int 1000) (by rfl) T.w_MOST_SUM.choose_spec ⟨_, rfl⟩)))
      (pss_one (ps_raise rfl (takes_of rfl rfl rfl rfl) (pmk_own PySem.F.excBase_ValueError T.x_NoSum T.g_NoSum T.k_NoSum (raises_own T.b_NoSum T.t_NoSum) rfl)))
      pss_nil)), ?_⟩
    repeat (first | refine ⟨_, rfl, ?_⟩ | refine ⟨(by show (0 : Int) < _; decide), ?_⟩ | refine ⟨⟨by decide, by decide⟩, ?_⟩ | refine ⟨.inr ⟨by decide, by decide⟩, ?_⟩ | refine ⟨.inl ⟨by decide, by decide⟩, ?_⟩ | refine ⟨⟨by decide, by decide, by decide⟩, ?_⟩ | refine ⟨_, _, rfl, rfl, ?_⟩ | refine ⟨rfl, _, rfl, ?_⟩)
    first | refine iteVI (fun e => ?_) (fun e => ?_) | refine iteVN (fun e => ?_) (fun e => ?_) | refine iteD (fun e => ?_) (fun e => ?_) | refine iteDN (fun e => ?_) (fun e => ?_) | refine iteB (fun e => ?_) (fun e => ?_)
    · repeat (first | refine ⟨_, rfl, ?_⟩ | refine ⟨(by show (0 : Int) < _; decide), ?_⟩ | refine ⟨⟨by decide, by decide⟩, ?_⟩ | refine ⟨.inr ⟨by decide, by decide⟩, ?_⟩ | refine ⟨.inl ⟨by decide, by decide⟩, ?_⟩ | refine ⟨⟨by decide, by decide, by decide⟩, ?_⟩ | refine ⟨_, _, rfl, rfl, ?_⟩ | refine ⟨rfl, _, rfl, ?_⟩)
      first | refine iteVI (fun e' => ?_) (fun e' => ?_) | refine iteVN (fun e' => ?_) (fun e' => ?_) | refine iteD (fun e' => ?_) (fun e' => ?_) | refine iteDN (fun e' => ?_) (fun e' => ?_) | refine iteB (fun e' => ?_) (fun e' => ?_)
      · exact q2 fun z => e' z.2
      · exact q1 ⟨e, e'⟩
    · exact ⟨_, rfl, iteT (q2 fun z => e z.1)⟩
theorem row0_map (n : Nat) : [V.int 0] ++ (List.replicate n [V.non]).flatten = (row0 n).map vO := by
  show V.int 0 :: (List.replicate n [V.non]).flatten = V.int 0 :: (List.replicate n (none : Cell)).map vO
  congr 1
  induction n with
  | zero => rfl
  | succ n ih =>
    rw [List.replicate_succ, List.replicate_succ, List.flatten_cons, List.map_cons, ih]
    rfl
def spTable (K : PySem.W.Frag) (cN : Addr) : Sp := fun vs H Q E => ∃ (a : Addr) (ps : List (Int × Int)) (m : Int), vs = [.ref a, .int m] ∧ Till K H a ps ∧ ps.length ≤ 1000 ∧ (∀ p ∈ ps, 1 ≤ p.1 ∧ p.1 ≤ 1000 ∧ 0 ≤ p.2) ∧
  ((0 ≤ m ∧ m ≤ 1000) → NewRows H (rowsOf (row0 m.toNat) ps) Q) ∧ (¬ (0 ≤ m ∧ m ≤ 1000) → E (.ref cN) none H)
theorem ok_table (T : Tx K mg) : FnOk P w K mg base (L2.CX P w) 3 T.a_table T.d_table P_table (spTable K T.c_NoSum) := by
  have G_check_sum := ok_check_sum (P := P) (w := w) (base := base) T
  have G_with_kind := ok_with_kind (P := P) (w := w) (base := base) T
  refine T.f_table.okX sc_table (fun vs H Q E h => ?_) (fun cdv A outer s H vs Q E hr h => ?_)
  · obtain ⟨a, ps, m, rfl, _⟩ := h
    rfl
  · obtain ⟨a, ps, m, rfl, ⟨xs, hS, hp⟩, hl, hv, q1, q2⟩ := h
    refine ⟨_, (pss_cons (ps_expr (pe_call G_check_sum (hr.mono (by decide)) (by rfl) T.g_check_sum T.f_check_sum.kp T.p_check_sum .nil (passes_call (takes_of rfl rfl rfl rfl) fun _ _ _ _ h => h) (pa_cons (pv 1) pa_nil)))
    (pss_cons (ps_set (i := 2) sc_table.nd rfl (.inl rfl) (pe_op op_cat (pe_lst (pa_cons pe_int pa_nil)) (pe_op op_rep (pe_lst (pa_cons pe_non pa_nil)) (pv 1))))
    (pss_cons (ps_set (i := 3) sc_table.nd rfl (.inl rfl) (pe_lst (pa_cons (pv 2) pa_nil)))
    (pss_cons (ps_for (passes_of rfl) rfl (pi_list (pv 0)) (pg_tup rfl (pgs_cons (pg_name (i := 4) sc_table.nd rfl (.inl rfl)) (pgs_cons (pg_name (i := 5) sc_table.nd rfl (.inl rfl)) pgs_nil)))
      (pss_cons (ps_set (i := 2) sc_table.nd rfl (.inl rfl) (pe_call G_with_kind (hr.mono (by decide)) (by rfl) T.g_with_kind T.f_with_kind.kp T.p_with_kind .nil pass0 (pa_cons (pv 2) (pa_cons (pv 4) (pa_cons (pv 5) pa_nil)))))
      (pss_one (ps_expr (pe_bm PySem.F.plainAttrs_list PySem.F.slot_list_append PySem.F.type_list_append mt_append (pv 3) (pa_cons (pv 2) pa_nil))))))
    (pss_one (ps_ret (pv 3))))))), ?_⟩
    refine ⟨_, rfl, m, rfl, fun hm => ?_, q2⟩
    obtain ⟨n, rfl⟩ : ∃ n : Nat, m = (n : Int) := ⟨m.toNat, (Int.toNat_of_nonneg hm.1).symm⟩
    have hn : n ≤ 1000 := by omega
    rw [Int.toNat_natCast] at q1
    refine ⟨len63 (by show 1 ≤ _; decide), fun l1 hl1 => ?_⟩
    (generalize hh : upd H l1 _ = H1; have e1 : Ex H H1 := (by rw [← hh]; exact Ex.nw hl1); have c1 := (show H1 l1 = some _ by rw [← hh]; exact upd_same); clear hh)
    refine ⟨len63 (by show 1 ≤ _; decide), fun l2 hl2 => ?_⟩
    (generalize hh : upd H1 l2 _ = H2; have e2 : Ex H1 H2 := (by rw [← hh]; exact Ex.nw hl2); have c2 := (show H2 l2 = some _ by rw [← hh]; exact upd_same); clear hh)
    refine ⟨_, rfl, l2, _, _, rfl, rfl, c2, by omega, by omega, len63 (by rw [Int.toNat_natCast]; show 1 * n ≤ _; omega), fun l3 hl3 => ?_⟩
    rw [Int.toNat_natCast]
    (generalize hh : upd H2 l3 _ = H3; have e3 : Ex H2 H3 := (by rw [← hh]; exact Ex.nw hl3); have c3 := (show H3 l3 = some _ by rw [← hh]; exact upd_same); clear hh)
    refine ⟨l1, l3, _, _, rfl, rfl, e3 _ _ (e2 _ _ c1), c3, len63 (by simp; omega), fun l4 hl4 => ?_⟩
    rw [row0_map]
    (generalize hh : upd H3 l4 _ = H4; have e4 : Ex H3 H4 := (by rw [← hh]; exact Ex.nw hl4); have c4 := (show H4 l4 = some _ by rw [← hh]; exact upd_same); clear hh)
    have ex4 := ((e1.tr e2).tr e3).tr e4
    have hl40 : H l4 = none := none_back ((e1.tr e2).tr e3) hl4
    refine ⟨_, rfl, len63 (by show 1 ≤ _; decide), fun R hR => ?_⟩
    have hR0 : H R = none := none_back ex4 hR
    have n4R : l4 ≠ R := ne_of_none c4 hR
    refine ⟨_, rfl, a, rfl, ⟨xs, (ex4.tr (Ex.nw hR)).seq hS⟩, for_list (xs := xs) (fun i σ H' => ∃ as b y4 y5, σ = [some (.ref a), some (.int (n : Int)), some (.ref b), some (.ref R), y4, y5] ∧ Ex H H' ∧ (∀ x ∈ R :: as, H x = none) ∧ (R :: as).Nodup ∧
        H' R = some (.lst (as.map V.ref)) ∧ RowsAt H' as (rowsOf (row0 n) (ps.take i)) ∧ H' b = some (.lst ((lastRow (row0 n) (ps.take i)).map vO)))
      ⟨[l4], l4, _, _, rfl, ex4.tr (Ex.nw hR), ?_, ?_, upd_same, .cons ((Ex.nw hR) _ _ c4) .nil, (Ex.nw hR) _ _ c4⟩ (fun i σ H' _ h => by
        obtain ⟨_, _, _, _, _, e, _⟩ := h
        exact e.seq hS) ?_ ?_⟩
    · intro x hx
      rcases List.mem_cons.mp hx with e | e
      · exact e ▸ hR0
      · rw [List.mem_singleton.mp e]
        exact hl40
    · rw [List.nodup_cons, List.mem_singleton]
      exact ⟨fun e => n4R e.symm, List.nodup_cons.mpr ⟨by simp, List.nodup_nil⟩⟩
    · rintro i x σ H5 hx ⟨as, b, y4, y5, rfl, ex, hfr, hnd, eR, hrows, eb⟩
      obtain ⟨p, t, h1, rfl, h3⟩ := Prs.get hp hx
      have hpm := hv p (List.mem_of_getElem? h1)
      have hi : i < ps.length := (List.getElem?_eq_some_iff.mp h1).1
      have hll : (lastRow (row0 n) (ps.take i)).length = n + 1 := by rw [lastRow_len, row0_len]
      refine ⟨t, _, rfl, .of (ex _ _ h3), rfl, _, _, rfl, _, _, rfl, rfl, ?_⟩
      refine ⟨_, rfl, _, rfl, _, rfl, b, _, p.1.toNat, p.2.toNat, by rw [Int.toNat_of_nonneg (by omega), Int.toNat_of_nonneg (by omega)]; rfl, .of eb, by omega, by omega, by omega, by omega, fun p' H6 e6 hp' ep' => ?_⟩
      rw [← lastRow_snoc, ← take_snoc h1] at ep'
      have hal := hrows.len
      rw [rowsOf_len, List.length_take] at hal
      refine ⟨_, rfl, .inl ⟨rfl, _, .of (e6 _ _ eR)⟩, _, rfl, R, _, _, rfl, rfl, e6 _ _ eR, len63' (by rw [List.length_map]; omega), ?_⟩
      have hRa : R ∉ as := (List.nodup_cons.mp hnd).1
      have hpR : p' ≠ R := (ne_of_none eR hp').symm
      have hpa : p' ∉ as := fun z => by
        obtain ⟨o, ho⟩ := hrows.mem z
        rw [ho] at hp'
        cases hp'
      refine ⟨as ++ [p'], p', _, _, rfl, Ex.mu (ex.tr e6) hR0, ?_, ?_, ?_, ?_, ?_⟩
      · intro x hx
        rcases List.mem_cons.mp hx with e | e
        · exact e ▸ hR0
        · rcases List.mem_append.mp e with e | e
          · exact hfr x (List.mem_cons_of_mem _ e)
          · rw [List.mem_singleton.mp e]
            exact none_back ex hp'
      · rw [← List.cons_append]
        refine nd_snoc hnd fun z => ?_
        rcases List.mem_cons.mp z with e | e
        · exact hpR e
        · exact hpa e
      · rw [upd_same, List.map_append]
        rfl
      · rw [take_snoc h1, rowsOf_snoc, ← take_snoc h1]
        exact RowsAt.snoc ((hrows.ex e6).up hRa) (by rw [upd_ne hpR]; exact ep')
      · rw [upd_ne hpR]
        exact ep'
    · rintro σ H5 ⟨as, b, y4, y5, rfl, ex, hfr, hnd, eR, hrows, eb⟩
      rw [List.take_of_length_le (by rw [hp.len]; exact Nat.le_refl _)] at hrows
      exact ⟨_, rfl, q1 hm R as H5 ex hfr hnd eR hrows⟩
theorem at_last {H : Hp} {as : List Addr} {r0 : List Cell} {ps : List (Int × Int)} (h : RowsAt H as (rowsOf r0 ps)) : ∃ a, atI (as.map V.ref) (-1) = some (.ref a) ∧ as[ps.length]? = some a ∧ H a = some (.lst ((lastRow r0 ps).map vO)) := by
  obtain ⟨a, h1, h2⟩ := h.get (rowsOf_at _ _ ps.length (Nat.le_refl _))
  rw [List.take_length] at h2
  refine ⟨a, ?_, h1, h2⟩
  have hal : (as.map V.ref).length = ps.length + 1 := by rw [List.length_map, h.len, rowsOf_len]
  unfold atI
  rw [show ixN (as.map V.ref).length (-1) = some ps.length by
    unfold ixN
    rw [if_neg (by omega), if_pos (by omega)]
    congr 1
    omega]
  show (as.map V.ref)[ps.length]? = _
  rw [List.getElem?_map, h1]
  rfl
/-! ### the fewest pieces -/
/-! ### places and pairs, told again -/
theorem vO_scal (o : Cell) (i : Int) : scal (vO o) (.int i) = true := by cases o <;> rfl
theorem vO_int {o : Cell} {i : Int} : vO o = .int i ↔ o = some i := by
  cases o with
  | none => exact ⟨(fun h => nomatch h), (fun h => nomatch h)⟩
  | some j => exact ⟨fun h => congrArg some (V.int.inj h), fun h => congrArg V.int (Option.some.inj h)⟩
theorem Prs.rev {H : Hp} : ∀ {xs : List V} {ps : List (Int × Int)}, Prs H xs ps → Prs H xs.reverse ps.reverse
  | _, _, .nil => .nil
  | _, _, .cons h r => by
    rw [List.reverse_cons, List.reverse_cons]
    exact Prs.snoc (Prs.rev r) h
def spMostGiven (K : PySem.W.Frag) : Sp := fun vs H Q _ => ∃ (a : Addr) (r : List Cell) (d v c : Nat) (m : Int), vs = [.ref a, .int (d : Int), .int m, .int (v : Int), .int (c : Int)] ∧ Row K H a r ∧ d < r.length ∧ d ≤ 100000 ∧ 1 ≤ v ∧ v ≤ 100000 ∧ Q (.int (pick r v c d m : Nat)) H
theorem ok_most_given (T : Tx K mg) : FnOk P w K mg base CX0 1 T.a__most_given T.d__most_given P__most_given (spMostGiven K) := by
  refine T.f__most_given.ok sc__most_given (fun vs H Q E h => ?_) (fun cdv A outer s H vs Q E hr h => ?_)
  · obtain ⟨a, r, d, v, c, m, rfl, _⟩ := h
    rfl
  · obtain ⟨a, r, d, v, c, m, rfl, hS, hd, hd2, hv1, hv2, q⟩ := h
    refine ⟨_, (pss_cons (ps_for PassesOwn.never rfl (pi_range3 (by rfl) T.m_range (pa_cons (pe_callB (call_min2 rfl) (by rfl) T.m_min (by decide +kernel) (pa_cons (pv 4) (pa_cons (pe_op op_fdiv (pv 1) (pv 3)) pa_nil))) (pa_cons pe_int (pa_cons (pe_un un_neg pe_int) pa_nil)))) (pg_name (i := 5) sc__most_given.nd rfl (.inl rfl))
      (pss_one (ps_if (pt_cmpR op_eq (pe_ix ix_list (pv 0) (pe_op op_sub (pv 1) (pe_op op_mul (pv 5) (pv 3))) (fun _ _ => rfl)) (pe_op op_sub (pv 2) (pv 5)) (nomark _))
        (pss_one (ps_ret (pv 5)))
        pss_nil)))
    (pss_one (ps_ret pe_int))), ?_⟩
    have hS' : SqL K H a (r.map vO) := hS
    obtain ⟨n, hn, hnn⟩ : ∃ n : Nat, (if (d : Int) / (v : Int) < (c : Int) then (d : Int) / (v : Int) else (c : Int)) = (n : Int) ∧ n = min c (d / v) := by
      rw [← Int.natCast_ediv]
      by_cases h : ((d / v : Nat) : Int) < (c : Int)
      · exact ⟨d / v, if_pos h, by omega⟩
      · exact ⟨c, if_neg h, by omega⟩
    have hnd : n ≤ d := by
      have : d / v ≤ d := Nat.div_le_self ..
      omega
    have hnv : n * v ≤ d := by
      rw [hnn]
      exact Nat.le_trans (Nat.mul_le_mul_right _ (Nat.min_le_right ..)) (Nat.div_mul_le_self ..)
    unfold pick at q
    rw [← hnn] at q
    refine ⟨_, rfl, _, rfl, _, rfl, _, _, rfl, rfl, ⟨by omega, by omega⟩, _, _, rfl, ?_⟩
    rw [hn]
    refine ⟨_, rfl, _, _, _, n, rfl, .neg (by omega) (by omega) (by decide) (by decide), ?_⟩
    refine for_rangeC (fun i σ H' => ∃ y5, σ = [some (.ref a), some (.int (d : Int)), some (.int m), some (.int (v : Int)), some (.int (c : Int)), y5] ∧ H' = H ∧ pickUp r v d m n = pickUp r v d m (n - i)) ⟨_, rfl, rfl, rfl⟩ ?_ ?_
    · rintro i σ H' hi ⟨y5, rfl, rfl, hpk⟩
      obtain ⟨k, hk⟩ : ∃ k, n - i = k + 1 := ⟨n - i - 1, by omega⟩
      have eg : (n : Int) + (i : Int) * -1 = ((k + 1 : Nat) : Int) := by omega
      have hkv : (k + 1) * v ≤ d := Nat.le_trans (Nat.mul_le_mul_right _ (by omega : k + 1 ≤ n)) hnv
      rw [eg]
      rw [hk] at hpk
      have a1 : atI (r.map vO) ((d : Int) - ((k + 1 : Nat) : Int) * (v : Int)) = some (vO (rAt r (d - (k + 1) * v))) := at_of (j := d - (k + 1) * v) (by
        rw [← Int.natCast_mul]
        omega) (vO_at (by omega))
      refine ⟨_, rfl, _, rfl, _, rfl, _, rfl, _, _, rfl, rfl, .inr ⟨by omega, by omega⟩, _, _, rfl, rfl, a, _, _, _, rfl, rfl, hS', a1, ?_⟩
      refine ⟨_, rfl, _, rfl, _, _, rfl, rfl, vO_scal _ _, _, rfl, iteD (fun e => ?_) (fun e => ?_)⟩
      · have e' := vO_int.mp e
        refine ⟨_, rfl, ?_⟩
        rw [hpk, show pickUp r v d m (k + 1) = k + 1 from if_pos e'] at q
        exact q
      · refine ⟨_, rfl, rfl, ?_⟩
        rw [hpk, show n - (i + 1) = k by omega]
        exact if_neg fun z => e (vO_int.mpr z)
    · rintro σ H' ⟨y5, rfl, rfl, hpk⟩
      rw [hpk, Nat.sub_self] at q
      exact q
def spFewest (K : PySem.W.Frag) (cN cC : Addr) : Sp := fun vs H Q E => ∃ (a : Addr) (ps : List (Int × Int)) (m : Int), vs = [.ref a, .int m] ∧ Till K H a ps ∧ ps.length ≤ 1000 ∧ (∀ p ∈ ps, 1 ≤ p.1 ∧ p.1 ≤ 1000 ∧ 0 ≤ p.2) ∧
  (¬ (0 ≤ m ∧ m ≤ 1000) → E (.ref cN) none H) ∧
  ((0 ≤ m ∧ m ≤ 1000) → rAt (lastRow (row0 m.toNat) ps) m.toNat = none → ∀ H2, Ex H H2 → E (.ref cC) none H2) ∧
  ((0 ≤ m ∧ m ≤ 1000) → rAt (lastRow (row0 m.toNat) ps) m.toNat ≠ none → ∀ p xs H2, Ex H H2 → H p = none → H2 p = some (.lst xs) → Prs H2 xs (given (row0 m.toNat) ps ps.length m.toNat) → Q (.ref p) H2)
theorem ok_fewest (T : Tx K mg) : FnOk P w K mg base (L2.CX P w) 4 T.a_fewest T.d_fewest P_fewest (spFewest K T.c_NoSum T.c_NoChange) := by
  have G_table := ok_table (P := P) (w := w) (base := base) T
  have G__most_given := ok_most_given (P := P) (w := w) (base := base) T
  refine T.f_fewest.okX sc_fewest (fun vs H Q E h => ?_) (fun cdv A outer s H vs Q E hr h => ?_)
  · obtain ⟨a, ps, m, rfl, _⟩ := h
    rfl
  · obtain ⟨a, ps, m, rfl, ⟨xs, hS, hp⟩, hl, hv, q1, q2, q3⟩ := h
    refine ⟨_, (pss_cons (ps_set (i := 2) sc_fewest.nd rfl (.inl rfl) (pe_call G_table (hr.mono (by decide)) (by rfl) T.g_table T.f_table.kp T.p_table .nil (passes_call (takes_of rfl rfl rfl rfl) fun _ _ _ _ h => h) (pa_cons (pv 0) (pa_cons (pv 1) pa_nil))))
    (pss_cons (ps_if (pt_cmpR op_isN (pe_ix ix_list (pe_ix ix_list (pv 2) (pe_un un_neg pe_int) (fun _ _ => rfl)) (pv 1) (fun _ _ => rfl)) pe_non (nomark _))
      (pss_one (ps_raise rfl (takes_of rfl rfl rfl rfl) (pmk_own PySem.F.excBase_ValueError T.x_NoChange T.g_NoChange T.k_NoChange (raises_own T.b_NoChange T.t_NoChange) rfl)))
      pss_nil)
    (pss_cons (ps_set (i := 3) sc_fewest.nd rfl (.inl rfl) (pe_lst pa_nil))
    (pss_cons (ps_set (i := 4) sc_fewest.nd rfl (.inl rfl) (pv 1))
    (pss_cons (ps_for (passes_of rfl) rfl (pi_revR (by rfl) T.m_reversed (prg_1 (by rfl) T.m_range (pe_callB call_len_seq (by rfl) T.m_len (by decide +kernel) (pa_cons (pv 0) pa_nil)))) (pg_name (i := 5) sc_fewest.nd rfl (.inl rfl))
      (pss_cons (ps_asg (pe_ix ix_list (pv 0) (pv 5) (fun _ _ => rfl)) (pg_tup rfl (pgs_cons (pg_name (i := 6) sc_fewest.nd rfl (.inl rfl)) (pgs_cons (pg_name (i := 7) sc_fewest.nd rfl (.inl rfl)) pgs_nil))))
      (pss_cons (ps_set (i := 8) sc_fewest.nd rfl (.inl rfl) (pe_call G__most_given (hr.mono (by decide)) (by rfl) T.g__most_given T.f__most_given.kp T.p__most_given .nil pass0 (pa_cons (pe_ix ix_list (pv 2) (pv 5) (fun _ _ => rfl)) (pa_cons (pv 4) (pa_cons (pe_ix ix_list (pe_ix ix_list (pv 2) (pe_op op_add (pv 5) pe_int) (fun _ _ => rfl)) (pv 4) (fun _ _ => rfl)) (pa_cons (pv 6) (pa_cons (pv 7) pa_nil)))))))
      (pss_one (ps_if (pt_cmpR op_gt (pv 8) pe_int (nomark _))
        (pss_cons (ps_expr (pe_bm PySem.F.plainAttrs_list PySem.F.slot_list_append PySem.F.type_list_append mt_append (pv 3) (pa_cons (pe_tup (pa_cons (pv 6) (pa_cons (pv 8) pa_nil))) pa_nil)))
        (pss_one (ps_aug (i := 4) sc_fewest.nd rfl (.inl rfl) (pe_op op_mul (pv 8) (pv 6)) ip_sub)))
        pss_nil)))))
    (pss_one (ps_ret (pe_revL (pv 3))))))))), ?_⟩
    refine ⟨_, rfl, _, rfl, a, ps, m, rfl, ⟨xs, hS, hp⟩, hl, hv, fun hm => ?_, q1⟩
    obtain ⟨n, rfl⟩ : ∃ n : Nat, m = (n : Int) := ⟨m.toNat, (Int.toNat_of_nonneg hm.1).symm⟩
    have hn : n ≤ 1000 := by omega
    rw [Int.toNat_natCast] at q2 q3 ⊢
    intro R as H2 e2 hfr hnd eR hrows
    obtain ⟨z, iz, _, ez⟩ := at_last hrows
    have hll : ∀ j, (lastRow (row0 n) (ps.take j)).length = n + 1 := fun j => by rw [lastRow_len, row0_len]
    have hlz := hll ps.length
    rw [List.take_length] at hlz
    refine ⟨_, rfl, _, rfl, R, _, _, .ref z, rfl, rfl, .of eR, iz, _, rfl, z, _, _, _, rfl, rfl, .of ez, at_of rfl (vO_at (by rw [hlz]; exact Nat.lt_succ_self n)), ?_⟩
    cases hc : rAt (lastRow (row0 n) ps) n with
    | none => exact ⟨rfl, _, rfl, iteD (fun _ => q2 hm hc _ e2) (fun y => absurd rfl y)⟩
    | some m =>
      refine ⟨rfl, _, rfl, iteD (fun y => nomatch y) (fun _ => ?_)⟩
      refine ⟨Nat.zero_le _, fun ch hch => ?_⟩
      have hch0 : H ch = none := none_back e2 hch
      have eR2 := (Ex.nw (o := .lst []) hch) _ _ eR
      have hg := given_ok (ps := ps) (n := n) (fun p hp => (hv p hp).1) (Nat.le_refl ps.length) (Nat.lt_succ_self n) (by rw [List.take_length]; exact hc)
      have hpl := hp.len
      refine ⟨_, rfl, ?_⟩
      refine ⟨_, rfl, a, xs, rfl, .inl (((e2.tr (Ex.nw hch))).seq hS), _, rfl, by omega, by omega, by omega, by omega, ?_⟩
      refine for_rangeC (fun i σ H' => ∃ (k left : Nat) (x : Int) (zs : List V) (acc : List (Int × Int)) (y5 y6 y7 y8 : Option V), k + i = ps.length ∧ σ = [some (.ref a), some (.int (n : Int)), some (.ref R), some (.ref ch), some (.int (left : Int)), y5, y6, y7, y8] ∧
        Ex H2 H' ∧ H' ch = some (.lst zs) ∧ Prs H' zs acc ∧ left ≤ n ∧ rAt (lastRow (row0 n) (ps.take k)) left = some x ∧ given (row0 n) ps ps.length n = given (row0 n) ps k left ++ acc.reverse ∧ acc.length ≤ i)
        ⟨ps.length, n, m, [], [], none, none, none, none, rfl, rfl, Ex.nw hch, upd_same, .nil, Nat.le_refl _, by rw [List.take_length]; exact hc, by simp, Nat.le_refl _⟩ ?_ ?_
      · rintro i σ H' hi ⟨k, left, x, zs, acc, y5, y6, y7, y8, hki, rfl, ex, ech, hacc, hle, hx, hgv, hal⟩
        have hi' : i < ps.length := by omega
        obtain ⟨j, rfl⟩ : ∃ j, k = j + 1 := ⟨k - 1, by omega⟩
        have ej : (0 : Int) + ((((xs.length : Int) - 0).toNat : Nat) : Int) - 1 + (i : Int) * -1 = (j : Int) := by omega
        rw [ej]
        have hj : j < ps.length := by omega
        obtain ⟨t, hx0, h3⟩ := Prs.getL hp (List.getElem?_eq_getElem hj)
        have hpj := List.getElem?_eq_getElem hj
        have hpv := hv _ (List.getElem_mem hj)
        generalize ps[j] = p at hpj h3 hpv
        have exH := e2.tr ex
        refine ⟨_, rfl, _, rfl, a, xs, _, _, rfl, rfl, exH.seq hS, at_of rfl hx0, t, _, rfl, .of (exH _ _ h3), rfl, _, _, rfl, _, _, rfl, rfl, ?_⟩
        have hrows' := hrows.ex ex
        obtain ⟨b, ib, _, eb⟩ := at_row hrows' (i := (j : Int)) (k := j) rfl (rowsOf_at _ _ j (by omega))
        obtain ⟨b1, ib1, _, eb1⟩ := at_row hrows' (i := (j : Int) + 1) (k := j + 1) rfl (rowsOf_at _ _ (j + 1) (by omega))
        have eR' := ex _ _ eR
        refine ⟨_, rfl, _, rfl, R, _, _, .ref b, rfl, rfl, .of eR', ib, _, rfl, ?_⟩
        refine ⟨_, rfl, _, rfl, _, _, rfl, rfl, R, _, _, .ref b1, rfl, rfl, .of eR', ib1, _, rfl, b1, _, _, _, rfl, rfl, .of eb1, at_of rfl (vO_at (by rw [hll]; omega)), _, rfl, _, rfl, ?_⟩
        rw [hx]
        obtain ⟨g1, g2, g3⟩ := step_ok hpj hpv.1 (by rw [row0_len]; omega) hx rfl
        have gs := given_succ (row0 n) ps j left hpj (g := pick (lastRow (row0 n) (ps.take j)) p.1.toNat p.2.toNat left x) (by rw [hx]; rfl)
        refine ⟨b, _, left, p.1.toNat, p.2.toNat, x, by rw [Int.toNat_of_nonneg (by omega), Int.toNat_of_nonneg (by omega)]; rfl, .of eb, by rw [hll]; omega, by omega, by omega, by omega, ?_⟩
        generalize pick (lastRow (row0 n) (ps.take j)) p.1.toNat p.2.toNat left x = g at g1 g2 g3 gs ⊢
        refine ⟨_, rfl, _, _, rfl, rfl, _, rfl, iteD (fun e => ?_) (fun e => ?_)⟩
        · have e' : 0 < g := by omega
          rw [if_pos e'] at gs
          refine ⟨_, rfl, .inl ⟨rfl, zs, .of ech⟩, _, rfl, _, rfl, len63 (by show 2 ≤ _; decide), fun t2 ht2 => ?_⟩
          have nct : ch ≠ t2 := ne_of_none ech ht2
          have ech' : (upd H' t2 (.tup [.int p.1, .int (g : Int)])) ch = some (.lst zs) := by rw [upd_ne nct]; exact ech
          refine ⟨ch, zs, _, rfl, rfl, ech', len63' (by rw [hacc.len]; omega), ?_⟩
          refine ⟨_, rfl, _, rfl, _, rfl, _, _, rfl, rfl, .inr ⟨by omega, by omega⟩, _, _, rfl, rfl, ?_⟩
          have el : (left : Int) - (g : Int) * p.1 = ((left - g * p.1.toNat : Nat) : Int) := by
            have : ((g * p.1.toNat : Nat) : Int) = (g : Int) * p.1 := by rw [Int.natCast_mul, Int.toNat_of_nonneg (by omega)]
            omega
          refine ⟨j, left - g * p.1.toNat, x - (g : Int), zs ++ [.ref t2], acc ++ [(p.1, (g : Int))], some (.int (j : Int)), some (.int p.1), some (.int p.2), some (.int (g : Int)), by omega, by rw [← el]; rfl, Ex.mu (ex.tr (Ex.nw ht2)) hch, upd_same, ?_, by omega, g3, ?_, by rw [List.length_append]; show _ + 1 ≤ _; omega⟩
          · refine Prs.up (by intro ys y; rw [ech'] at y; cases y) ?_
            exact Prs.snoc (hacc.ex (Ex.nw ht2)) ⟨t2, rfl, upd_same⟩
          · rw [hgv, gs, List.reverse_append, List.append_assoc]
            rfl
        · have e' : g = 0 := by omega
          subst e'
          rw [if_neg (Nat.lt_irrefl 0), List.append_nil, Nat.zero_mul, Nat.sub_zero] at gs
          rw [Nat.zero_mul, Nat.sub_zero] at g3
          exact ⟨j, left, _, zs, acc, _, _, _, _, by omega, rfl, ex, ech, hacc, hle, g3, by rw [hgv, gs], by omega⟩
      · rintro σ H' ⟨k, left, x, zs, acc, y5, y6, y7, y8, hki, rfl, ex, ech, hacc, hle, hx, hgv, hal⟩
        obtain rfl : k = 0 := by omega
        refine ⟨_, rfl, ch, zs, rfl, .of ech, fun p hp2 => ?_⟩
        refine q3 hm (by rw [hc]; exact fun z => nomatch z) p _ _ ((e2.tr ex).tr (Ex.nw hp2)) (none_back (e2.tr ex) hp2) upd_same ?_
        rw [hgv]
        exact (Prs.rev hacc).ex (Ex.nw hp2)
/-! ### count_of -/
/-- the first count of a kind -/
def countIn (ps : List (Int × Int)) (v : Int) : Option Int := ps.lookup v
theorem countIn_cons (p : Int × Int) (ps : List (Int × Int)) (v : Int) : countIn (p :: ps) v = if p.1 = v then some p.2 else countIn ps v := by
  unfold countIn
  rw [List.lookup_cons]
  by_cases h : p.1 = v
  · rw [if_pos h, show (v == p.1) = true by simp [h]]
  · rw [if_neg h, show (v == p.1) = false by simpa using fun e => h (Eq.symm e)]
theorem countIn_mem {ps : List (Int × Int)} {v c : Int} (h : countIn ps v = some c) : (v, c) ∈ ps := by
  induction ps with
  | nil => cases h
  | cons p ps ih =>
    rw [countIn_cons] at h
    by_cases e : p.1 = v
    · rw [if_pos e] at h
      have : p = (v, c) := by rw [← e, ← Option.some.inj h]
      rw [this]
      exact List.mem_cons_self
    · rw [if_neg e] at h
      exact List.mem_cons_of_mem _ (ih h)
theorem countIn_nd {ps : List (Int × Int)} {p : Int × Int} (nd : (ps.map (·.1)).Nodup) (hp : p ∈ ps) : countIn ps p.1 = some p.2 := by
  induction ps with
  | nil => cases hp
  | cons q ps ih =>
    rw [List.map_cons, List.nodup_cons] at nd
    rw [countIn_cons]
    rcases List.mem_cons.mp hp with e | e
    · rw [e, if_pos rfl]
    · rw [if_neg fun z => nd.1 (by rw [z]; exact List.mem_map.mpr ⟨p, e, rfl⟩)]
      exact ih nd.2 e
def spCountOf (K : PySem.W.Frag) (cN : Addr) : Sp := fun vs H Q E => ∃ (a : Addr) (ps : List (Int × Int)) (v : Int), vs = [.ref a, .int v] ∧ Till K H a ps ∧ (∀ c, countIn ps v = some c → Q (.int c) H) ∧ (countIn ps v = none → E (.ref cN) none H)
theorem ok_count_of (T : Tx K mg) : FnOk P w K mg base (L2.CX P w) 1 T.a_count_of T.d_count_of P_count_of (spCountOf K T.c_NoKind) := by
  refine T.f_count_of.okX sc_count_of (fun vs H Q E h => ?_) (fun cdv A outer s H vs Q E hr h => ?_)
  · obtain ⟨a, ps, v, rfl, _⟩ := h
    rfl
  · obtain ⟨a, ps, v, rfl, ⟨xs, hS, hp⟩, q1, q2⟩ := h
    refine ⟨_, (pss_cons (ps_for (passes_of rfl) rfl (pi_list (pv 0)) (pg_tup rfl (pgs_cons (pg_name (i := 2) sc_count_of.nd rfl (.inl rfl)) (pgs_cons (pg_name (i := 3) sc_count_of.nd rfl (.inl rfl)) pgs_nil)))
      (pss_one (ps_if (pt_cmpR op_eq (pv 2) (pv 1) (nomark _))
        (pss_one (ps_ret (pv 3)))
        pss_nil)))
    (pss_one (ps_raise rfl (takes_of rfl rfl rfl rfl) (pmk_own PySem.F.excBase_ValueError T.x_NoKind T.g_NoKind T.k_NoKind (raises_own T.b_NoKind T.t_NoKind) rfl)))), ?_⟩
    refine ⟨_, rfl, a, rfl, ⟨xs, hS⟩, for_list (xs := xs) (fun i σ H' => ∃ y2 y3, σ = [some (.ref a), some (.int v), y2, y3] ∧ H' = H ∧ countIn ps v = countIn (ps.drop i) v) ⟨_, _, rfl, rfl, rfl⟩ (fun i σ H' _ h => by obtain ⟨_, _, _, rfl, _⟩ := h; exact hS) ?_ ?_⟩
    · rintro i x σ H' hx ⟨y2, y3, rfl, rfl, hc⟩
      obtain ⟨p, t, h1, rfl, h3⟩ := Prs.get hp hx
      have hd : ps.drop i = p :: ps.drop (i + 1) := by
        obtain ⟨hi, e⟩ := List.getElem?_eq_some_iff.mp h1
        rw [List.drop_eq_getElem_cons hi, e]
      rw [hd, countIn_cons] at hc
      refine ⟨t, _, rfl, .of h3, rfl, _, _, rfl, _, _, rfl, rfl, ?_⟩
      repeat (first | refine ⟨_, rfl, ?_⟩ | refine ⟨(by show (0 : Int) < _; decide), ?_⟩ | refine ⟨⟨by decide, by decide⟩, ?_⟩ | refine ⟨.inr ⟨by decide, by decide⟩, ?_⟩ | refine ⟨.inl ⟨by decide, by decide⟩, ?_⟩ | refine ⟨⟨by decide, by decide, by decide⟩, ?_⟩ | refine ⟨_, _, rfl, rfl, ?_⟩ | refine ⟨rfl, _, rfl, ?_⟩)
      first | refine iteVI (fun e => ?_) (fun e => ?_) | refine iteVN (fun e => ?_) (fun e => ?_) | refine iteD (fun e => ?_) (fun e => ?_) | refine iteDN (fun e => ?_) (fun e => ?_) | refine iteB (fun e => ?_) (fun e => ?_)
      · rw [if_pos e] at hc
        repeat (first | refine ⟨_, rfl, ?_⟩ | refine ⟨(by show (0 : Int) < _; decide), ?_⟩ | refine ⟨⟨by decide, by decide⟩, ?_⟩ | refine ⟨.inr ⟨by decide, by decide⟩, ?_⟩ | refine ⟨.inl ⟨by decide, by decide⟩, ?_⟩ | refine ⟨⟨by decide, by decide, by decide⟩, ?_⟩ | refine ⟨_, _, rfl, rfl, ?_⟩ | refine ⟨rfl, _, rfl, ?_⟩)
        exact q1 _ hc
      · rw [if_neg e] at hc
        exact ⟨_, _, rfl, rfl, hc⟩
    · rintro σ H' ⟨y2, y3, rfl, rfl, hc⟩
      rw [List.drop_of_length_le (by rw [hp.len]; exact Nat.le_refl _)] at hc
      exact q2 hc
/-! ### what a deed does, by itself -/
def there (ps : List (Int × Int)) (v : Int) : Int := (countIn ps v).getD (-1)
def addC (ps : List (Int × Int)) (v d : Int) : List (Int × Int) := ps.map fun p => if p.1 = v then (p.1, p.2 + d) else p
def dueK (ps : List (Int × Int)) (w v c : Int) : Str :=
  if w < 2 then (if there ps v < 0 then "kind" else if c < 0 ∨ c > 1000000000 ∨ (w = 0 ∧ there ps v + c > 1000000000) then "count" else if w = 1 ∧ c > there ps v then "few" else "")
  else if w = 2 then (if v < 1 ∨ v > 1000 then "kind" else if 0 ≤ there ps v then "twice" else if ps.length = 10 then "till" else "")
  else (if there ps v < 0 then "kind" else if there ps v > 0 then "held" else if ps.length = 1 then "till" else "")
/-- the till behind -/
def Behind (ps : List (Int × Int)) (w v c : Int) (qs : List (Int × Int)) : Prop :=
  (w = 0 ∧ qs = addC ps v c) ∨ (w = 1 ∧ qs = addC ps v (-c)) ∨ (w = 2 ∧ Rising qs ∧ qs.Perm (ps ++ [(v, 0)])) ∨ (w = 3 ∧ qs = ps.filter fun p => decide (p.1 ≠ v))
theorem rising_uniq : ∀ {ps qs : List (Int × Int)}, Rising ps → Rising qs → ps.Perm qs → ps = qs
  | [], qs, _, _, h => (h.symm.eq_nil).symm
  | p :: ps, [], _, _, h => absurd h.eq_nil (by simp)
  | p :: ps, q :: qs, h1, h2, h => by
    obtain ⟨a1, a2⟩ := List.pairwise_cons.mp h1
    obtain ⟨b1, b2⟩ := List.pairwise_cons.mp h2
    have e : p = q := by
      rcases List.mem_cons.mp (h.mem_iff.mp List.mem_cons_self) with e | e
      · exact e
      · rcases List.mem_cons.mp (h.mem_iff.mpr List.mem_cons_self) with e' | e'
        · exact e'.symm
        · have := b1 p e
          have := a1 q e'
          omega
    subst e
    rw [rising_uniq a2 b2 ((List.perm_cons _).mp h)]
theorem Behind.uniq {ps : List (Int × Int)} {w v c : Int} {qs rs : List (Int × Int)} (h : Behind ps w v c qs) (k : Behind ps w v c rs) : qs = rs := by
  rcases h with ⟨a, b⟩ | ⟨a, b⟩ | ⟨a, b, d⟩ | ⟨a, b⟩ <;> rcases k with ⟨a', b'⟩ | ⟨a', b'⟩ | ⟨a', b', d'⟩ | ⟨a', b'⟩ <;> first | (subst a; exact absurd a' (by decide)) | rw [b, b'] | exact rising_uniq b b' (d.trans d'.symm)
theorem setC_eq {ps : List (Int × Int)} {v t n : Int} (nd : (ps.map (·.1)).Nodup) (h : countIn ps v = some t) : ps.map (fun p => (p.1, if p.1 = v then n else p.2)) = addC ps v (n - t) := by
  unfold addC
  refine List.map_congr_left fun p hp => ?_
  by_cases e : p.1 = v
  · rw [if_pos e, if_pos e]
    have := countIn_nd nd hp
    rw [e, h] at this
    rw [← Option.some.inj this]
    congr 1
    omega
  · rw [if_neg e, if_neg e]
/-- a till that is one -/
structure Tl (ps : List (Int × Int)) : Prop where
  ris : Rising ps
  val : ∀ p ∈ ps, 1 ≤ p.1 ∧ p.1 ≤ 1000
  cnt : ∀ p ∈ ps, 0 ≤ p.2 ∧ p.2 ≤ 1000000000
  len : 1 ≤ ps.length ∧ ps.length ≤ 10
theorem Tl.nd {ps : List (Int × Int)} (h : Tl ps) : (ps.map (·.1)).Nodup := rising_nd h.ris
/-- what a deed gives, or the refusal due -/
def OutK (cK cC cF cT cL cH : Addr) (ps : List (Int × Int)) (w v c : Int) (H : Hp) (Q : VK) (E : XK) : Prop :=
  (dueK ps w v c = "" → ∀ p xs qs H2, Ex H H2 → H p = none → H2 p = some (.lst xs) → Prs H2 xs qs → Behind ps w v c qs → Q (.ref p) H2) ∧
  (dueK ps w v c = "kind" → ∀ H2, Ex H H2 → E (.ref cK) none H2) ∧ (dueK ps w v c = "count" → ∀ H2, Ex H H2 → E (.ref cC) none H2) ∧ (dueK ps w v c = "few" → ∀ H2, Ex H H2 → E (.ref cF) none H2) ∧
  (dueK ps w v c = "twice" → ∀ H2, Ex H H2 → E (.ref cT) none H2) ∧ (dueK ps w v c = "till" → ∀ H2, Ex H H2 → E (.ref cL) none H2) ∧ (dueK ps w v c = "held" → ∀ H2, Ex H H2 → E (.ref cH) none H2)
theorem there_some {ps : List (Int × Int)} {v t : Int} (h : countIn ps v = some t) : there ps v = t := by
  unfold there
  rw [h]
  rfl
theorem there_none {ps : List (Int × Int)} {v : Int} (h : countIn ps v = none) : there ps v = -1 := by
  unfold there
  rw [h]
  rfl
theorem Tl.there_nn {ps : List (Int × Int)} (h : Tl ps) {v t : Int} (ht : countIn ps v = some t) : 0 ≤ t ∧ t ≤ 1000000000 := h.cnt _ (countIn_mem ht)
theorem Behind.few {ps : List (Int × Int)} {w v c : Int} {qs : List (Int × Int)} (h : Behind ps w v c qs) (hl : ps.length ≤ 10) : qs.length ≤ 1000 := by
  rcases h with ⟨_, rfl⟩ | ⟨_, rfl⟩ | ⟨_, _, hp⟩ | ⟨_, rfl⟩
  · unfold addC
    rw [List.length_map]
    omega
  · unfold addC
    rw [List.length_map]
    omega
  · rw [hp.length_eq, List.length_append]
    show ps.length + 1 ≤ _
    omega
  · exact Nat.le_trans (List.length_filter_le ..) (by omega)
def spNewT (H : Hp) (qs : List (Int × Int)) (Q : VK) : Prop := ∀ p xs H2, Ex H H2 → H p = none → H2 p = some (.lst xs) → Prs H2 xs qs → Q (.ref p) H2
/-! ### pieces brought -/
theorem ok_check_count (T : Tx K mg) : FnOk P w K mg base (L2.CX P w) 1 T.a_check_count T.d_check_count P_check_count (spCheck 0 1000000000 T.c_NoCount) := by
  refine T.f_check_count.okX sc_check_count (fun vs H Q E h => ?_) (fun cdv A outer s H vs Q E hr h => ?_)
  · obtain ⟨v, rfl, _⟩ := h
    rfl
  · obtain ⟨v, rfl, q1, q2⟩ := h
    refine ⟨_, (pss_one (ps_if (pt_not (pt_chain op_le op_le pe_int (pv 0) (pe_glob (v := .int 1000000000) (by rfl) T.w_MOST_COUNT.choose_spec ⟨_, rfl⟩)))
      (pss_one (ps_raise rfl (takes_of rfl rfl rfl rfl) (pmk_own PySem.F.excBase_ValueError T.x_NoCount T.g_NoCount T.k_NoCount (raises_own T.b_NoCount T.t_NoCount) rfl)))
      pss_nil)), ?_⟩
    repeat (first | refine ⟨_, rfl, ?_⟩ | refine ⟨(by show (0 : Int) < _; decide), ?_⟩ | refine ⟨⟨by decide, by decide⟩, ?_⟩ | refine ⟨.inr ⟨by decide, by decide⟩, ?_⟩ | refine ⟨.inl ⟨by decide, by decide⟩, ?_⟩ | refine ⟨⟨by decide, by decide, by decide⟩, ?_⟩ | refine ⟨_, _, rfl, rfl, ?_⟩ | refine ⟨rfl, _, rfl, ?_⟩)
    first | refine iteVI (fun e => ?_) (fun e => ?_) | refine iteVN (fun e => ?_) (fun e => ?_) | refine iteD (fun e => ?_) (fun e => ?_) | refine iteDN (fun e => ?_) (fun e => ?_) | refine iteB (fun e => ?_) (fun e => ?_)
    · repeat (first | refine ⟨_, rfl, ?_⟩ | refine ⟨(by show (0 : Int) < _; decide), ?_⟩ | refine ⟨⟨by decide, by decide⟩, ?_⟩ | refine ⟨.inr ⟨by decide, by decide⟩, ?_⟩ | refine ⟨.inl ⟨by decide, by decide⟩, ?_⟩ | refine ⟨⟨by decide, by decide, by decide⟩, ?_⟩ | refine ⟨_, _, rfl, rfl, ?_⟩ | refine ⟨rfl, _, rfl, ?_⟩)
      first | refine iteVI (fun e' => ?_) (fun e' => ?_) | refine iteVN (fun e' => ?_) (fun e' => ?_) | refine iteD (fun e' => ?_) (fun e' => ?_) | refine iteDN (fun e' => ?_) (fun e' => ?_) | refine iteB (fun e' => ?_) (fun e' => ?_)
      · exact q2 fun z => e' z.2
      · exact q1 ⟨e, e'⟩
    · exact ⟨_, rfl, iteT (q2 fun z => e z.1)⟩
def spWithCount (K : PySem.W.Frag) : Sp := fun vs H Q _ => ∃ (a : Addr) (ps : List (Int × Int)) (v n : Int), vs = [.ref a, .int v, .int n] ∧ Till K H a ps ∧ ps.length ≤ 1000 ∧ spNewT H (ps.map fun p => (p.1, if p.1 = v then n else p.2)) Q
theorem ok_with_count (T : Tx K mg) : FnOk P w K mg base CX0 1 T.a__with_count T.d__with_count P__with_count (spWithCount K) := by
  refine T.f__with_count.ok sc__with_count (fun vs H Q E h => ?_) (fun cdv A outer s H vs Q E hr h => ?_)
  · obtain ⟨a, ps, v, n, rfl, _⟩ := h
    rfl
  · obtain ⟨a, ps, v, n, rfl, ⟨xs, hS, hp⟩, hl, q⟩ := h
    refine ⟨_, (pss_one (ps_ret (pe_lc (own := [("held", 3), ("lies", 4)]) (g := gTup K 2 (gCons (gName 3) (gCons (gName 4) gNil))) rfl sc__with_count.nd (pi_list (pv 0)) (blkOk_by (own := [("held", 3), ("lies", 4)]) (N := N__with_count) (sc := defScope s__with_count) (by decide +kernel)) (fun _ _ _ _ _ => pg_tup rfl (pgs_cons (pg_name (i := 3) sc__with_count.nd rfl (.inl rfl) (.inr rfl)) (pgs_cons (pg_name (i := 4) sc__with_count.nd rfl (.inl rfl) (.inr rfl)) pgs_nil))) (fun _ _ _ _ _ => pts_nil) (fun _ _ _ _ _ => (pe_tup (pa_cons (pv 3) (pa_cons (pe_ifExp (pt_cmpR op_eq (pv 3) (pv 1) (nomark _)) (pv 2) (pv 4)) pa_nil))))))), ?_⟩
    refine ⟨_, rfl, a, rfl, ⟨xs, hS⟩, fun D hD => lc_list (xs := xs) (fun i H' => ∃ ys, Ex H H' ∧ H' D = some (.lst ys) ∧ ys.length = i ∧ Prs H' ys ((ps.take i).map fun p => (p.1, if p.1 = v then n else p.2))) ⟨[], Ex.nw hD, upd_same, rfl, .nil⟩ (fun i H' _ h => by
      obtain ⟨_, e, _⟩ := h
      exact e.seq hS) ?_ ?_⟩
    · rintro i x H' hx ⟨ys, ex, eD, hyl, hys⟩
      obtain ⟨p, t, h1, rfl, h3⟩ := Prs.get hp hx
      have hi : i < ps.length := (List.getElem?_eq_some_iff.mp h1).1
      refine ⟨t, _, rfl, .of (ex _ _ h3), rfl, _, _, rfl, _, _, rfl, rfl, rfl, ?_⟩
      refine t_yes ?_
      have fin : ∀ z : Int, z = (if p.1 = v then n else p.2) → ∀ t2, H' t2 = none → ∃ acc, (upd H' t2 (.tup [.int p.1, .int z])) D = some (.lst acc) ∧ acc.length < sizeLine ∧ ∃ zs, Ex H (upd (upd H' t2 (.tup [.int p.1, .int z])) D (.lst (acc ++ [.ref t2]))) ∧ (upd (upd H' t2 (.tup [.int p.1, .int z])) D (.lst (acc ++ [.ref t2]))) D = some (.lst zs) ∧ zs.length = i + 1 ∧ Prs (upd (upd H' t2 (.tup [.int p.1, .int z])) D (.lst (acc ++ [.ref t2]))) zs ((ps.take (i + 1)).map fun p => (p.1, if p.1 = v then n else p.2)) := by
        intro z hz t2 ht2
        have nDt : D ≠ t2 := ne_of_none eD ht2
        have eD' : (upd H' t2 (.tup [.int p.1, .int z])) D = some (.lst ys) := by rw [upd_ne nDt]; exact eD
        refine ⟨ys, eD', len63' (by omega), ys ++ [.ref t2], Ex.mu (ex.tr (Ex.nw ht2)) hD, upd_same, by rw [List.length_append, hyl]; rfl, ?_⟩
        rw [take_snoc h1, List.map_append]
        refine Prs.up (by intro bs y; rw [eD'] at y; cases y) ?_
        exact Prs.snoc (hys.ex (Ex.nw ht2)) ⟨t2, rfl, by rw [upd_same, hz]⟩
      refine ⟨_, rfl, ?_⟩
      refine ⟨_, rfl, _, rfl, rfl, _, rfl, iteVI (fun e => ?_) (fun e => ?_)⟩
      · exact ⟨_, rfl, len63 (by show 2 ≤ _; decide), fun t2 ht2 => fin _ (if_pos e).symm t2 ht2⟩
      · exact ⟨_, rfl, len63 (by show 2 ≤ _; decide), fun t2 ht2 => fin _ (if_neg e).symm t2 ht2⟩
    · rintro H' ⟨ys, ex, eD, hyl, hys⟩
      rw [List.take_of_length_le (by rw [hp.len]; exact Nat.le_refl _)] at hys
      exact q D ys H' ex hD eD hys
def spDeed (K : PySem.W.Frag) (cK cC cF cT cL cH : Addr) (n : Int) : Sp := fun vs H Q E => ∃ (a : Addr) (xs : List V) (ps : List (Int × Int)) (v c : Int), vs = (if n < 2 then [.ref a, .int v, .int c] else [.ref a, .int v]) ∧ H a = some (.lst xs) ∧ Prs H xs ps ∧ Tl ps ∧ OutK cK cC cF cT cL cH ps n v c H Q E
theorem ok_brought (T : Tx K mg) : FnOk P w K mg base (L2.CX P w) 2 T.a_brought T.d_brought P_brought (spDeed K T.c_NoKind T.c_NoCount T.c_TooFew T.c_Twice T.c_NoTill T.c_StillHeld 0) := by
  have G_count_of := ok_count_of (P := P) (w := w) (base := base) T
  have G_check_count := ok_check_count (P := P) (w := w) (base := base) T
  have G__with_count := ok_with_count (P := P) (w := w) (base := base) T
  refine T.f_brought.okX sc_brought (fun vs H Q E h => ?_) (fun cdv A outer s H vs Q E hr h => ?_)
  · obtain ⟨a, xs, ps, v, c, rfl, _⟩ := h
    rfl
  · obtain ⟨a, xs, ps, v, c, rfl, ha, hp, hT, q0, qk, qc, _⟩ := h
    refine ⟨_, (pss_cons (ps_set (i := 3) sc_brought.nd rfl (.inl rfl) (pe_call G_count_of (hr.mono (by decide)) (by rfl) T.g_count_of T.f_count_of.kp T.p_count_of .nil (passes_call (takes_of rfl rfl rfl rfl) fun _ _ _ _ h => h) (pa_cons (pv 0) (pa_cons (pv 1) pa_nil))))
    (pss_cons (ps_expr (pe_call G_check_count (hr.mono (by decide)) (by rfl) T.g_check_count T.f_check_count.kp T.p_check_count .nil (passes_call (takes_of rfl rfl rfl rfl) fun _ _ _ _ h => h) (pa_cons (pv 2) pa_nil)))
    (pss_cons (ps_expr (pe_call G_check_count (hr.mono (by decide)) (by rfl) T.g_check_count T.f_check_count.kp T.p_check_count .nil (passes_call (takes_of rfl rfl rfl rfl) fun _ _ _ _ h => h) (pa_cons (pe_op op_add (pv 3) (pv 2)) pa_nil)))
    (pss_one (ps_ret (pe_call G__with_count (hr.mono (by decide)) (by rfl) T.g__with_count T.f__with_count.kp T.p__with_count .nil pass0 (pa_cons (pv 0) (pa_cons (pv 1) (pa_cons (pe_op op_add (pv 3) (pv 2)) pa_nil))))))))), ?_⟩
    have hTl : Till K H a ps := ⟨xs, .of ha, hp⟩
    unfold dueK at q0 qk qc
    rw [if_pos (by decide)] at q0 qk qc
    refine ⟨_, rfl, _, rfl, a, ps, v, rfl, hTl, fun t ht => ?_, fun hn => ?_⟩
    · have hb := hT.there_nn ht
      rw [there_some ht, if_neg (by omega)] at q0 qk qc
      refine ⟨_, rfl, c, rfl, fun hc => ?_, fun hc => ?_⟩
      · refine ⟨_, rfl, _, rfl, _, _, rfl, rfl, t + c, rfl, fun hc2 => ?_, fun hc2 => ?_⟩
        · rw [if_neg (by omega), if_neg (by omega)] at q0
          refine ⟨_, rfl, _, rfl, _, rfl, _, rfl, _, _, rfl, rfl, a, ps, v, t + c, rfl, hTl, by have := hT.len; omega, fun p ys H2 ex hp2 ep hpr => ?_⟩
          refine q0 rfl p ys _ H2 ex hp2 ep hpr (.inl ⟨rfl, ?_⟩)
          rw [setC_eq hT.nd ht]
          congr 1
          omega
        · rw [if_pos (by omega)] at qc
          exact qc rfl _ Ex.rfl'
      · rw [if_pos (by omega)] at qc
        exact qc rfl _ Ex.rfl'
    · rw [there_none hn, if_pos (by decide)] at qk
      exact qk rfl _ Ex.rfl'
/-! ### a dict of pairs -/
def dkP (us : List (Int × Int)) : List (Key × V) := us.map fun p => (Sum.inl p.1, V.int p.2)
theorem prs_dk {K : PySem.W.Frag} {H : Hp} : ∀ {xs : List V} {ps : List (Int × Int)}, Prs H xs ps → ∃ as : List Addr, xs = as.map V.ref ∧ Paired (fun p (kv : Key × V) => SqT K H p [kV kv.1, kv.2]) as (dkP ps)
  | _, _, .nil => ⟨[], rfl, .nil⟩
  | _, _, .cons (b := p) ⟨t, h1, h2⟩ r => by
    obtain ⟨as, e, q⟩ := prs_dk (K := K) r
    exact ⟨t :: as, by rw [h1, e]; rfl, .cons (.of h2) q⟩
theorem countIn_none {ps : List (Int × Int)} {v : Int} (h : ∀ p ∈ ps, p.1 ≠ v) : countIn ps v = none := by
  induction ps with
  | nil => rfl
  | cons p ps ih =>
    rw [countIn_cons, if_neg (h p List.mem_cons_self)]
    exact ih fun q hq => h q (List.mem_cons_of_mem _ hq)
theorem valV_merge {v : Int} : ∀ {us : List (Int × Int)} {kvs : List (Key × V)}, (us.map (·.1)).Nodup → valV (mergeK kvs (dkP us)) (Sum.inl v) = (match countIn us v with
  | some c => some (V.int c)
  | none => valV kvs (Sum.inl v))
  | [], kvs, _ => rfl
  | p :: us, kvs, nd => by
    rw [List.map_cons, List.nodup_cons] at nd
    have ih := valV_merge (v := v) (us := us) (kvs := putK kvs (Sum.inl p.1) (V.int p.2)) nd.2
    show valV (mergeK (putK kvs (Sum.inl p.1) (V.int p.2)) (dkP us)) (Sum.inl v) = _
    rw [ih, countIn_cons, valV_put]
    by_cases e : p.1 = v
    · rw [if_pos e, if_pos (by rw [e])]
      rw [countIn_none fun q hq z => nd.1 (by rw [e, ← z]; exact List.mem_map.mpr ⟨q, hq, rfl⟩)]
    · rw [if_neg e, if_neg (fun z => e (Sum.inl.inj z).symm)]
theorem dict_val {us : List (Int × Int)} (nd : (us.map (·.1)).Nodup) (v : Int) : valV (mergeK [] (dkP us)) (Sum.inl v) = (countIn us v).map V.int := by
  rw [valV_merge nd]
  cases countIn us v <;> rfl
theorem countIn_some {ps : List (Int × Int)} {v : Int} (h : v ∈ ps.map fun p : Int × Int => p.1) : ∃ c, countIn ps v = some c := by
  cases e : countIn ps v with
  | some c => exact ⟨c, rfl⟩
  | none =>
    exfalso
    obtain ⟨p, hp, rfl⟩ := List.mem_map.mp h
    induction ps with
    | nil => cases hp
    | cons q ps ih =>
      rw [countIn_cons] at e
      by_cases z : q.1 = p.1
      · rw [if_pos z] at e
        cases e
      · rw [if_neg z] at e
        rcases List.mem_cons.mp hp with y | y
        · exact z (by rw [y])
        · exact ih y (List.mem_map.mpr ⟨p, y, rfl⟩) e
def ownOf (us : List (Int × Int)) (v : Int) : Int := (countIn us v).getD 0
theorem ownOf_cons (u : Int × Int) (us : List (Int × Int)) (v : Int) : ownOf (u :: us) v = if u.1 = v then u.2 else ownOf us v := by
  unfold ownOf
  rw [countIn_cons]
  split <;> rfl
/-- a pair of new lists, in a new tuple -/
def NewDeal (H : Hp) (pa ga : List (Int × Int)) (Q : VK) : Prop := ∀ l a b xs ys H2, Ex H H2 → H l = none → H a = none → H b = none → l ≠ a → l ≠ b → a ≠ b → H2 l = some (.tup [.ref a, .ref b]) → H2 a = some (.lst xs) → H2 b = some (.lst ys) → Prs H2 xs pa → Prs H2 ys ga → Q (.ref l) H2
/-! ### what is paid, by itself -/
def fullP (ps : List (Int × Int)) (vals : List Int) : List (Int × Int) := ps.map fun p => (p.1, p.2 + (vals.count p.1 : Int))
theorem fullP_nil (ps : List (Int × Int)) : fullP ps [] = ps := by
  unfold fullP
  refine (List.map_congr_left fun p _ => ?_).trans (List.map_id ps)
  show (p.1, p.2 + ((List.count p.1 [] : Nat) : Int)) = p
  rw [List.count_nil]
  simp
theorem fullP_len (ps : List (Int × Int)) (vals : List Int) : (fullP ps vals).length = ps.length := List.length_map _
theorem fullP_snoc (ps : List (Int × Int)) (vals : List Int) (v : Int) : fullP ps (vals ++ [v]) = addC (fullP ps vals) v 1 := by
  unfold fullP addC
  rw [List.map_map]
  refine List.map_congr_left fun p _ => ?_
  show (p.1, p.2 + ((List.count p.1 (vals ++ [v]) : Nat) : Int)) = if p.1 = v then (p.1, p.2 + ((List.count p.1 vals : Nat) : Int) + 1) else (p.1, p.2 + ((List.count p.1 vals : Nat) : Int))
  rw [List.count_append]
  by_cases e : p.1 = v
  · rw [if_pos e, e, List.count_singleton_self]
    congr 1
    omega
  · rw [if_neg e, List.count_eq_zero.mpr (fun z => e (List.mem_singleton.mp z))]
    rfl
theorem countIn_full (ps : List (Int × Int)) (vals : List Int) (v : Int) : countIn (fullP ps vals) v = (countIn ps v).map fun t => t + (vals.count v : Int) := by
  induction ps with
  | nil => rfl
  | cons p ps ih =>
    show countIn ((p.1, p.2 + (vals.count p.1 : Int)) :: fullP ps vals) v = _
    rw [countIn_cons, countIn_cons, ih]
    by_cases e : p.1 = v
    · rw [if_pos e, if_pos e, ← e]
      rfl
    · rw [if_neg e, if_neg e]
def pieceDue (ps : List (Int × Int)) (pre : List Int) (v : Int) : Str := match countIn (fullP ps pre) v with
  | none => "kind"
  | some t => if t = 1000000000 then "count" else ""
theorem pieceDue_in (ps : List (Int × Int)) (pre : List Int) (v : Int) : pieceDue ps pre v = "kind" ∨ pieceDue ps pre v = "count" ∨ pieceDue ps pre v = "" := by
  unfold pieceDue
  cases countIn (fullP ps pre) v with
  | none => exact .inl rfl
  | some t =>
    show (if t = 1000000000 then ("count" : Str) else "") = _ ∨ (if t = 1000000000 then ("count" : Str) else "") = _ ∨ (if t = 1000000000 then ("count" : Str) else "") = _
    split
    · exact .inr (.inl rfl)
    · exact .inr (.inr rfl)
def walkDue (ps : List (Int × Int)) : List Int → List Int → Str
  | _, [] => ""
  | pre, v :: r => if pieceDue ps pre v = "" then walkDue ps (pre ++ [v]) r else pieceDue ps pre v
theorem walkDue_cons (ps : List (Int × Int)) (pre : List Int) (v : Int) (r : List Int) : walkDue ps pre (v :: r) = if pieceDue ps pre v = "" then walkDue ps (pre ++ [v]) r else pieceDue ps pre v := rfl
theorem walkDue_in (ps : List (Int × Int)) : ∀ (r pre : List Int), walkDue ps pre r = "kind" ∨ walkDue ps pre r = "count" ∨ walkDue ps pre r = ""
  | [], _ => .inr (.inr rfl)
  | v :: r, pre => by
    unfold walkDue
    split
    · exact walkDue_in ps r _
    · exact pieceDue_in ps pre v
/-- the refusal that is due ahead of the change -/
def dueP (ps : List (Int × Int)) (c : Int) (vals : List Int) : Str :=
  if 0 ≤ c ∧ c ≤ 1000 then (if 60 < vals.length then "count" else if walkDue ps [] vals = "" then (if vals.sum < c then "little" else if vals.sum - c > 1000 then "sum" else "") else walkDue ps [] vals) else "sum"
theorem dueP_walk {ps : List (Int × Int)} {c : Int} {vals : List Int} (hc : 0 ≤ c ∧ c ≤ 1000) (hl : ¬ 60 < vals.length) {s : Str} (h : walkDue ps [] vals = s) (hs : s ≠ "") : dueP ps c vals = s := by
  unfold dueP
  rw [if_pos hc, if_neg hl, if_neg (by rw [h]; exact hs), h]
theorem dueP_end {ps : List (Int × Int)} {c : Int} {vals : List Int} (hc : 0 ≤ c ∧ c ≤ 1000) (hl : ¬ 60 < vals.length) (h : walkDue ps [] vals = "") : dueP ps c vals = if vals.sum < c then ("little" : Str) else if vals.sum - c > 1000 then "sum" else "" := by
  unfold dueP
  rw [if_pos hc, if_neg hl, if_pos h]
theorem dueP_in (ps : List (Int × Int)) (c : Int) (vals : List Int) : dueP ps c vals = "sum" ∨ dueP ps c vals = "count" ∨ dueP ps c vals = "kind" ∨ dueP ps c vals = "little" ∨ dueP ps c vals = "" := by
  unfold dueP
  split
  · split
    · exact .inr (.inl rfl)
    · split
      · split
        · exact .inr (.inr (.inr (.inl rfl)))
        · split
          · exact .inl rfl
          · exact .inr (.inr (.inr (.inr rfl)))
      · rcases walkDue_in ps vals [] with e | e | e <;> rw [e]
        · exact .inr (.inr (.inl rfl))
        · exact .inr (.inl rfl)
        · exact .inr (.inr (.inr (.inr rfl)))
  · exact .inl rfl
theorem dueP_ok {ps : List (Int × Int)} {c : Int} {vals : List Int} (h : dueP ps c vals = "") : (0 ≤ c ∧ c ≤ 1000) ∧ vals.length ≤ 60 ∧ walkDue ps [] vals = "" ∧ 0 ≤ vals.sum - c ∧ vals.sum - c ≤ 1000 := by
  unfold dueP at h
  split at h
  · next hc =>
    split at h
    · cases h
    · split at h
      · next hw =>
        split at h
        · cases h
        · split at h
          · cases h
          · exact ⟨hc, by omega, hw, by omega, by omega⟩
      · next hw => exact absurd h hw
  · cases h
theorem addC_tl {ps : List (Int × Int)} {v : Int} (h : Tl ps) (hc : ∀ t, countIn ps v = some t → t < 1000000000) : Tl (addC ps v 1) := by
  have hm : ∀ p ∈ addC ps v 1, ∃ q ∈ ps, p.1 = q.1 ∧ (p.2 = q.2 ∨ (q.1 = v ∧ p.2 = q.2 + 1)) := fun p hp => by
    obtain ⟨q, hq, rfl⟩ := List.mem_map.mp hp
    refine ⟨q, hq, ?_⟩
    by_cases e : q.1 = v
    · rw [if_pos e]
      exact ⟨rfl, .inr ⟨e, rfl⟩⟩
    · rw [if_neg e]
      exact ⟨rfl, .inl rfl⟩
  refine ⟨?_, fun p hp => ?_, fun p hp => ?_, ?_⟩
  · have h1 := h.ris
    unfold Rising at h1 ⊢
    unfold addC
    rw [List.pairwise_map]
    refine h1.imp fun {a b} hab => ?_
    have e1 : (if a.1 = v then (a.1, a.2 + 1) else a).1 = a.1 := by split <;> rfl
    have e2 : (if b.1 = v then (b.1, b.2 + 1) else b).1 = b.1 := by split <;> rfl
    rw [e1, e2]
    exact hab
  · obtain ⟨q, hq, e, _⟩ := hm p hp
    rw [e]
    exact h.val q hq
  · obtain ⟨q, hq, e, e2⟩ := hm p hp
    have h1 := h.cnt q hq
    rcases e2 with e2 | ⟨e2, e3⟩
    · omega
    · have h2 := countIn_nd h.nd hq
      rw [e2] at h2
      have := hc _ h2
      omega
  · unfold addC
    rw [List.length_map]
    exact h.len
theorem pieceDue_eq {ps : List (Int × Int)} {pre : List Int} (h : Tl (fullP ps pre)) (v : Int) : dueK (fullP ps pre) 0 v 1 = pieceDue ps pre v := by
  unfold dueK pieceDue
  rw [if_pos (by decide)]
  cases e : countIn (fullP ps pre) v with
  | none =>
    rw [there_none e, if_pos (by decide)]
  | some t =>
    have hb := h.there_nn e
    rw [there_some e, if_neg (by omega)]
    show _ = if t = 1000000000 then ("count" : Str) else ""
    by_cases e2 : t = 1000000000
    · rw [if_pos (by omega), if_pos e2]
    · rw [if_neg (by omega), if_neg (fun z => absurd z.1 (by decide)), if_neg e2]
theorem pieceDue_tl {ps : List (Int × Int)} {pre : List Int} (h : Tl (fullP ps pre)) {v : Int} (hd : pieceDue ps pre v = "") : Tl (fullP ps (pre ++ [v])) := by
  rw [fullP_snoc]
  refine addC_tl h fun t ht => ?_
  unfold pieceDue at hd
  rw [ht] at hd
  have hb := h.there_nn ht
  change (if t = 1000000000 then ("count" : Str) else "") = "" at hd
  split at hd
  · cases hd
  · omega
theorem walk_tl {ps : List (Int × Int)} : ∀ {r pre : List Int}, Tl (fullP ps pre) → walkDue ps pre r = "" → Tl (fullP ps (pre ++ r))
  | [], pre, h, _ => by rw [List.append_nil]; exact h
  | v :: r, pre, h, hw => by
    unfold walkDue at hw
    split at hw
    · next hd =>
      have := walk_tl (r := r) (pieceDue_tl h hd) hw
      rw [List.append_assoc] at this
      exact this
    · next hd => exact absurd hw hd
/-- what the table tells of it, the change, the till behind -/
def sumP (c : Int) (vals : List Int) : Nat := (vals.sum - c).toNat
def cellP (ps : List (Int × Int)) (c : Int) (vals : List Int) : Cell := rAt (lastRow (row0 (sumP c vals)) (fullP ps vals)) (sumP c vals)
def gsP (ps : List (Int × Int)) (c : Int) (vals : List Int) : List (Int × Int) := given (row0 (sumP c vals)) (fullP ps vals) (fullP ps vals).length (sumP c vals)
def behP (ps : List (Int × Int)) (c : Int) (vals : List Int) : List (Int × Int) := (fullP ps vals).map fun p => (p.1, p.2 - ownOf (gsP ps c vals) p.1)
theorem gsP_ok {ps : List (Int × Int)} {c : Int} {vals : List Int} (hT : Tl ps) (hd : dueP ps c vals = "") {m : Int} (hm : cellP ps c vals = some m) :
    worthP (gsP ps c vals) = (sumP c vals : Int) ∧ manyP (gsP ps c vals) = m ∧ (∀ q ∈ gsP ps c vals, 1 ≤ q.1 ∧ q.1 ≤ 1000 ∧ 1 ≤ q.2 ∧ ∃ t, (q.1, t) ∈ fullP ps vals ∧ q.2 ≤ t) ∧ Rising (gsP ps c vals) ∧ (gsP ps c vals).length ≤ 10 := by
  obtain ⟨_, _, hw, _, _⟩ := dueP_ok hd
  have ht := walk_tl (r := vals) (pre := []) (by rw [fullP_nil]; exact hT) hw
  rw [List.nil_append] at ht
  obtain ⟨h1, h2, h3, h4, h5⟩ := given_ok (ps := fullP ps vals) (n := sumP c vals) (fun p hp => (ht.val p hp).1) (Nat.le_refl (fullP ps vals).length) (Nat.lt_succ_self (sumP c vals)) (m := m) (by rw [List.take_length]; exact hm)
  refine ⟨h1, h2, fun q hq => ?_, h4 ht.ris, Nat.le_trans h5 ht.len.2⟩
  obtain ⟨a, t, b, b'⟩ := h3 q hq
  rw [List.take_length] at b
  have := ht.val _ b
  exact ⟨this.1, this.2, a, t, b, b'⟩
/-! ### a price, paid -/
def OutP (cS cC cK cL cN : Addr) (ps : List (Int × Int)) (c : Int) (vals : List Int) (H : Hp) (Q : VK) (E : XK) : Prop :=
  (dueP ps c vals = "sum" → ∀ H2, Ex H H2 → E (.ref cS) none H2) ∧ (dueP ps c vals = "count" → ∀ H2, Ex H H2 → E (.ref cC) none H2) ∧ (dueP ps c vals = "kind" → ∀ H2, Ex H H2 → E (.ref cK) none H2) ∧ (dueP ps c vals = "little" → ∀ H2, Ex H H2 → E (.ref cL) none H2) ∧
  (dueP ps c vals = "" → cellP ps c vals = none → ∀ H2, Ex H H2 → E (.ref cN) none H2) ∧ (dueP ps c vals = "" → cellP ps c vals ≠ none → NewDeal H (behP ps c vals) (gsP ps c vals) Q)
def spPaid (K : PySem.W.Frag) (cS cC cK cL cN : Addr) : Sp := fun vs H Q E => ∃ (t u : Addr) (xs : List V) (ps : List (Int × Int)) (c : Int) (vals : List Int), vs = [.ref t, .int c, .ref u] ∧ H t = some (.lst xs) ∧ Prs H xs ps ∧ Tl ps ∧ SqL K H u (vals.map V.int) ∧ OutP cS cC cK cL cN ps c vals H Q E
theorem ok_paid (T : Tx K mg) : FnOk P w K mg base (L2.CX P w) 5 T.a_paid T.d_paid P_paid (spPaid K T.c_NoSum T.c_NoCount T.c_NoKind T.c_TooLittle T.c_NoChange) := by
  have G_check_sum := ok_check_sum (P := P) (w := w) (base := base) T
  have G_brought := ok_brought (P := P) (w := w) (base := base) T
  have G_fewest := ok_fewest (P := P) (w := w) (base := base) T
  refine T.f_paid.okX sc_paid (fun vs H Q E h => ?_) (fun cdv A outer s H vs Q E hr h => ?_)
  · obtain ⟨t, u, xs, ps, c, vals, rfl, _⟩ := h
    rfl
  · obtain ⟨t, u, xs, ps, c, vals, rfl, ht, hp, hT, hS, qs, qc, qk, ql, qn, q⟩ := h
    refine ⟨_, (pss_cons (ps_expr (pe_call G_check_sum (hr.mono (by decide)) (by rfl) T.g_check_sum T.f_check_sum.kp T.p_check_sum .nil (passes_call (takes_of rfl rfl rfl rfl) fun _ _ _ _ h => h) (pa_cons (pv 1) pa_nil)))
    (pss_cons (ps_if (pt_cmpR op_gt (pe_callB call_len_seq (by rfl) T.m_len (by decide +kernel) (pa_cons (pv 2) pa_nil)) (pe_glob (v := .int 60) (by rfl) T.w_MOST_PAID.choose_spec ⟨_, rfl⟩) (nomark _))
      (pss_one (ps_raise rfl (takes_of rfl rfl rfl rfl) (pmk_own PySem.F.excBase_ValueError T.x_NoCount T.g_NoCount T.k_NoCount (raises_own T.b_NoCount T.t_NoCount) rfl)))
      pss_nil)
    (pss_cons (ps_set (i := 3) sc_paid.nd rfl (.inl rfl) (pv 0))
    (pss_cons (ps_for (passes_of rfl) rfl (pi_list (pv 2)) (pg_name (i := 4) sc_paid.nd rfl (.inl rfl))
      (pss_one (ps_set (i := 3) sc_paid.nd rfl (.inl rfl) (pe_call G_brought (hr.mono (by decide)) (by rfl) T.g_brought T.f_brought.kp T.p_brought .nil (passes_call (takes_of rfl rfl rfl rfl) fun _ _ _ _ h => h) (pa_cons (pv 3) (pa_cons (pv 4) (pa_cons pe_int pa_nil)))))))
    (pss_cons (ps_set (i := 5) sc_paid.nd rfl (.inl rfl) (pe_op op_sub (pe_callB (cr_sum rfl) (by rfl) T.m_sum (by decide +kernel) (pa_cons (pv 2) pa_nil)) (pv 1)))
    (pss_cons (ps_if (pt_cmpR op_lt (pv 5) pe_int (nomark _))
      (pss_one (ps_raise rfl (takes_of rfl rfl rfl rfl) (pmk_own PySem.F.excBase_ValueError T.x_TooLittle T.g_TooLittle T.k_TooLittle (raises_own T.b_TooLittle T.t_TooLittle) rfl)))
      pss_nil)
    (pss_cons (ps_set (i := 6) sc_paid.nd rfl (.inl rfl) (pe_call G_fewest (hr.mono (by decide)) (by rfl) T.g_fewest T.f_fewest.kp T.p_fewest .nil (passes_call (takes_of rfl rfl rfl rfl) fun _ _ _ _ h => h) (pa_cons (pv 3) (pa_cons (pv 5) pa_nil))))
    (pss_cons (ps_set (i := 7) sc_paid.nd rfl (.inr rfl) (pe_callTy (call_dictP rfl) (by rfl) T.m_dict (by decide +kernel) (pa_cons (pv 6) pa_nil)))
    (pss_cons (ps_setLc (i := 8) (own := [("value", 4), ("count", 9)]) (g := gTup K 2 (gCons (gName 4) (gCons (gName 9) gNil))) rfl sc_paid.nd rfl rfl (sw_true rfl rfl rfl (by decide +kernel)) (pi_list (pv 3)) (blkOk_by (own := [("value", 4), ("count", 9)]) (N := N_paid) (sc := defScope s_paid) (by decide +kernel)) (fun _ _ _ _ _ => pg_tup rfl (pgs_cons (pg_name (i := 4) sc_paid.nd rfl (.inl rfl) (.inr rfl)) (pgs_cons (pg_name (i := 9) sc_paid.nd rfl (.inl rfl) (.inr rfl)) pgs_nil))) (fun _ _ _ _ _ => pts_nil) (fun _ _ _ _ _ => (pe_tup (pa_cons (pv 4) (pa_cons (pe_op op_sub (pv 9) (pe_dget2 (hu_of hr) (pv 7) (pv 4) pe_int ⟨by rfl, by rfl, by rfl, by rfl⟩)) pa_nil)))))
    (pss_one (ps_ret (pe_tup (pa_cons (pv 8) (pa_cons (pv 6) pa_nil)))))))))))))), ?_⟩
    refine ⟨_, rfl, c, rfl, fun hc => ?_, fun hc => qs (by unfold dueP; rw [if_neg hc]) _ Ex.rfl'⟩
    refine ⟨_, rfl, u, _, rfl, .inl hS, _, _, rfl, rfl, _, rfl, iteD (fun e => ?_) (fun e => ?_)⟩
    · have e' : ((vals.map V.int).length : Int) > 60 := e
      rw [List.length_map] at e'
      exact qc (by unfold dueP; rw [if_pos hc, if_pos (by omega)]) _ Ex.rfl'
    have e' : ¬ ((vals.map V.int).length : Int) > 60 := e
    rw [List.length_map] at e'
    have hl : ¬ 60 < vals.length := by omega
    refine ⟨_, rfl, ?_⟩
    refine ⟨_, rfl, u, rfl, ⟨_, hS⟩, for_list (xs := vals.map V.int) (fun i σ H' => ∃ (f : Addr) (fs : List V) (y4 : Option V), σ = [some (.ref t), some (.int c), some (.ref u), some (.ref f), y4, none, none, none, none, none] ∧ Ex H H' ∧ H' f = some (.lst fs) ∧ Prs H' fs (fullP ps (vals.take i)) ∧ Tl (fullP ps (vals.take i)) ∧ walkDue ps (vals.take i) (vals.drop i) = walkDue ps [] vals)
      ⟨t, xs, _, rfl, Ex.rfl', ht, by rw [List.take_zero, fullP_nil]; exact hp, by rw [List.take_zero, fullP_nil]; exact hT, rfl⟩ (fun i σ H' _ h => by
        obtain ⟨_, _, _, _, e, _⟩ := h
        exact e.seq hS) ?_ ?_⟩
    · rintro i x σ H' hx ⟨f, fs, y4, rfl, ex, ef, hf, hTf, hw⟩
      rw [List.getElem?_map] at hx
      obtain ⟨v, hv, rfl⟩ := Option.map_eq_some_iff.mp hx
      have hd : vals.drop i = v :: vals.drop (i + 1) := drop_at hv
      rw [hd, walkDue_cons] at hw
      have hpe := pieceDue_eq hTf v
      refine ⟨_, rfl, _, rfl, f, fs, fullP ps (vals.take i), v, 1, rfl, ef, hf, hTf, ?_⟩
      unfold OutK
      rw [hpe]
      have bad : ∀ s : Str, s ≠ "kind" → s ≠ "count" → s ≠ "" → pieceDue ps (vals.take i) v = s → False := fun s h1 h2 h3 h => by
        rcases pieceDue_in ps (vals.take i) v with e | e | e
        · exact h1 (h.symm.trans e)
        · exact h2 (h.symm.trans e)
        · exact h3 (h.symm.trans e)
      refine ⟨fun hd0 p ys qs' H2 e2 hp2 ep hpr hb => ?_, fun hd0 H2 e2 => ?_, fun hd0 H2 e2 => ?_, fun h => (bad _ (by decide) (by decide) (by decide) h).elim, fun h => (bad _ (by decide) (by decide) (by decide) h).elim, fun h => (bad _ (by decide) (by decide) (by decide) h).elim, fun h => (bad _ (by decide) (by decide) (by decide) h).elim⟩
      · rw [if_pos hd0] at hw
        have hq : qs' = addC (fullP ps (vals.take i)) v 1 := by
          rcases hb with ⟨_, h⟩ | ⟨h, _⟩ | ⟨h, _⟩ | ⟨h, _⟩
          · exact h
          · exact absurd h (by decide)
          · exact absurd h (by decide)
          · exact absurd h (by decide)
        rw [hq, ← fullP_snoc, ← take_snoc hv] at hpr
        have htl := pieceDue_tl hTf hd0
        rw [← take_snoc hv] at htl hw
        exact ⟨p, ys, _, rfl, ex.tr e2, ep, hpr, htl, hw⟩
      · rw [if_neg (by rw [hd0]; decide), hd0] at hw
        exact qk (dueP_walk hc hl hw.symm (by decide)) _ (ex.tr e2)
      · rw [if_neg (by rw [hd0]; decide), hd0] at hw
        exact qc (dueP_walk hc hl hw.symm (by decide)) _ (ex.tr e2)
    · rintro σ H1 ⟨f, fs, y4, rfl, ex1, ef, hf, hTf, hw⟩
      rw [List.length_map, List.take_length] at hf hTf
      rw [List.length_map, List.drop_length] at hw
      have hde := dueP_end hc hl hw.symm
      refine ⟨_, rfl, u, vals, rfl, ex1.seq hS, _, rfl, _, _, rfl, rfl, ?_⟩
      refine ⟨_, rfl, _, _, rfl, rfl, _, rfl, iteD (fun e1 => ?_) (fun e1 => ?_)⟩
      · have e2 : vals.sum - c < 0 := e1
        exact ql (by rw [hde, if_pos (by omega)]) _ ex1
      have e2 : ¬ vals.sum - c < 0 := e1
      rw [if_neg (by omega)] at hde
      have hsn : (sumP c vals : Int) = vals.sum - c := Int.toNat_of_nonneg (by omega)
      refine ⟨_, rfl, _, rfl, f, fullP ps vals, vals.sum - c, rfl, ⟨fs, .of ef, hf⟩, by have := hTf.len; omega, fun p hp => ⟨(hTf.val p hp).1, (hTf.val p hp).2, (hTf.cnt p hp).1⟩, fun hn => ?_, fun hn hcn H2 e3 => ?_, fun hn hcn g ys H2 e3 hg eg hgs => ?_⟩
      · exact qs (by rw [hde, if_pos (by omega)]) _ ex1
      · rw [if_neg (by omega)] at hde
        exact qn hde hcn _ (ex1.tr e3)
      rw [if_neg (by omega)] at hde
      have q1 := q hde hcn
      change Prs H2 ys (gsP ps c vals) at hgs
      obtain ⟨m, hm⟩ := Option.ne_none_iff_exists'.mp hcn
      obtain ⟨_, _, _, hgr, hgl⟩ := gsP_ok hT hde hm
      unfold behP at q1
      generalize gsP ps c vals = gs at hgs hgr hgl q1
      have ex2 := ex1.tr e3
      have ef2 := e3 _ _ ef
      have hf2 := hf.ex e3
      obtain ⟨as, rfl, hdg⟩ := prs_dk (K := K) hgs
      refine ⟨_, rfl, g, as, dkP gs, rfl, .of eg, hdg, fun d hd => ?_⟩
      (generalize hh : upd H2 d _ = H3; have e4 : Ex H2 H3 := (by rw [← hh]; exact Ex.nw hd); have cd := (show H3 d = some _ by rw [← hh]; exact upd_same); clear hh)
      have ef3 := e4 _ _ ef2
      have hf3 := hf2.ex e4
      have hfl := hf3.len
      have hfl2 := hTf.len
      refine ⟨_, rfl, f, rfl, ⟨fs, .of ef3⟩, fun D hD => lc_list (xs := fs) (fun i H' => ∃ zs, Ex H3 H' ∧ H' D = some (.lst zs) ∧ zs.length = i ∧ Prs H' zs (((fullP ps vals).take i).map fun p => (p.1, p.2 - ownOf gs p.1))) ⟨[], Ex.nw hD, upd_same, rfl, .nil⟩ (fun i H' _ h => by
        obtain ⟨_, e, _⟩ := h
        exact .of (e _ _ ef3)) ?_ ?_⟩
      · rintro i x H' hx ⟨zs, ex, eD, hzl, hzs⟩
        obtain ⟨p, t2, h1, rfl, h3⟩ := Prs.get hf3 hx
        have hi : i < (fullP ps vals).length := (List.getElem?_eq_some_iff.mp h1).1
        refine ⟨t2, _, rfl, .of (ex _ _ h3), rfl, _, _, rfl, _, _, rfl, rfl, rfl, ?_⟩
        refine t_yes ?_
        refine ⟨_, rfl, _, rfl, _, rfl, d, rfl, .inl ⟨_, .inl (ex _ _ cd)⟩, _, rfl, _, DGet.k (k := Sum.inl p.1) (ex _ _ cd), ?_⟩
        rw [dict_val (rising_nd hgr), show (Option.map V.int (countIn gs p.1)).getD (.int 0) = .int (ownOf gs p.1) by unfold ownOf; cases countIn gs p.1 <;> rfl]
        refine ⟨_, _, rfl, rfl, len63 (by show 2 ≤ _; decide), fun t3 ht3 => ?_⟩
        have nDt : D ≠ t3 := ne_of_none eD ht3
        have eD' : (upd H' t3 (.tup [.int p.1, .int (p.2 - ownOf gs p.1)])) D = some (.lst zs) := by rw [upd_ne nDt]; exact eD
        refine ⟨zs, eD', len63' (by omega), zs ++ [.ref t3], Ex.mu (ex.tr (Ex.nw ht3)) hD, upd_same, by rw [List.length_append, hzl]; rfl, ?_⟩
        rw [take_snoc h1, List.map_append]
        refine Prs.up (by intro bs y; rw [eD'] at y; cases y) ?_
        exact Prs.snoc (hzs.ex (Ex.nw ht3)) ⟨t3, rfl, upd_same⟩
      rintro H4 ⟨zs, e5, eD, hzl, hzs⟩
      rw [List.take_of_length_le (by omega)] at hzs
      have e35 := e4.tr e5
      have eg4 := e35 _ _ eg
      have hg4 := hgs.ex e35
      have hD2 : H2 D = none := none_back e4 hD
      refine ⟨_, rfl, _, rfl, len63 (by show 2 ≤ _; decide), fun l hl => ?_⟩
      have ex4 := ex2.tr e35
      have ngD : g ≠ D := fun z => by rw [z, hD2] at eg; cases eg
      exact q1 l D g zs _ _ (ex4.tr (Ex.nw hl)) (none_back ex4 hl) (none_back ex2 hD2) (none_back ex1 hg) (ne_of_none eD hl).symm (ne_of_none eg4 hl).symm ngD.symm upd_same ((Ex.nw hl) _ _ eD) ((Ex.nw hl) _ _ eg4) (hzs.ex (Ex.nw hl)) (hg4.ex (Ex.nw hl))
/-- a test that is decided, told once -/
theorem ifs_true {t : TT} {a b : TS} {D : Ends} {σ : L2.St} {H : Hp} (ht : ∀ Q : Bool → Hp → Prop, Q true H → t σ H Q) (ha : a D σ H) : tIfS t a b D σ H :=
  ht _ (show if true = true then a D σ H else b D σ H by rw [if_pos rfl]; exact ha)
theorem ifs_false {t : TT} {a b : TS} {D : Ends} {σ : L2.St} {H : Hp} (ht : ∀ Q : Bool → Hp → Prop, Q false H → t σ H Q) (hb : b D σ H) : tIfS t a b D σ H :=
  ht _ (show if false = true then a D σ H else b D σ H by rw [if_neg (by decide)]; exact hb)
theorem test_is {t : TT} {b : Bool} {σ : L2.St} {H : Hp} {F : Bool → Hp → Prop} (ht : ∀ Q : Bool → Hp → Prop, Q b H → t σ H Q) (hf : F b H) : t σ H F := ht F hf
/-! ### the pieces that are handed in -/
def spValues (K : PySem.W.Frag) : Sp := fun vs H Q _ => ∃ (t : Addr) (ps : List (Int × Int)) (c o : Int), vs = [.ref t, .int c, .int o] ∧ Till K H t ps ∧ 1 ≤ ps.length ∧ ps.length ≤ 1000 ∧ ∀ (l : Addr) (ns : List Int) (H2 : Hp), Ex H H2 → H l = none → H2 l = some (.lst (ns.map V.int)) → ns.length ≤ 100 → Q (.ref l) H2
theorem ok_values (T : Tx K mg) : FnOk P w K mg base CX0 2 T.a__law_values T.d__law_values P__law_values (spValues K) := by
  have G__law_mixed := ok_mixed (P := P) (w := w) (base := base) T
  refine T.f__law_values.ok sc__law_values (fun vs H Q E h => ?_) (fun cdv A outer s H vs Q E hr h => ?_)
  · obtain ⟨t, ps, c, o, rfl, _⟩ := h
    rfl
  · obtain ⟨t, ps, c, o, rfl, ⟨xs, hS, hp⟩, hl1, hl, q⟩ := h
    refine ⟨_, (pss_cons (ps_set (i := 3) sc__law_values.nd rfl (.inl rfl) (pe_op op_mod (pv 1) pe_int))
    (Evl.pss_cut (ps_if (pt_cmpR op_eq (pe_op op_mod (pe_op op_fdiv (pv 1) pe_int) pe_int) pe_int (nomark _))
      (pss_one (ps_set (i := 3) sc__law_values.nd rfl (.inl rfl) (pe_op op_add pe_int (pe_op op_mod (pe_op op_fdiv (pv 1) pe_int) pe_int))))
      pss_nil)
    (Evl.pss_cut (ps_if (pt_cmpR op_eq (pe_op op_mod (pe_op op_fdiv (pv 1) pe_int) pe_int) pe_int (nomark _))
      (pss_one (ps_set (i := 3) sc__law_values.nd rfl (.inl rfl) (pe_op op_add pe_int (pe_op op_mod (pe_op op_fdiv (pv 1) pe_int) pe_int))))
      pss_nil)
    (pss_cons (ps_set (i := 4) sc__law_values.nd rfl (.inl rfl) (pe_lst pa_nil))
    (pss_cons (ps_for PassesOwn.never rfl (pi_range1 (by rfl) T.m_range (pa_cons (pv 3) pa_nil)) (pg_name (i := 5) sc__law_values.nd rfl (.inl rfl))
      (pss_one (ps_expr (pe_bm PySem.F.plainAttrs_list PySem.F.slot_list_append PySem.F.type_list_append mt_append (pv 4) (pa_cons (pe_ix ix_tup (pe_ix ix_list (pv 0) (pe_op op_mod (pe_call G__law_mixed (hr.mono (by decide)) (by rfl) T.g__law_mixed T.f__law_mixed.kp T.p__law_mixed .nil pass0 (pa_cons (pv 2) (pa_cons (pe_op op_add (pv 5) pe_int) pa_nil))) (pe_callB call_len_seq (by rfl) T.m_len (by decide +kernel) (pa_cons (pv 0) pa_nil))) (fun _ _ => rfl)) pe_int (fun _ _ => rfl)) pa_nil)))))
    (Evl.pss_cut (ps_if (pt_cmpR op_eq (pe_op op_mod (pe_op op_fdiv (pv 1) pe_int) pe_int) pe_int (nomark _))
      (pss_cons (ps_set (i := 6) sc__law_values.nd rfl (.inl rfl) (pe_op op_mod (pe_op op_fdiv (pv 1) pe_int) (pe_op op_add (pv 3) pe_int)))
      (pss_cons (ps_set (i := 7) sc__law_values.nd rfl (.inl rfl) (pe_ix ix_list (pe_lst (pa_cons pe_int (pa_cons pe_int (pa_cons (pe_op op_sub (pe_un un_neg pe_int) (pe_op op_mod (pv 2) (pe_op op_pow pe_int pe_int))) (pa_cons (pe_op op_add pe_int (pe_op op_mod (pv 2) pe_int)) (pa_cons (pe_op op_pow pe_int pe_int) pa_nil)))))) (pe_op op_mod (pv 2) pe_int) (fun _ _ => rfl)))
      (pss_one (ps_set (i := 4) sc__law_values.nd rfl (.inl rfl) (pe_op op_cat (pe_op op_cat (pe_slice sl_list (pv 4) po_none (po_some (pv 6))) (pe_lst (pa_cons (pv 7) pa_nil))) (pe_slice sl_list (pv 4) (po_some (pv 6)) po_none))))))
      pss_nil)
    (pss_one (ps_ret (pv 4))))))))), ?_⟩
    have hpl := hp.len
    have a1 : 0 ≤ c % 10 := Int.emod_nonneg _ (by decide)
    have a2 : c % 10 < 10 := Int.emod_lt_of_pos _ (by decide)
    repeat (first | refine ⟨_, rfl, ?_⟩ | refine ⟨(by show (0 : Int) < _; decide), ?_⟩ | refine ⟨⟨by decide, by decide⟩, ?_⟩ | refine ⟨.inr ⟨by decide, by decide⟩, ?_⟩ | refine ⟨.inl ⟨by decide, by decide⟩, ?_⟩ | refine ⟨⟨by decide, by decide, by decide⟩, ?_⟩ | refine ⟨_, _, rfl, rfl, ?_⟩ | refine ⟨rfl, _, rfl, ?_⟩)
    refine ⟨fun σ' H' => ∃ n : Nat, n ≤ 60 ∧ σ' = [some (.ref t), some (.int c), some (.int o), some (.int (n : Int)), none, none, none, none] ∧ H' = H, ?_, ?_⟩
    · repeat (first | refine ⟨_, rfl, ?_⟩ | refine ⟨(by show (0 : Int) < _; decide), ?_⟩ | refine ⟨⟨by decide, by decide⟩, ?_⟩ | refine ⟨.inr ⟨by decide, by decide⟩, ?_⟩ | refine ⟨.inl ⟨by decide, by decide⟩, ?_⟩ | refine ⟨⟨by decide, by decide, by decide⟩, ?_⟩ | refine ⟨_, _, rfl, rfl, ?_⟩ | refine ⟨rfl, _, rfl, ?_⟩)
      first | refine iteVI (fun e => ?_) (fun e => ?_) | refine iteVN (fun e => ?_) (fun e => ?_) | refine iteD (fun e => ?_) (fun e => ?_) | refine iteDN (fun e => ?_) (fun e => ?_) | refine iteB (fun e => ?_) (fun e => ?_)
      · repeat (first | refine ⟨_, rfl, ?_⟩ | refine ⟨(by show (0 : Int) < _; decide), ?_⟩ | refine ⟨⟨by decide, by decide⟩, ?_⟩ | refine ⟨.inr ⟨by decide, by decide⟩, ?_⟩ | refine ⟨.inl ⟨by decide, by decide⟩, ?_⟩ | refine ⟨⟨by decide, by decide, by decide⟩, ?_⟩ | refine ⟨_, _, rfl, rfl, ?_⟩ | refine ⟨rfl, _, rfl, ?_⟩)
        have w1 : 0 ≤ c / 60 % 51 := Int.emod_nonneg _ (by decide)
        have w2 : c / 60 % 51 < 51 := Int.emod_lt_of_pos _ (by decide)
        exact ⟨(10 + c / 60 % 51).toNat, by omega, by rw [Int.toNat_of_nonneg (by omega)]; rfl, rfl⟩
      · exact ⟨(c % 10).toNat, by omega, by rw [Int.toNat_of_nonneg (by omega)]; rfl, rfl⟩
    rintro σ' H' ⟨n1, hn1, rfl, rfl⟩
    refine ⟨fun σ' H2 => ∃ n : Nat, n ≤ 62 ∧ σ' = [some (.ref t), some (.int c), some (.int o), some (.int (n : Int)), none, none, none, none] ∧ H2 = H', ?_, ?_⟩
    · repeat (first | refine ⟨_, rfl, ?_⟩ | refine ⟨(by show (0 : Int) < _; decide), ?_⟩ | refine ⟨⟨by decide, by decide⟩, ?_⟩ | refine ⟨.inr ⟨by decide, by decide⟩, ?_⟩ | refine ⟨.inl ⟨by decide, by decide⟩, ?_⟩ | refine ⟨⟨by decide, by decide, by decide⟩, ?_⟩ | refine ⟨_, _, rfl, rfl, ?_⟩ | refine ⟨rfl, _, rfl, ?_⟩)
      first | refine iteVI (fun e => ?_) (fun e => ?_) | refine iteVN (fun e => ?_) (fun e => ?_) | refine iteD (fun e => ?_) (fun e => ?_) | refine iteDN (fun e => ?_) (fun e => ?_) | refine iteB (fun e => ?_) (fun e => ?_)
      · repeat (first | refine ⟨_, rfl, ?_⟩ | refine ⟨(by show (0 : Int) < _; decide), ?_⟩ | refine ⟨⟨by decide, by decide⟩, ?_⟩ | refine ⟨.inr ⟨by decide, by decide⟩, ?_⟩ | refine ⟨.inl ⟨by decide, by decide⟩, ?_⟩ | refine ⟨⟨by decide, by decide, by decide⟩, ?_⟩ | refine ⟨_, _, rfl, rfl, ?_⟩ | refine ⟨rfl, _, rfl, ?_⟩)
        have w1 : 0 ≤ c / 60 % 3 := Int.emod_nonneg _ (by decide)
        have w2 : c / 60 % 3 < 3 := Int.emod_lt_of_pos _ (by decide)
        exact ⟨(60 + c / 60 % 3).toNat, by omega, by rw [Int.toNat_of_nonneg (by omega)]; rfl, rfl⟩
      · exact ⟨n1, by omega, rfl, rfl⟩
    rintro σ' H ⟨n, hn, rfl, rfl⟩
    refine ⟨Nat.zero_le _, fun f hf => ?_⟩
    refine ⟨_, rfl, _, rfl, by omega, by omega, ?_⟩
    refine for_range (fun i σ H' => ∃ (ns : List Int) (y5 : Option V), σ = [some (.ref t), some (.int c), some (.int o), some (.int (n : Int)), some (.ref f), y5, none, none] ∧ Ex H H' ∧ H' f = some (.lst (ns.map V.int)) ∧ ns.length = i) ⟨[], _, rfl, Ex.nw hf, upd_same, rfl⟩ ?_ ?_
    · rintro i σ H' hi ⟨ns, y5, rfl, ex, ef, hnl⟩
      have m0 : 0 ≤ mixed o (0 + (i : Int) + 1) % (xs.length : Int) := Int.emod_nonneg _ (by omega)
      have m4 : mixed o (0 + (i : Int) + 1) % (xs.length : Int) < (xs.length : Int) := Int.emod_lt_of_pos _ (by omega)
      obtain ⟨j, hj⟩ : ∃ j : Nat, mixed o (0 + (i : Int) + 1) % (xs.length : Int) = (j : Int) := ⟨_, (Int.toNat_of_nonneg m0).symm⟩
      have hjl : j < ps.length := by omega
      obtain ⟨t2, hx0, h3⟩ := Prs.getL hp (List.getElem?_eq_getElem hjl)
      generalize ps[j] = p at h3
      have it : atI xs (mixed o (0 + (i : Int) + 1) % (xs.length : Int)) = some (.ref t2) := at_of hj hx0
      refine ⟨_, rfl, .inl ⟨rfl, _, .of ef⟩, _, rfl, _, rfl, _, rfl, _, _, rfl, rfl, _, _, rfl, ⟨by omega, by omega⟩, _, rfl, t, xs, rfl, .inl (ex.seq hS), _, _, rfl, rfl, by omega, t, xs, _, _, rfl, rfl, ex.seq hS, it, t2, _, 0, .int p.1, rfl, rfl, .of (ex _ _ h3), rfl, ?_⟩
      refine ⟨f, _, _, rfl, rfl, ef, len63' (by rw [List.length_map]; omega), ?_⟩
      refine ⟨ns ++ [p.1], _, rfl, Ex.mu ex hf, ?_, by rw [List.length_append, hnl]; rfl⟩
      rw [upd_same, List.map_append]
      rfl
    · rintro σ H1 ⟨ns, y5, rfl, ex, ef, hnl⟩
      have hnl2 : ns.length = n := by omega
      refine ⟨fun σ' H' => ∃ (l : Addr) (zs : List Int) (y5 y6 y7 : Option V), σ' = [some (.ref t), some (.int c), some (.int o), some (.int (n : Int)), some (.ref l), y5, y6, y7] ∧ Ex H H' ∧ H l = none ∧ H' l = some (.lst (zs.map V.int)) ∧ zs.length ≤ 100, ?_, ?_⟩
      · repeat (first | refine ⟨_, rfl, ?_⟩ | refine ⟨(by show (0 : Int) < _; decide), ?_⟩ | refine ⟨⟨by decide, by decide⟩, ?_⟩ | refine ⟨.inr ⟨by decide, by decide⟩, ?_⟩ | refine ⟨.inl ⟨by decide, by decide⟩, ?_⟩ | refine ⟨⟨by decide, by decide, by decide⟩, ?_⟩ | refine ⟨_, _, rfl, rfl, ?_⟩ | refine ⟨rfl, _, rfl, ?_⟩)
        first | refine iteVI (fun e => ?_) (fun e => ?_) | refine iteVN (fun e => ?_) (fun e => ?_) | refine iteD (fun e => ?_) (fun e => ?_) | refine iteDN (fun e => ?_) (fun e => ?_) | refine iteB (fun e => ?_) (fun e => ?_)
        · have b0 : 0 ≤ c / 60 % ((n : Int) + 1) := Int.emod_nonneg _ (by omega)
          have b1 : c / 60 % ((n : Int) + 1) < (n : Int) + 1 := Int.emod_lt_of_pos _ (by omega)
          obtain ⟨k, hk⟩ : ∃ k : Nat, c / 60 % ((n : Int) + 1) = (k : Int) := ⟨_, (Int.toNat_of_nonneg b0).symm⟩
          refine ⟨_, rfl, _, _, rfl, rfl, ⟨by decide, by decide⟩, _, rfl, _, _, rfl, rfl, _, _, rfl, rfl, by omega, ?_⟩
          have d1 : 0 ≤ o % 5 := Int.emod_nonneg _ (by decide)
          have d2 : o % 5 < 5 := Int.emod_lt_of_pos _ (by decide)
          repeat (first | refine ⟨_, rfl, ?_⟩ | refine ⟨(by show (0 : Int) < _; decide), ?_⟩ | refine ⟨⟨by decide, by decide⟩, ?_⟩ | refine ⟨.inr ⟨by decide, by decide⟩, ?_⟩ | refine ⟨.inl ⟨by decide, by decide⟩, ?_⟩ | refine ⟨⟨by decide, by decide, by decide⟩, ?_⟩ | refine ⟨_, _, rfl, rfl, ?_⟩ | refine ⟨rfl, _, rfl, ?_⟩)
          refine ⟨len63 (by show 5 ≤ _; decide), fun m hm => ?_⟩
          (generalize hh : upd H1 m _ = H2; have e2 : Ex H1 H2 := (by rw [← hh]; exact Ex.nw hm); have cm := (show H2 m = some _ by rw [← hh]; exact upd_same); clear hh)
          repeat (first | refine ⟨_, rfl, ?_⟩ | refine ⟨(by show (0 : Int) < _; decide), ?_⟩ | refine ⟨⟨by decide, by decide⟩, ?_⟩ | refine ⟨.inr ⟨by decide, by decide⟩, ?_⟩ | refine ⟨.inl ⟨by decide, by decide⟩, ?_⟩ | refine ⟨⟨by decide, by decide, by decide⟩, ?_⟩ | refine ⟨_, _, rfl, rfl, ?_⟩ | refine ⟨rfl, _, rfl, ?_⟩)
          refine ⟨m, [0, 1001, -1 - o % 10 ^ (6 : Int).toNat, 7 + o % 1000, 10 ^ (9 : Int).toNat].map V.int, _, _, rfl, rfl, .of cm, menu_at rfl d1 d2, ?_⟩
          generalize List.getD _ _ _ = v0
          have ef2 := e2 _ _ ef
          refine ⟨_, rfl, _, rfl, _, rfl, f, _, rfl, .of ef2, fun l1 hl1 => ?_⟩
          rw [hk, cut_take _ k (by rw [List.length_map]; omega)]
          (generalize hh : upd H2 l1 _ = H3; have e3 : Ex H2 H3 := (by rw [← hh]; exact Ex.nw hl1); have c3 := (show H3 l1 = some _ by rw [← hh]; exact upd_same); clear hh)
          refine ⟨_, rfl, len63 (by show 1 ≤ _; decide), fun l2 hl2 => ?_⟩
          (generalize hh : upd H3 l2 _ = H4; have e4 : Ex H3 H4 := (by rw [← hh]; exact Ex.nw hl2); have c4 := (show H4 l2 = some _ by rw [← hh]; exact upd_same); clear hh)
          refine ⟨l1, l2, _, _, rfl, rfl, e4 _ _ c3, c4, len63 (by rw [List.length_take, List.length_map]; show _ + 1 ≤ _; omega), fun l3 hl3 => ?_⟩
          (generalize hh : upd H4 l3 _ = H5; have e5 : Ex H4 H5 := (by rw [← hh]; exact Ex.nw hl3); have c5 := (show H5 l3 = some _ by rw [← hh]; exact upd_same); clear hh)
          refine ⟨_, rfl, _, rfl, _, rfl, f, _, rfl, .of (e5 _ _ (e4 _ _ (e3 _ _ ef2))), fun l4 hl4 => ?_⟩
          rw [hk, cut_drop _ k (by rw [List.length_map]; omega)]
          (generalize hh : upd H5 l4 _ = H6; have e6 : Ex H5 H6 := (by rw [← hh]; exact Ex.nw hl4); have c6 := (show H6 l4 = some _ by rw [← hh]; exact upd_same); clear hh)
          refine ⟨l3, l4, _, _, rfl, rfl, e6 _ _ c5, c6, len63 (by rw [List.length_append, List.length_take, List.length_drop, List.length_map]; show _ + 1 + _ ≤ _; omega), fun l5 hl5 => ?_⟩
          have e16 := (((e2.tr e3).tr e4).tr e5).tr e6
          refine ⟨l5, ns.take k ++ [v0] ++ ns.drop k, y5, some (.int (c / 60 % ((n : Int) + 1))), some (.int v0), rfl, (ex.tr e16).tr (Ex.nw hl5), none_back (ex.tr e16) hl5, ?_, ?_⟩
          · rw [upd_same, List.map_append, List.map_append, List.map_take, List.map_drop]
            rfl
          · rw [List.length_append, List.length_append, List.length_take, List.length_drop]
            show _ + 1 + _ ≤ _
            omega
        · exact ⟨f, ns, _, _, _, rfl, ex, hf, ef, by omega⟩
      · rintro σ' H2 ⟨l, zs, y5, y6, y7, rfl, ex2, hl2, el, hzl⟩
        exact ⟨_, rfl, q l zs _ ex2 hl2 el hzl⟩
/-! ### all that lies there, the paid ones too -/
def spFull (K : PySem.W.Frag) : Sp := fun vs H Q _ => ∃ (t u : Addr) (ps : List (Int × Int)) (vals : List Int), vs = [.ref t, .ref u] ∧ Till K H t ps ∧ SqL K H u (vals.map V.int) ∧ ps.length ≤ 1000 ∧ spNewT H (fullP ps vals) Q
theorem ok_full (T : Tx K mg) : FnOk P w K mg base CX0 1 T.a__law_full T.d__law_full P__law_full (spFull K) := by
  refine T.f__law_full.ok sc__law_full (fun vs H Q E h => ?_) (fun cdv A outer s H vs Q E hr h => ?_)
  · obtain ⟨t, u, ps, vals, rfl, _⟩ := h
    rfl
  · obtain ⟨t, u, ps, vals, rfl, ⟨xs, hS, hp⟩, hSu, hl, q⟩ := h
    refine ⟨_, (pss_cons (ps_set (i := 2) sc__law_full.nd rfl (.inl rfl) (pe_lst pa_nil))
    (pss_cons (ps_for PassesOwn.never rfl (pi_list (pv 0)) (pg_name (i := 3) sc__law_full.nd rfl (.inl rfl))
      (pss_one (ps_expr (pe_bm PySem.F.plainAttrs_list PySem.F.slot_list_append PySem.F.type_list_append mt_append (pv 2) (pa_cons (pe_tup (pa_cons (pe_ix ix_tup (pv 3) pe_int (fun _ _ => rfl)) (pa_cons (pe_op op_add (pe_ix ix_tup (pv 3) pe_int (fun _ _ => rfl)) (pe_bm PySem.F.plainAttrs_list PySem.F.slot_list_count PySem.F.type_list_count mt_lcount (pv 1) (pa_cons (pe_ix ix_tup (pv 3) pe_int (fun _ _ => rfl)) pa_nil))) pa_nil))) pa_nil)))))
    (pss_one (ps_ret (pv 2))))), ?_⟩
    have hpl := hp.len
    refine ⟨Nat.zero_le _, fun f hf => ?_⟩
    refine ⟨_, rfl, t, rfl, ⟨xs, (Ex.nw hf).seq hS⟩, for_list (xs := xs) (fun i σ H' => ∃ (zs : List V) (y3 : Option V), σ = [some (.ref t), some (.ref u), some (.ref f), y3] ∧ Ex H H' ∧ H' f = some (.lst zs) ∧ zs.length = i ∧ Prs H' zs (fullP (ps.take i) vals)) ⟨[], _, rfl, Ex.nw hf, upd_same, rfl, .nil⟩ (fun i σ H' _ h => by
      obtain ⟨_, _, _, e, _⟩ := h
      exact e.seq hS) ?_ ?_⟩
    · rintro i x σ H' hx ⟨zs, y3, rfl, ex, ef, hzl, hzs⟩
      obtain ⟨p, t2, h1, rfl, h3⟩ := Prs.get hp hx
      have hi : i < ps.length := (List.getElem?_eq_some_iff.mp h1).1
      have h3' := ex _ _ h3
      refine ⟨_, rfl, .inl ⟨rfl, _, .of ef⟩, _, rfl, t2, _, 0, .int p.1, rfl, rfl, .of h3', rfl, _, rfl, t2, _, 1, .int p.2, rfl, rfl, .of h3', rfl, ?_⟩
      refine ⟨_, rfl, .inl ⟨rfl, _, ex.seq hSu⟩, _, rfl, t2, _, 0, .int p.1, rfl, rfl, .of h3', rfl, u, vals, p.1, rfl, rfl, ex.seq hSu, ?_⟩
      refine ⟨_, _, rfl, rfl, len63 (by show 2 ≤ _; decide), fun t3 ht3 => ?_⟩
      have nft : f ≠ t3 := ne_of_none ef ht3
      have ef' : (upd H' t3 (.tup [.int p.1, .int (p.2 + (vals.count p.1 : Int))])) f = some (.lst zs) := by rw [upd_ne nft]; exact ef
      refine ⟨f, zs, _, rfl, rfl, ef', len63' (by omega), ?_⟩
      refine ⟨zs ++ [.ref t3], _, rfl, Ex.mu (ex.tr (Ex.nw ht3)) hf, upd_same, by rw [List.length_append, hzl]; rfl, ?_⟩
      rw [take_snoc h1]
      unfold fullP
      rw [List.map_append]
      refine Prs.up (by intro bs y; rw [ef'] at y; cases y) ?_
      exact Prs.snoc (hzs.ex (Ex.nw ht3)) ⟨t3, rfl, upd_same⟩
    · rintro σ H1 ⟨zs, y3, rfl, ex, ef, hzl, hzs⟩
      rw [List.take_of_length_le (by omega)] at hzs
      exact ⟨_, rfl, q f zs _ ex hf ef hzs⟩
/-! ### what is due -/
def lastIn (ps : List (Int × Int)) (v : Int) (m : Int) : Int := ps.foldl (fun acc p => if p.1 = v then p.2 + m else acc) (-1)
theorem lastIn_snoc (ps : List (Int × Int)) (p : Int × Int) (v m : Int) : lastIn (ps ++ [p]) v m = if p.1 = v then p.2 + m else lastIn ps v m := by
  unfold lastIn
  rw [List.foldl_append]
  rfl
theorem lastIn_no {v m : Int} : ∀ {ps : List (Int × Int)} (z : Int), (∀ p ∈ ps, p.1 ≠ v) → ps.foldl (fun acc (p : Int × Int) => if p.1 = v then p.2 + m else acc) z = z
  | [], _, _ => rfl
  | p :: ps, z, h => by
    rw [List.foldl_cons, if_neg (h p List.mem_cons_self)]
    exact lastIn_no z fun q hq => h q (List.mem_cons_of_mem _ hq)
theorem lastIn_some {v m t : Int} : ∀ {ps : List (Int × Int)} (z : Int), (ps.map (·.1)).Nodup → countIn ps v = some t → ps.foldl (fun acc (p : Int × Int) => if p.1 = v then p.2 + m else acc) z = t + m
  | [], _, _, h => by cases h
  | p :: ps, z, nd, h => by
    rw [List.map_cons, List.nodup_cons] at nd
    rw [countIn_cons] at h
    rw [List.foldl_cons]
    by_cases e : p.1 = v
    · rw [if_pos e] at h
      rw [if_pos e, lastIn_no _ fun q hq y => nd.1 (by rw [e, ← y]; exact List.mem_map.mpr ⟨q, hq, rfl⟩), Option.some.inj h]
    · rw [if_neg e] at h
      rw [if_neg e]
      exact lastIn_some z nd.2 h
def spDueP (K : PySem.W.Frag) : Sp := fun vs H Q _ => ∃ (t u : Addr) (ps : List (Int × Int)) (c : Int) (vals : List Int), vs = [.ref t, .int c, .ref u] ∧ Till K H t ps ∧ Tl ps ∧ SqL K H u (vals.map V.int) ∧ Ret (.str (dueP ps c vals)) H Q
theorem ok_dueP (T : Tx K mg) : FnOk P w K mg base CX0 1 T.a__law_due T.d__law_due P__law_due (spDueP K) := by
  refine T.f__law_due.ok sc__law_due (fun vs H Q E h => ?_) (fun cdv A outer s H vs Q E hr h => ?_)
  · obtain ⟨t, u, ps, c, vals, rfl, _⟩ := h
    rfl
  · obtain ⟨t, u, ps, c, vals, rfl, ⟨xs, hS, hp⟩, hT, hSu, q⟩ := h
    refine ⟨_, (pss_cons (ps_if (PW.pt (pw_or (pt_cmpR op_lt (pv 1) pe_int (nomark _)) (pw_or1 (pt_cmpR op_gt (pv 1) pe_int (nomark _)))))
      (pss_one (ps_ret pe_str))
      pss_nil)
    (pss_cons (ps_if (pt_cmpR op_gt (pe_callB call_len_seq (by rfl) T.m_len (by decide +kernel) (pa_cons (pv 2) pa_nil)) pe_int (nomark _))
      (pss_one (ps_ret pe_str))
      pss_nil)
    (pss_cons (ps_for PassesOwn.never rfl (pi_range1 (by rfl) T.m_range (pa_cons (pe_callB call_len_seq (by rfl) T.m_len (by decide +kernel) (pa_cons (pv 2) pa_nil)) pa_nil)) (pg_name (i := 3) sc__law_due.nd rfl (.inl rfl))
      (pss_cons (ps_set (i := 4) sc__law_due.nd rfl (.inl rfl) (pe_un un_neg pe_int))
      (pss_cons (ps_for PassesOwn.never rfl (pi_list (pv 0)) (pg_name (i := 5) sc__law_due.nd rfl (.inl rfl))
        (pss_one (ps_if (pt_cmpR op_eq (pe_ix ix_tup (pv 5) pe_int (fun _ _ => rfl)) (pe_ix ix_list (pv 2) (pv 3) (fun _ _ => rfl)) (nomark _))
          (pss_one (ps_set (i := 4) sc__law_due.nd rfl (.inl rfl) (pe_op op_add (pe_ix ix_tup (pv 5) pe_int (fun _ _ => rfl)) (pe_bm PySem.F.plainAttrs_list PySem.F.slot_list_count PySem.F.type_list_count mt_lcount (pe_slice sl_list (pv 2) po_none (po_some (pv 3))) (pa_cons (pe_ix ix_tup (pv 5) pe_int (fun _ _ => rfl)) pa_nil)))))
          pss_nil)))
      (pss_cons (ps_if (pt_cmpR op_lt (pv 4) pe_int (nomark _))
        (pss_one (ps_ret pe_str))
        pss_nil)
      (pss_one (ps_if (pt_cmpR op_eq (pv 4) (pe_op op_pow pe_int pe_int) (nomark _))
        (pss_one (ps_ret pe_str))
        pss_nil))))))
    (pss_cons (ps_if (pt_cmpR op_lt (pe_callB (cr_sum rfl) (by rfl) T.m_sum (by decide +kernel) (pa_cons (pv 2) pa_nil)) (pv 1) (nomark _))
      (pss_one (ps_ret pe_str))
      pss_nil)
    (pss_cons (ps_if (pt_cmpR op_gt (pe_op op_sub (pe_callB (cr_sum rfl) (by rfl) T.m_sum (by decide +kernel) (pa_cons (pv 2) pa_nil)) (pv 1)) pe_int (nomark _))
      (pss_one (ps_ret pe_str))
      pss_nil)
    (pss_one (ps_ret pe_str))))))), ?_⟩
    have hpl := hp.len
    by_cases hc : 0 ≤ c ∧ c ≤ 1000
    case neg =>
      have hd : dueP ps c vals = "sum" := by
        unfold dueP
        rw [if_neg hc]
      rw [hd] at q
      refine ifs_true (fun Q hq => ?_) ?_
      · repeat (first | refine ⟨_, rfl, ?_⟩ | refine ⟨(by show (0 : Int) < _; decide), ?_⟩ | refine ⟨⟨by decide, by decide⟩, ?_⟩ | refine ⟨.inr ⟨by decide, by decide⟩, ?_⟩ | refine ⟨.inl ⟨by decide, by decide⟩, ?_⟩ | refine ⟨⟨by decide, by decide, by decide⟩, ?_⟩ | refine ⟨_, _, rfl, rfl, ?_⟩ | refine ⟨rfl, _, rfl, ?_⟩)
        first | refine iteVI (fun e => ?_) (fun e => ?_) | refine iteVN (fun e => ?_) (fun e => ?_) | refine iteD (fun e => ?_) (fun e => ?_) | refine iteDN (fun e => ?_) (fun e => ?_) | refine iteB (fun e => ?_) (fun e => ?_)
        · exact hq
        · have e' : ¬ c < 0 := e
          refine ⟨_, rfl, _, _, rfl, rfl, _, rfl, ?_⟩
          rw [decide_eq_true (show c > 1000 by omega)]
          exact hq
      exact q _ Ex.rfl'
    refine ifs_false (fun Q hq => ?_) ?_
    · repeat (first | refine ⟨_, rfl, ?_⟩ | refine ⟨(by show (0 : Int) < _; decide), ?_⟩ | refine ⟨⟨by decide, by decide⟩, ?_⟩ | refine ⟨.inr ⟨by decide, by decide⟩, ?_⟩ | refine ⟨.inl ⟨by decide, by decide⟩, ?_⟩ | refine ⟨⟨by decide, by decide, by decide⟩, ?_⟩ | refine ⟨_, _, rfl, rfl, ?_⟩ | refine ⟨rfl, _, rfl, ?_⟩)
      first | refine iteVI (fun e => ?_) (fun e => ?_) | refine iteVN (fun e => ?_) (fun e => ?_) | refine iteD (fun e => ?_) (fun e => ?_) | refine iteDN (fun e => ?_) (fun e => ?_) | refine iteB (fun e => ?_) (fun e => ?_)
      · have e' : c < 0 := e
        omega
      · refine ⟨_, rfl, _, _, rfl, rfl, _, rfl, ?_⟩
        rw [decide_eq_false (show ¬ c > 1000 by omega)]
        exact hq
    refine ⟨_, rfl, u, _, rfl, .inl hSu, _, _, rfl, rfl, _, rfl, iteD (fun e => ?_) (fun e => ?_)⟩
    · have e' : ((vals.map V.int).length : Int) > 60 := e
      rw [List.length_map] at e'
      have hd : dueP ps c vals = "count" := by
        unfold dueP
        rw [if_pos hc, if_pos (by omega)]
      rw [hd] at q
      exact q _ Ex.rfl'
    have e' : ¬ ((vals.map V.int).length : Int) > 60 := e
    rw [List.length_map] at e'
    have hl : ¬ 60 < vals.length := by omega
    have hvl : ((vals.map V.int).length : Int) = vals.length := by rw [List.length_map]
    refine ⟨_, rfl, u, _, rfl, .inl hSu, _, rfl, by omega, by omega, ?_⟩
    refine for_range (fun i σ H' => ∃ y3 y4 y5, σ = [some (.ref t), some (.int c), some (.ref u), y3, y4, y5] ∧ Ex H H' ∧ Tl (fullP ps (vals.take i)) ∧ walkDue ps (vals.take i) (vals.drop i) = walkDue ps [] vals) ⟨_, _, _, rfl, Ex.rfl', by rw [List.take_zero, fullP_nil]; exact hT, rfl⟩ ?_ ?_
    · rintro i σ H' hi ⟨y3, y4, y5, rfl, ex, hTf, hw⟩
      have hi' : i < vals.length := by omega
      have hv := List.getElem?_eq_getElem hi'
      generalize vals[i] = v at hv
      have hd : vals.drop i = v :: vals.drop (i + 1) := drop_at hv
      rw [hd, walkDue_cons] at hw
      have iv : atI (vals.map V.int) (0 + (i : Int)) = some (.int v) := at_of (Int.zero_add _) (by rw [List.getElem?_map, hv]; rfl)
      refine ⟨_, rfl, ?_⟩
      refine ⟨_, rfl, t, rfl, ⟨xs, ex.seq hS⟩, for_list (xs := xs) (fun k σ H2 => ∃ y5, σ = [some (.ref t), some (.int c), some (.ref u), some (.int (0 + (i : Int))), some (.int (lastIn (ps.take k) v ((vals.take i).count v : Int))), y5] ∧ Ex H H2) ⟨_, rfl, ex⟩ (fun k σ H2 _ h => by
        obtain ⟨_, _, e⟩ := h
        exact e.seq hS) ?_ ?_⟩
      · rintro k x σ H2 hx ⟨y5, rfl, ex2⟩
        obtain ⟨p, t2, h1, rfl, h3⟩ := Prs.get hp hx
        have h3' := ex2 _ _ h3
        refine ⟨_, rfl, t2, _, 0, .int p.1, rfl, rfl, .of h3', rfl, _, rfl, _, rfl, u, _, _, _, rfl, rfl, ex2.seq hSu, iv, rfl, _, rfl, iteVI (fun e2 => ?_) (fun e2 => ?_)⟩
        · refine ⟨_, rfl, t2, _, 1, .int p.2, rfl, rfl, .of h3', rfl, _, rfl, _, rfl, _, rfl, u, _, rfl, ex2.seq hSu, fun l hl2 => ?_⟩
          rw [Int.zero_add, cut_take _ i (by rw [List.length_map]; omega), ← List.map_take]
          (generalize hh : upd H2 l _ = H3; have e3 : Ex H2 H3 := (by rw [← hh]; exact Ex.nw hl2); have c3 := (show H3 l = some _ by rw [← hh]; exact upd_same); clear hh)
          refine ⟨.inl ⟨rfl, _, .of c3⟩, _, rfl, t2, _, 0, .int p.1, rfl, rfl, .of (e3 _ _ h3'), rfl, l, vals.take i, p.1, rfl, rfl, .of c3, ?_⟩
          refine ⟨_, _, rfl, rfl, some (.ref t2), ?_, ex2.tr e3⟩
          rw [take_snoc h1, lastIn_snoc, if_pos e2, e2]
          rfl
        · refine ⟨some (.ref t2), ?_, ex2⟩
          rw [take_snoc h1, lastIn_snoc, if_neg e2]
          rfl
      · rintro σ H2 ⟨y5, rfl, ex2⟩
        rw [show ps.take xs.length = ps from List.take_of_length_le (by omega)]
        have hcf := countIn_full ps (vals.take i) v
        cases ht : countIn ps v with
        | none =>
          have hln : lastIn ps v ((vals.take i).count v : Int) = -1 := by
            unfold lastIn
            refine lastIn_no _ fun p hp z => ?_
            have h := countIn_nd hT.nd hp
            rw [z, ht] at h
            cases h
          rw [hln]
          have hpd : pieceDue ps (vals.take i) v = "kind" := by
            unfold pieceDue
            rw [hcf, ht]
            rfl
          rw [hpd, if_neg (by decide)] at hw
          rw [dueP_walk hc hl hw.symm (by decide)] at q
          exact ⟨_, rfl, _, _, rfl, rfl, _, rfl, iteD (fun _ => q _ ex2) (fun z => absurd (by show (-1 : Int) < 0; decide) z)⟩
        | some tt =>
          have hln : lastIn ps v ((vals.take i).count v : Int) = tt + ((vals.take i).count v : Int) := by
            unfold lastIn
            exact lastIn_some _ hT.nd ht
          rw [hln]
          have hb := hT.there_nn ht
          refine ⟨_, rfl, _, _, rfl, rfl, _, rfl, iteD (fun z => ?_) (fun _ => ?_)⟩
          · have z' : tt + ((vals.take i).count v : Int) < 0 := z
            omega
          have hpd : pieceDue ps (vals.take i) v = if tt + ((vals.take i).count v : Int) = 1000000000 then ("count" : Str) else "" := by
            unfold pieceDue
            rw [hcf, ht]
            rfl
          repeat (first | refine ⟨_, rfl, ?_⟩ | refine ⟨(by show (0 : Int) < _; decide), ?_⟩ | refine ⟨⟨by decide, by decide⟩, ?_⟩ | refine ⟨.inr ⟨by decide, by decide⟩, ?_⟩ | refine ⟨.inl ⟨by decide, by decide⟩, ?_⟩ | refine ⟨⟨by decide, by decide, by decide⟩, ?_⟩ | refine ⟨_, _, rfl, rfl, ?_⟩ | refine ⟨rfl, _, rfl, ?_⟩)
          first | refine iteVI (fun e3 => ?_) (fun e3 => ?_) | refine iteVN (fun e3 => ?_) (fun e3 => ?_) | refine iteD (fun e3 => ?_) (fun e3 => ?_) | refine iteDN (fun e3 => ?_) (fun e3 => ?_) | refine iteB (fun e3 => ?_) (fun e3 => ?_)
          · have e3' : tt + ((vals.take i).count v : Int) = 1000000000 := e3
            rw [if_pos e3'] at hpd
            rw [hpd, if_neg (by decide)] at hw
            rw [dueP_walk hc hl hw.symm (by decide)] at q
            exact q _ ex2
          · have e3' : ¬ tt + ((vals.take i).count v : Int) = 1000000000 := e3
            rw [if_neg e3'] at hpd
            rw [hpd, if_pos rfl] at hw
            have htl := pieceDue_tl hTf hpd
            rw [← take_snoc hv] at htl hw
            exact ⟨_, _, _, rfl, ex2, htl, hw⟩
    · rintro σ H1 ⟨y3, y4, y5, rfl, ex, hTf, hw⟩
      rw [show ((vals.map V.int).length : Int).toNat = vals.length by omega, List.drop_length] at hw
      have hde := dueP_end hc hl hw.symm
      rw [hde] at q
      refine ⟨_, rfl, u, vals, rfl, ex.seq hSu, _, rfl, _, _, rfl, rfl, _, rfl, iteD (fun e2 => ?_) (fun e2 => ?_)⟩
      · have e3 : vals.sum < c := e2
        rw [if_pos e3] at q
        exact q _ ex
      have e3 : ¬ vals.sum < c := e2
      rw [if_neg e3] at q
      refine ⟨_, rfl, u, vals, rfl, ex.seq hSu, _, rfl, _, _, rfl, rfl, _, _, rfl, rfl, _, rfl, iteD (fun e4 => ?_) (fun e4 => ?_)⟩
      · have e5 : vals.sum - c > 1000 := e4
        rw [if_pos e5] at q
        exact q _ ex
      have e5 : ¬ vals.sum - c > 1000 := e4
      rw [if_neg e5] at q
      exact q _ ex
/-! ### tried, refused -/
def outP (ps : List (Int × Int)) (c : Int) (vals : List Int) : Str := if dueP ps c vals = "" then (if cellP ps c vals = none then "change" else "") else dueP ps c vals
def TriedF (ps : List (Int × Int)) (c : Int) (vals : List Int) (H H2 : Hp) (l : Addr) (v : V) : Prop := outP ps c vals = "" → ∃ (p b g : Addr) (xs ys : List V), v = .ref p ∧ H l = none ∧ H p = none ∧ H b = none ∧ H g = none ∧ l ≠ b ∧ l ≠ g ∧ b ≠ g ∧ p ≠ b ∧ p ≠ g ∧ H2 p = some (.tup [.ref b, .ref g]) ∧ H2 b = some (.lst xs) ∧ H2 g = some (.lst ys) ∧ Prs H2 xs (behP ps c vals) ∧ Prs H2 ys (gsP ps c vals)
def spTried8 (K : PySem.W.Frag) : Sp := fun vs H Q _ => ∃ (t u : Addr) (xs : List V) (ps : List (Int × Int)) (c : Int) (vals : List Int), vs = [.ref t, .int c, .ref u] ∧ H t = some (.lst xs) ∧ Prs H xs ps ∧ Tl ps ∧ SqL K H u (vals.map V.int) ∧
  ∀ l v H2, Ex H H2 → H2 l = some (.lst [.str (outP ps c vals), v]) → TriedF ps c vals H H2 l v → Q (.ref l) H2
theorem ok_tried8 (T : Tx K mg) : FnOk P w K mg base CX0 6 T.a__law_tried T.d__law_tried P__law_tried (spTried8 K) := by
  have G_paid := ok_paid (P := P) (w := w) (base := base) T
  refine T.f__law_tried.ok sc__law_tried (fun vs H Q E h => ?_) (fun cdv A outer s H vs Q E hr h => ?_)
  · obtain ⟨t, u, xs, ps, c, vals, rfl, _⟩ := h
    rfl
  · obtain ⟨t, u, xs, ps, c, vals, rfl, ht, hp, hT, hSu, q1⟩ := h
    refine ⟨_, (pss_one (ps_try_many rfl rfl takes0
      (fun W pn xe tk hp => (pss_one (ps_ret (pe_lst (pa_cons pe_str (pa_cons (pe_callS G_paid (hr.mono (by decide)) rfl T.g_paid T.f_paid.kp T.p_paid (fun σ => passAt tk σ) (pa_cons (pv 0) (pa_cons (pv 1) (pa_cons (pv 2) pa_nil)))) pa_nil))))))
      (.cons ⟨by rfl, by decide, .inl T.g_NoSum⟩ (fun a oe cls d pn hz hf => (pss_one (ps_ret (pe_lst (pa_cons pe_str (pa_cons (pe_tup pa_nil) pa_nil))))))
      (.cons ⟨by rfl, by decide, .inl T.g_NoCount⟩ (fun a oe cls d pn hz hf => (pss_one (ps_ret (pe_lst (pa_cons pe_str (pa_cons (pe_tup pa_nil) pa_nil))))))
      (.cons ⟨by rfl, by decide, .inl T.g_NoKind⟩ (fun a oe cls d pn hz hf => (pss_one (ps_ret (pe_lst (pa_cons pe_str (pa_cons (pe_tup pa_nil) pa_nil))))))
      (.cons ⟨by rfl, by decide, .inl T.g_TooLittle⟩ (fun a oe cls d pn hz hf => (pss_one (ps_ret (pe_lst (pa_cons pe_str (pa_cons (pe_tup pa_nil) pa_nil))))))
      (.cons ⟨by rfl, by decide, .inl T.g_NoChange⟩ (fun a oe cls d pn hz hf => (pss_one (ps_ret (pe_lst (pa_cons pe_str (pa_cons (pe_tup pa_nil) pa_nil))))))
      .nil))))))), ?_⟩
    have sx : ∀ (z : Str) (H2 : Hp), outP ps c vals ≠ "" → outP ps c vals = z → Ex H H2 → ∀ e, H2 e = none → ∀ l, (upd H2 e (.tup [])) l = none → Q (.ref l) (upd (upd H2 e (.tup [])) l (.lst [.str z, .ref e])) := by
      intro z H2 hne hz ex e he l hl'
      refine q1 l (.ref e) _ ((ex.tr (Ex.nw he)).tr (Ex.nw hl')) ?_ fun h => absurd h hne
      rw [upd_same, hz]
    have od : ∀ z : Str, dueP ps c vals = z → z ≠ "" → outP ps c vals = z := fun z h hz => by
      unfold outP
      rw [if_neg (by rw [h]; exact hz), h]
    refine ⟨_, rfl, _, rfl, _, rfl, t, u, xs, ps, c, vals, rfl, ht, hp, hT, hSu, fun hd H2 ex => ?_, fun hd H2 ex => ?_, fun hd H2 ex => ?_, fun hd H2 ex => ?_, fun hd hc H2 ex => ?_, fun hd hc => ?_⟩
    · have ho := od _ hd (by decide)
      refine ⟨true, exm_mk T.b_NoSum T.i_NoSum T.t_NoSum T.u_NoSum_NoSum, (fun _ x hx => ?_), fun z => nomatch z⟩
      exact ⟨Nat.zero_le _, fun e he => ⟨len63 (by show 2 ≤ _; decide), fun l hl => sx _ H2 (by rw [ho]; decide) ho ex e he l hl⟩⟩
    · have ho := od _ hd (by decide)
      refine ⟨false, exm_mk T.b_NoSum T.i_NoSum T.t_NoSum T.u_NoCount_NoSum, (fun z => nomatch z), fun _ => ?_⟩
      refine ⟨true, exm_mk T.b_NoCount T.i_NoCount T.t_NoCount T.u_NoCount_NoCount, (fun _ x hx => ?_), fun z => nomatch z⟩
      exact ⟨Nat.zero_le _, fun e he => ⟨len63 (by show 2 ≤ _; decide), fun l hl => sx _ H2 (by rw [ho]; decide) ho ex e he l hl⟩⟩
    · have ho := od _ hd (by decide)
      refine ⟨false, exm_mk T.b_NoSum T.i_NoSum T.t_NoSum T.u_NoKind_NoSum, (fun z => nomatch z), fun _ => ?_⟩
      refine ⟨false, exm_mk T.b_NoCount T.i_NoCount T.t_NoCount T.u_NoKind_NoCount, (fun z => nomatch z), fun _ => ?_⟩
      refine ⟨true, exm_mk T.b_NoKind T.i_NoKind T.t_NoKind T.u_NoKind_NoKind, (fun _ x hx => ?_), fun z => nomatch z⟩
      exact ⟨Nat.zero_le _, fun e he => ⟨len63 (by show 2 ≤ _; decide), fun l hl => sx _ H2 (by rw [ho]; decide) ho ex e he l hl⟩⟩
    · have ho := od _ hd (by decide)
      refine ⟨false, exm_mk T.b_NoSum T.i_NoSum T.t_NoSum T.u_TooLittle_NoSum, (fun z => nomatch z), fun _ => ?_⟩
      refine ⟨false, exm_mk T.b_NoCount T.i_NoCount T.t_NoCount T.u_TooLittle_NoCount, (fun z => nomatch z), fun _ => ?_⟩
      refine ⟨false, exm_mk T.b_NoKind T.i_NoKind T.t_NoKind T.u_TooLittle_NoKind, (fun z => nomatch z), fun _ => ?_⟩
      refine ⟨true, exm_mk T.b_TooLittle T.i_TooLittle T.t_TooLittle T.u_TooLittle_TooLittle, (fun _ x hx => ?_), fun z => nomatch z⟩
      exact ⟨Nat.zero_le _, fun e he => ⟨len63 (by show 2 ≤ _; decide), fun l hl => sx _ H2 (by rw [ho]; decide) ho ex e he l hl⟩⟩
    · have ho : outP ps c vals = "change" := by
        unfold outP
        rw [if_pos hd, if_pos hc]
      refine ⟨false, exm_mk T.b_NoSum T.i_NoSum T.t_NoSum T.u_NoChange_NoSum, (fun z => nomatch z), fun _ => ?_⟩
      refine ⟨false, exm_mk T.b_NoCount T.i_NoCount T.t_NoCount T.u_NoChange_NoCount, (fun z => nomatch z), fun _ => ?_⟩
      refine ⟨false, exm_mk T.b_NoKind T.i_NoKind T.t_NoKind T.u_NoChange_NoKind, (fun z => nomatch z), fun _ => ?_⟩
      refine ⟨false, exm_mk T.b_TooLittle T.i_TooLittle T.t_TooLittle T.u_NoChange_TooLittle, (fun z => nomatch z), fun _ => ?_⟩
      refine ⟨true, exm_mk T.b_NoChange T.i_NoChange T.t_NoChange T.u_NoChange_NoChange, (fun _ x hx => ?_), fun z => nomatch z⟩
      exact ⟨Nat.zero_le _, fun e he => ⟨len63 (by show 2 ≤ _; decide), fun l hl => sx _ H2 (by rw [ho]; decide) ho ex e he l hl⟩⟩
    · have ho : outP ps c vals = "" := by
        unfold outP
        rw [if_pos hd, if_neg hc]
      intro p b g ys zs H2 ex hp2 hb hg npb npg nbg ep eb eg hys hzs
      refine ⟨len63 (by show 2 ≤ _; decide), fun l hl => ?_⟩
      have n1 := Ex.nw (o := .lst [.str "", .ref p]) hl
      exact q1 l (.ref p) _ (ex.tr n1) (by rw [upd_same, ho]) fun _ => ⟨p, b, g, ys, zs, rfl, none_back ex hl, hp2, hb, hg, (ne_of_none eb hl).symm, (ne_of_none eg hl).symm, nbg, npb, npg, n1 _ _ ep, n1 _ _ eb, n1 _ _ eg, hys.ex n1, hzs.ex n1⟩
theorem ne_sub {K : PySem.W.Frag} {C D : Addr} (h1 : PySem.W.subIn K (.ref C) (.ref D) = some false) (h2 : PySem.W.subIn K (.ref C) (.ref C) = some true) : C ≠ D := by
  intro e
  rw [← e, h2] at h1
  cases h1
def spAny8 (K : PySem.W.Frag) : Sp := fun vs H Q _ => ∃ (t u : Addr) (xs : List V) (ps : List (Int × Int)) (c : Int) (vals : List Int), vs = [.ref t, .int c, .ref u] ∧ H t = some (.lst xs) ∧ Prs H xs ps ∧ Tl ps ∧ SqL K H u (vals.map V.int) ∧ Ret (.bl (!decide (outP ps c vals = ""))) H Q
theorem ok_any8 (T : Tx K mg) : FnOk P w K mg base CX0 6 T.a__law_any T.d__law_any P__law_any (spAny8 K) := by
  have G_paid := ok_paid (P := P) (w := w) (base := base) T
  refine T.f__law_any.ok sc__law_any (fun vs H Q E h => ?_) (fun cdv A outer s H vs Q E hr h => ?_)
  · obtain ⟨t, u, xs, ps, c, vals, rfl, _⟩ := h
    rfl
  · obtain ⟨t, u, xs, ps, c, vals, rfl, ht, hp, hT, hSu, q⟩ := h
    refine ⟨_, (pss_cons (ps_try_as (i := 3) rfl rfl sc__law_any.nd rfl rfl ⟨by rfl, by decide, .inl T.g_TillError⟩ takes0
      (fun W pn xe tk hp => (pss_one (ps_expr (pe_callS G_paid (hr.mono (by decide)) rfl T.g_paid T.f_paid.kp T.p_paid (fun σ => passAt tk σ) (pa_cons (pv 0) (pa_cons (pv 1) (pa_cons (pv 2) pa_nil)))))))
      (fun a oe cls d pn hz hf => (pss_cons (ps_set (i := 4) sc__law_any.nd rfl (.inl rfl) (pe_lst (pa_cons (pe_callB (call_isE1 hz hf) (by rfl) T.m_isinstance (by decide +kernel) (pa_cons (pv 3) (pa_cons (pe_glob (v := .ref T.c_NoSum) (by rfl) T.g_NoSum rfl) pa_nil))) (pa_cons (pe_callB (call_isE1 hz hf) (by rfl) T.m_isinstance (by decide +kernel) (pa_cons (pv 3) (pa_cons (pe_glob (v := .ref T.c_NoCount) (by rfl) T.g_NoCount rfl) pa_nil))) (pa_cons (pe_callB (call_isE1 hz hf) (by rfl) T.m_isinstance (by decide +kernel) (pa_cons (pv 3) (pa_cons (pe_glob (v := .ref T.c_NoKind) (by rfl) T.g_NoKind rfl) pa_nil))) (pa_cons (pe_callB (call_isE1 hz hf) (by rfl) T.m_isinstance (by decide +kernel) (pa_cons (pv 3) (pa_cons (pe_glob (v := .ref T.c_TooLittle) (by rfl) T.g_TooLittle rfl) pa_nil))) pa_nil))))))
      (pss_cons (ps_expr (pe_appendS mt_append (pv 4) (pa_cons (pe_callB (call_isE1 hz hf) (by rfl) T.m_isinstance (by decide +kernel) (pa_cons (pv 3) (pa_cons (pe_glob (v := .ref T.c_NoChange) (by rfl) T.g_NoChange rfl) pa_nil))) pa_nil)))
      (pss_cons (ps_if (pt_val (pe_callB (call_isET hz hf) (by rfl) T.m_isinstance (by decide +kernel) (pa_cons (pv 3) (pa_cons (pe_tup (pa_cons (pe_glob (v := .ref T.c_NoDeed) (by rfl) T.g_NoDeed rfl) (pa_cons (pe_glob (v := .ref T.c_NoTill) (by rfl) T.g_NoTill rfl) (pa_cons (pe_glob (v := .ref T.c_StillHeld) (by rfl) T.g_StillHeld rfl) (pa_cons (pe_glob (v := .ref T.c_TooFew) (by rfl) T.g_TooFew rfl) (pa_cons (pe_glob (v := .ref T.c_Twice) (by rfl) T.g_Twice rfl) pa_nil)))))) pa_nil))))
        (pss_one (ps_ret pe_bl))
        pss_nil)
      (pss_one (ps_ret (pe_and (pe_callB (call_isE1 hz hf) (by rfl) T.m_isinstance (by decide +kernel) (pa_cons (pv 3) (pa_cons (pe_bltn (v := .ty "ValueError") (by rfl) T.m_ValueError (by decide +kernel) rfl) pa_nil))) (pe_one (pe_cmpR op_eq (pe_countS (pv 4) (pa_cons pe_bl pa_nil)) pe_int (nomark _)))))))))))
    (pss_one (ps_ret pe_bl))), ?_⟩
    have od : ∀ z : Str, dueP ps c vals = z → z ≠ "" → outP ps c vals = z := fun z h hz => by
      unfold outP
      rw [if_neg (by rw [h]; exact hz), h]
    refine ⟨_, rfl, _, rfl, _, rfl, t, u, xs, ps, c, vals, rfl, ht, hp, hT, hSu, fun hd0 H2 ex => ?_, fun hd0 H2 ex => ?_, fun hd0 H2 ex => ?_, fun hd0 H2 ex => ?_, fun hd0 hc H2 ex => ?_, fun hd0 hc => ?_⟩
    · have hd := od _ hd0 (by decide)
      refine ⟨true, exm_mk T.b_TillError T.i_TillError T.t_TillError T.u_NoSum_TillError, (fun _ x hx => ?_), fun z => nomatch z⟩
      refine ⟨_, rfl, _, _, _, true, rfl, rfl, T.e_NoSum, rfl, (fun u r => r), kone_self, ⟨_, rfl, _, _, _, false, rfl, rfl, T.e_NoSum, rfl, (fun u r => r), kone_own (ne_sub T.u_NoSum_NoCount T.u_NoSum_NoSum) T.i_NoCount T.t_NoCount T.u_NoSum_NoCount, ⟨_, rfl, _, _, _, false, rfl, rfl, T.e_NoSum, rfl, (fun u r => r), kone_own (ne_sub T.u_NoSum_NoKind T.u_NoSum_NoSum) T.i_NoKind T.t_NoKind T.u_NoSum_NoKind, ⟨_, rfl, _, _, _, false, rfl, rfl, T.e_NoSum, rfl, (fun u r => r), kone_own (ne_sub T.u_NoSum_TooLittle T.u_NoSum_NoSum) T.i_TooLittle T.t_TooLittle T.u_NoSum_TooLittle, ?_⟩⟩⟩⟩
      refine ⟨len63 (by show 4 ≤ _; decide), fun l1 hl1 => ?_⟩
      (generalize hh : upd H2 l1 _ = H3; have e3 : Ex H2 H3 := (by rw [← hh]; exact Ex.nw hl1); have c3 := (show H3 l1 = some _ by rw [← hh]; exact upd_same); clear hh)
      refine ⟨_, rfl, .inl ⟨rfl, _, .of c3⟩, _, rfl, _, _, _, false, rfl, rfl, T.e_NoSum, rfl, (fun u r => r), kone_own (ne_sub T.u_NoSum_NoChange T.u_NoSum_NoSum) T.i_NoChange T.t_NoChange T.u_NoSum_NoChange, ?_⟩
      refine ⟨l1, _, _, rfl, rfl, c3, len63' (by show 4 < _; decide), ?_⟩
      have hl10 : H l1 = none := none_back ex hl1
      generalize hH4 : upd H3 l1 (.lst ([V.bl true, V.bl false, V.bl false, V.bl false] ++ [V.bl false])) = H4
      have c5 : H4 l1 = some (.lst ([true, false, false, false, false].map V.bl)) := by rw [← hH4]; exact upd_same
      have e4 : Ex H H4 := hH4 ▸ Ex.mu (ex.tr e3) hl10
      clear hH4
      refine ⟨_, rfl, len63 (by show 5 ≤ _; decide), fun p hp => ?_⟩
      (generalize hh : upd H4 p _ = H6; have e6 : Ex H4 H6 := (by rw [← hh]; exact Ex.nw hp); have c6 := (show H6 p = some _ by rw [← hh]; exact upd_same); clear hh)
      refine ⟨_, p, _, _, false, rfl, rfl, T.e_NoSum, rfl, c6, ?_, T.y_NoSum, false, rfl, iteF ?_⟩
      · repeat (first | exact .nil | refine .cons (.own _) ?_)
      refine ⟨_, rfl, _, _, _, true, rfl, rfl, T.e_NoSum, rfl, (fun u r => r), T.z_NoSum, true, rfl, iteT ?_⟩
      refine ⟨_, rfl, .inl ⟨rfl, _, .of (e6 _ _ c5)⟩, l1, [true, false, false, false, false], true, rfl, rfl, .of (e6 _ _ c5), rfl, ?_⟩
      have qq := q _ (e4.tr e6)
      rw [hd] at qq
      exact qq
    · have hd := od _ hd0 (by decide)
      refine ⟨true, exm_mk T.b_TillError T.i_TillError T.t_TillError T.u_NoCount_TillError, (fun _ x hx => ?_), fun z => nomatch z⟩
      refine ⟨_, rfl, _, _, _, false, rfl, rfl, T.e_NoCount, rfl, (fun u r => r), kone_own (ne_sub T.u_NoCount_NoSum T.u_NoCount_NoCount) T.i_NoSum T.t_NoSum T.u_NoCount_NoSum, ⟨_, rfl, _, _, _, true, rfl, rfl, T.e_NoCount, rfl, (fun u r => r), kone_self, ⟨_, rfl, _, _, _, false, rfl, rfl, T.e_NoCount, rfl, (fun u r => r), kone_own (ne_sub T.u_NoCount_NoKind T.u_NoCount_NoCount) T.i_NoKind T.t_NoKind T.u_NoCount_NoKind, ⟨_, rfl, _, _, _, false, rfl, rfl, T.e_NoCount, rfl, (fun u r => r), kone_own (ne_sub T.u_NoCount_TooLittle T.u_NoCount_NoCount) T.i_TooLittle T.t_TooLittle T.u_NoCount_TooLittle, ?_⟩⟩⟩⟩
      refine ⟨len63 (by show 4 ≤ _; decide), fun l1 hl1 => ?_⟩
      (generalize hh : upd H2 l1 _ = H3; have e3 : Ex H2 H3 := (by rw [← hh]; exact Ex.nw hl1); have c3 := (show H3 l1 = some _ by rw [← hh]; exact upd_same); clear hh)
      refine ⟨_, rfl, .inl ⟨rfl, _, .of c3⟩, _, rfl, _, _, _, false, rfl, rfl, T.e_NoCount, rfl, (fun u r => r), kone_own (ne_sub T.u_NoCount_NoChange T.u_NoCount_NoCount) T.i_NoChange T.t_NoChange T.u_NoCount_NoChange, ?_⟩
      refine ⟨l1, _, _, rfl, rfl, c3, len63' (by show 4 < _; decide), ?_⟩
      have hl10 : H l1 = none := none_back ex hl1
      generalize hH4 : upd H3 l1 (.lst ([V.bl false, V.bl true, V.bl false, V.bl false] ++ [V.bl false])) = H4
      have c5 : H4 l1 = some (.lst ([false, true, false, false, false].map V.bl)) := by rw [← hH4]; exact upd_same
      have e4 : Ex H H4 := hH4 ▸ Ex.mu (ex.tr e3) hl10
      clear hH4
      refine ⟨_, rfl, len63 (by show 5 ≤ _; decide), fun p hp => ?_⟩
      (generalize hh : upd H4 p _ = H6; have e6 : Ex H4 H6 := (by rw [← hh]; exact Ex.nw hp); have c6 := (show H6 p = some _ by rw [← hh]; exact upd_same); clear hh)
      refine ⟨_, p, _, _, false, rfl, rfl, T.e_NoCount, rfl, c6, ?_, T.y_NoCount, false, rfl, iteF ?_⟩
      · repeat (first | exact .nil | refine .cons (.own _) ?_)
      refine ⟨_, rfl, _, _, _, true, rfl, rfl, T.e_NoCount, rfl, (fun u r => r), T.z_NoCount, true, rfl, iteT ?_⟩
      refine ⟨_, rfl, .inl ⟨rfl, _, .of (e6 _ _ c5)⟩, l1, [false, true, false, false, false], true, rfl, rfl, .of (e6 _ _ c5), rfl, ?_⟩
      have qq := q _ (e4.tr e6)
      rw [hd] at qq
      exact qq
    · have hd := od _ hd0 (by decide)
      refine ⟨true, exm_mk T.b_TillError T.i_TillError T.t_TillError T.u_NoKind_TillError, (fun _ x hx => ?_), fun z => nomatch z⟩
      refine ⟨_, rfl, _, _, _, false, rfl, rfl, T.e_NoKind, rfl, (fun u r => r), kone_own (ne_sub T.u_NoKind_NoSum T.u_NoKind_NoKind) T.i_NoSum T.t_NoSum T.u_NoKind_NoSum, ⟨_, rfl, _, _, _, false, rfl, rfl, T.e_NoKind, rfl, (fun u r => r), kone_own (ne_sub T.u_NoKind_NoCount T.u_NoKind_NoKind) T.i_NoCount T.t_NoCount T.u_NoKind_NoCount, ⟨_, rfl, _, _, _, true, rfl, rfl, T.e_NoKind, rfl, (fun u r => r), kone_self, ⟨_, rfl, _, _, _, false, rfl, rfl, T.e_NoKind, rfl, (fun u r => r), kone_own (ne_sub T.u_NoKind_TooLittle T.u_NoKind_NoKind) T.i_TooLittle T.t_TooLittle T.u_NoKind_TooLittle, ?_⟩⟩⟩⟩
      refine ⟨len63 (by show 4 ≤ _; decide), fun l1 hl1 => ?_⟩
      (generalize hh : upd H2 l1 _ = H3; have e3 : Ex H2 H3 := (by rw [← hh]; exact Ex.nw hl1); have c3 := (show H3 l1 = some _ by rw [← hh]; exact upd_same); clear hh)
      refine ⟨_, rfl, .inl ⟨rfl, _, .of c3⟩, _, rfl, _, _, _, false, rfl, rfl, T.e_NoKind, rfl, (fun u r => r), kone_own (ne_sub T.u_NoKind_NoChange T.u_NoKind_NoKind) T.i_NoChange T.t_NoChange T.u_NoKind_NoChange, ?_⟩
      refine ⟨l1, _, _, rfl, rfl, c3, len63' (by show 4 < _; decide), ?_⟩
      have hl10 : H l1 = none := none_back ex hl1
      generalize hH4 : upd H3 l1 (.lst ([V.bl false, V.bl false, V.bl true, V.bl false] ++ [V.bl false])) = H4
      have c5 : H4 l1 = some (.lst ([false, false, true, false, false].map V.bl)) := by rw [← hH4]; exact upd_same
      have e4 : Ex H H4 := hH4 ▸ Ex.mu (ex.tr e3) hl10
      clear hH4
      refine ⟨_, rfl, len63 (by show 5 ≤ _; decide), fun p hp => ?_⟩
      (generalize hh : upd H4 p _ = H6; have e6 : Ex H4 H6 := (by rw [← hh]; exact Ex.nw hp); have c6 := (show H6 p = some _ by rw [← hh]; exact upd_same); clear hh)
      refine ⟨_, p, _, _, false, rfl, rfl, T.e_NoKind, rfl, c6, ?_, T.y_NoKind, false, rfl, iteF ?_⟩
      · repeat (first | exact .nil | refine .cons (.own _) ?_)
      refine ⟨_, rfl, _, _, _, true, rfl, rfl, T.e_NoKind, rfl, (fun u r => r), T.z_NoKind, true, rfl, iteT ?_⟩
      refine ⟨_, rfl, .inl ⟨rfl, _, .of (e6 _ _ c5)⟩, l1, [false, false, true, false, false], true, rfl, rfl, .of (e6 _ _ c5), rfl, ?_⟩
      have qq := q _ (e4.tr e6)
      rw [hd] at qq
      exact qq
    · have hd := od _ hd0 (by decide)
      refine ⟨true, exm_mk T.b_TillError T.i_TillError T.t_TillError T.u_TooLittle_TillError, (fun _ x hx => ?_), fun z => nomatch z⟩
      refine ⟨_, rfl, _, _, _, false, rfl, rfl, T.e_TooLittle, rfl, (fun u r => r), kone_own (ne_sub T.u_TooLittle_NoSum T.u_TooLittle_TooLittle) T.i_NoSum T.t_NoSum T.u_TooLittle_NoSum, ⟨_, rfl, _, _, _, false, rfl, rfl, T.e_TooLittle, rfl, (fun u r => r), kone_own (ne_sub T.u_TooLittle_NoCount T.u_TooLittle_TooLittle) T.i_NoCount T.t_NoCount T.u_TooLittle_NoCount, ⟨_, rfl, _, _, _, false, rfl, rfl, T.e_TooLittle, rfl, (fun u r => r), kone_own (ne_sub T.u_TooLittle_NoKind T.u_TooLittle_TooLittle) T.i_NoKind T.t_NoKind T.u_TooLittle_NoKind, ⟨_, rfl, _, _, _, true, rfl, rfl, T.e_TooLittle, rfl, (fun u r => r), kone_self, ?_⟩⟩⟩⟩
      refine ⟨len63 (by show 4 ≤ _; decide), fun l1 hl1 => ?_⟩
      (generalize hh : upd H2 l1 _ = H3; have e3 : Ex H2 H3 := (by rw [← hh]; exact Ex.nw hl1); have c3 := (show H3 l1 = some _ by rw [← hh]; exact upd_same); clear hh)
      refine ⟨_, rfl, .inl ⟨rfl, _, .of c3⟩, _, rfl, _, _, _, false, rfl, rfl, T.e_TooLittle, rfl, (fun u r => r), kone_own (ne_sub T.u_TooLittle_NoChange T.u_TooLittle_TooLittle) T.i_NoChange T.t_NoChange T.u_TooLittle_NoChange, ?_⟩
      refine ⟨l1, _, _, rfl, rfl, c3, len63' (by show 4 < _; decide), ?_⟩
      have hl10 : H l1 = none := none_back ex hl1
      generalize hH4 : upd H3 l1 (.lst ([V.bl false, V.bl false, V.bl false, V.bl true] ++ [V.bl false])) = H4
      have c5 : H4 l1 = some (.lst ([false, false, false, true, false].map V.bl)) := by rw [← hH4]; exact upd_same
      have e4 : Ex H H4 := hH4 ▸ Ex.mu (ex.tr e3) hl10
      clear hH4
      refine ⟨_, rfl, len63 (by show 5 ≤ _; decide), fun p hp => ?_⟩
      (generalize hh : upd H4 p _ = H6; have e6 : Ex H4 H6 := (by rw [← hh]; exact Ex.nw hp); have c6 := (show H6 p = some _ by rw [← hh]; exact upd_same); clear hh)
      refine ⟨_, p, _, _, false, rfl, rfl, T.e_TooLittle, rfl, c6, ?_, T.y_TooLittle, false, rfl, iteF ?_⟩
      · repeat (first | exact .nil | refine .cons (.own _) ?_)
      refine ⟨_, rfl, _, _, _, true, rfl, rfl, T.e_TooLittle, rfl, (fun u r => r), T.z_TooLittle, true, rfl, iteT ?_⟩
      refine ⟨_, rfl, .inl ⟨rfl, _, .of (e6 _ _ c5)⟩, l1, [false, false, false, true, false], true, rfl, rfl, .of (e6 _ _ c5), rfl, ?_⟩
      have qq := q _ (e4.tr e6)
      rw [hd] at qq
      exact qq
    · have hd : outP ps c vals = "change" := by
        unfold outP
        rw [if_pos hd0, if_pos hc]
      refine ⟨true, exm_mk T.b_TillError T.i_TillError T.t_TillError T.u_NoChange_TillError, (fun _ x hx => ?_), fun z => nomatch z⟩
      refine ⟨_, rfl, _, _, _, false, rfl, rfl, T.e_NoChange, rfl, (fun u r => r), kone_own (ne_sub T.u_NoChange_NoSum T.u_NoChange_NoChange) T.i_NoSum T.t_NoSum T.u_NoChange_NoSum, ⟨_, rfl, _, _, _, false, rfl, rfl, T.e_NoChange, rfl, (fun u r => r), kone_own (ne_sub T.u_NoChange_NoCount T.u_NoChange_NoChange) T.i_NoCount T.t_NoCount T.u_NoChange_NoCount, ⟨_, rfl, _, _, _, false, rfl, rfl, T.e_NoChange, rfl, (fun u r => r), kone_own (ne_sub T.u_NoChange_NoKind T.u_NoChange_NoChange) T.i_NoKind T.t_NoKind T.u_NoChange_NoKind, ⟨_, rfl, _, _, _, false, rfl, rfl, T.e_NoChange, rfl, (fun u r => r), kone_own (ne_sub T.u_NoChange_TooLittle T.u_NoChange_NoChange) T.i_TooLittle T.t_TooLittle T.u_NoChange_TooLittle, ?_⟩⟩⟩⟩
      refine ⟨len63 (by show 4 ≤ _; decide), fun l1 hl1 => ?_⟩
      (generalize hh : upd H2 l1 _ = H3; have e3 : Ex H2 H3 := (by rw [← hh]; exact Ex.nw hl1); have c3 := (show H3 l1 = some _ by rw [← hh]; exact upd_same); clear hh)
      refine ⟨_, rfl, .inl ⟨rfl, _, .of c3⟩, _, rfl, _, _, _, true, rfl, rfl, T.e_NoChange, rfl, (fun u r => r), kone_self, ?_⟩
      refine ⟨l1, _, _, rfl, rfl, c3, len63' (by show 4 < _; decide), ?_⟩
      have hl10 : H l1 = none := none_back ex hl1
      generalize hH4 : upd H3 l1 (.lst ([V.bl false, V.bl false, V.bl false, V.bl false] ++ [V.bl true])) = H4
      have c5 : H4 l1 = some (.lst ([false, false, false, false, true].map V.bl)) := by rw [← hH4]; exact upd_same
      have e4 : Ex H H4 := hH4 ▸ Ex.mu (ex.tr e3) hl10
      clear hH4
      refine ⟨_, rfl, len63 (by show 5 ≤ _; decide), fun p hp => ?_⟩
      (generalize hh : upd H4 p _ = H6; have e6 : Ex H4 H6 := (by rw [← hh]; exact Ex.nw hp); have c6 := (show H6 p = some _ by rw [← hh]; exact upd_same); clear hh)
      refine ⟨_, p, _, _, false, rfl, rfl, T.e_NoChange, rfl, c6, ?_, T.y_NoChange, false, rfl, iteF ?_⟩
      · repeat (first | exact .nil | refine .cons (.own _) ?_)
      refine ⟨_, rfl, _, _, _, true, rfl, rfl, T.e_NoChange, rfl, (fun u r => r), T.z_NoChange, true, rfl, iteT ?_⟩
      refine ⟨_, rfl, .inl ⟨rfl, _, .of (e6 _ _ c5)⟩, l1, [false, false, false, false, true], true, rfl, rfl, .of (e6 _ _ c5), rfl, ?_⟩
      have qq := q _ (e4.tr e6)
      rw [hd] at qq
      exact qq
    · have ho : outP ps c vals = "" := by
        unfold outP
        rw [if_pos hd0, if_neg hc]
      rw [ho, decide_eq_true rfl] at q
      intro p b g ys zs H2 ex _ _ _ _ _ _ _ _ _ _ _
      exact q _ ex
/-! ### a whole number -/
def spWhole : Sp := fun vs H Q _ => ∃ i : Int, vs = [.int i] ∧ Q (.bl true) H
theorem ok_whole (T : Tx K mg) : FnOk P w K mg base CX0 1 T.a__law_whole T.d__law_whole P__law_whole spWhole := by
  refine T.f__law_whole.ok sc__law_whole (fun vs H Q E h => ?_) (fun cdv A outer s H vs Q E hr h => ?_)
  · obtain ⟨i, rfl, _⟩ := h
    rfl
  · obtain ⟨i, rfl, q⟩ := h
    refine ⟨_, (pss_one (ps_ret (pe_and (pe_callB call_isi (by rfl) T.m_isinstance (by decide +kernel) (pa_cons (pv 0) (pa_cons (pe_bltn (v := .ty "int") (by rfl) T.m_int (by decide +kernel) rfl) pa_nil))) (pe_one (pe_not (pe_callB call_isi (by rfl) T.m_isinstance (by decide +kernel) (pa_cons (pv 0) (pa_cons (pe_bltn (v := .ty "bool") (by rfl) T.m_bool (by decide +kernel) rfl) pa_nil)))))))), ?_⟩
    refine ⟨_, rfl, _, _, _, _, true, rfl, .ty "int", .base (.int _), kit_ty (by decide +kernel), true, rfl, iteT ?_⟩
    exact ⟨_, rfl, _, _, _, _, false, rfl, .ty "bool", .base (.int _), kit_ty (by decide +kernel), false, rfl, q⟩
/-! ### a till, looked at -/
def spAlike (K : PySem.W.Frag) : Sp := fun vs H Q _ => ∃ (a b : Addr) (xs : List V) (ps : List (Int × Int)), vs = [.ref a, .ref b] ∧ H a = some (.lst xs) ∧ Prs H xs ps ∧ Till K H b ps ∧ Q (.bl true) H
theorem ok_alike (T : Tx K mg) : FnOk P w K mg base CX0 2 T.a__law_alike T.d__law_alike P__law_alike (spAlike K) := by
  have G__law_whole := ok_whole (P := P) (w := w) (base := base) T
  refine T.f__law_alike.ok sc__law_alike (fun vs H Q E h => ?_) (fun cdv A outer s H vs Q E hr h => ?_)
  · obtain ⟨a, b, xs, ps, rfl, _⟩ := h
    rfl
  · obtain ⟨a, b, xs, ps, rfl, ha, hp, hb, q⟩ := h
    refine ⟨_, (pss_cons (ps_if (PW.pt (pw_or (pt_not (pt_val (pe_callB call_isi (by rfl) T.m_isinstance (by decide +kernel) (pa_cons (pv 0) (pa_cons (pe_bltn (v := .ty "list") (by rfl) T.m_list (by decide +kernel) rfl) pa_nil))))) (pw_or1 (pt_cmpR (op_neD hr.units) (pv 0) (pv 1) (nomark _)))))
      (pss_one (ps_ret pe_bl))
      pss_nil)
    (pss_cons (ps_for PassesOwn.never rfl (pi_list (pv 0)) (pg_name (i := 2) sc__law_alike.nd rfl (.inl rfl))
      (pss_one (ps_if (PW.pt (pw_or (pt_not (pt_val (pe_callB call_isi (by rfl) T.m_isinstance (by decide +kernel) (pa_cons (pv 2) (pa_cons (pe_bltn (v := .ty "tuple") (by rfl) T.m_tuple (by decide +kernel) rfl) pa_nil))))) (pw_or (pt_not (pt_val (pe_call G__law_whole (hr.mono (by decide)) (by rfl) T.g__law_whole T.f__law_whole.kp T.p__law_whole .nil pass0 (pa_cons (pe_ix ix_tup (pv 2) pe_int (fun _ _ => rfl)) pa_nil)))) (pw_or1 (pt_not (pt_val (pe_call G__law_whole (hr.mono (by decide)) (by rfl) T.g__law_whole T.f__law_whole.kp T.p__law_whole .nil pass0 (pa_cons (pe_ix ix_tup (pv 2) pe_int (fun _ _ => rfl)) pa_nil))))))))
        (pss_one (ps_ret pe_bl))
        pss_nil)))
    (pss_one (ps_ret pe_bl)))), ?_⟩
    have hxl := hp.len
    refine ⟨_, rfl, _, _, _, _, true, rfl, .ty "list", .base (.lst ha), kit_ty (by decide +kernel), _, rfl, iteF ?_⟩
    refine ⟨_, rfl, _, rfl, _, _, till_dp (K := K) ⟨xs, .of ha, hp⟩, till_dp hb, shaped_till ps, shaped_till ps, ?_⟩
    rw [eqv_of_shaped (shaped_till ps)]
    refine ⟨_, rfl, iteF ?_⟩
    refine ⟨_, rfl, a, rfl, ⟨xs, .of ha⟩, for_list (xs := xs) (fun i σ H' => ∃ y2, σ = [some (.ref a), some (.ref b), y2] ∧ H' = H) ⟨_, rfl, rfl⟩ (fun i σ H' _ h => by obtain ⟨_, _, rfl⟩ := h; exact .of ha) ?_ ?_⟩
    · rintro i x σ H' hx ⟨y2, rfl, rfl⟩
      obtain ⟨p, t, h1, rfl, h3⟩ := Prs.get hp hx
      refine ⟨_, rfl, _, _, _, _, true, rfl, .ty "tuple", .base (.tup h3), kit_ty (by decide +kernel), _, rfl, iteF ?_⟩
      refine ⟨_, rfl, t, _, 0, .int p.1, rfl, rfl, .of h3, rfl, p.1, rfl, true, rfl, iteF ?_⟩
      refine ⟨_, rfl, t, _, 1, .int p.2, rfl, rfl, .of h3, rfl, p.2, rfl, true, rfl, iteF ?_⟩
      exact ⟨_, rfl, rfl⟩
    · rintro σ H' ⟨y2, rfl, rfl⟩
      exact q
/-! ### the law's own walk over the table -/
def spLeast (K : PySem.W.Frag) : Sp := fun vs H Q _ => ∃ (a : Addr) (r : List Cell) (d v c : Nat), vs = [.ref a, .int (d : Int), .int (v : Int), .int (c : Int)] ∧ Row K H a r ∧ d < r.length ∧ 1 ≤ v ∧ v ≤ 100000 ∧ d ≤ 100000 ∧ Q (vO (leastF r v c d)) H
theorem ok_least (T : Tx K mg) : FnOk P w K mg base CX0 1 T.a__law_least T.d__law_least P__law_least (spLeast K) := by
  refine T.f__law_least.ok sc__law_least (fun vs H Q E h => ?_) (fun cdv A outer s H vs Q E hr h => ?_)
  · obtain ⟨a, r, d, v, c, rfl, _⟩ := h
    rfl
  · obtain ⟨a, r, d, v, c, rfl, hS, hd, hv1, hv2, hd2, q⟩ := h
    refine ⟨_, (pss_cons (ps_set (i := 4) sc__law_least.nd rfl (.inl rfl) pe_non)
    (pss_cons (ps_for PassesOwn.never rfl (pi_range1 (by rfl) T.m_range (pa_cons (pe_op op_add (pe_callB (call_min2 rfl) (by rfl) T.m_min (by decide +kernel) (pa_cons (pv 3) (pa_cons (pe_op op_fdiv (pv 1) (pv 2)) pa_nil))) pe_int) pa_nil)) (pg_name (i := 5) sc__law_least.nd rfl (.inl rfl))
      (pss_cons (ps_set (i := 6) sc__law_least.nd rfl (.inl rfl) (pe_ix ix_list (pv 0) (pe_op op_sub (pv 1) (pe_op op_mul (pv 5) (pv 2))) (fun _ _ => rfl)))
      (pss_one (ps_if (PW.pt (pw_and (pt_cmpR op_notN (pv 6) pe_non (nomark _)) (pw_and1 (PW.pt (pw_or (pt_cmpR op_isN (pv 4) pe_non (nomark _)) (pw_or1 (pt_cmpR op_lt (pe_op op_add (pv 6) (pv 5)) (pv 4) (nomark _))))))))
        (pss_one (ps_set (i := 4) sc__law_least.nd rfl (.inl rfl) (pe_op op_add (pv 6) (pv 5))))
        pss_nil))))
    (pss_one (ps_ret (pv 4))))), ?_⟩
    have hS' : SqL K H a (r.map vO) := hS
    obtain ⟨n, hn, hnn⟩ : ∃ n : Nat, (if (d : Int) / (v : Int) < (c : Int) then (d : Int) / (v : Int) else (c : Int)) = (n : Int) ∧ n = min c (d / v) := by
      rw [← Int.natCast_ediv]
      by_cases h : ((d / v : Nat) : Int) < (c : Int)
      · exact ⟨d / v, if_pos h, by omega⟩
      · exact ⟨c, if_neg h, by omega⟩
    have hnd : n ≤ d := by
      have : d / v ≤ d := Nat.div_le_self ..
      omega
    have hnv : n * v ≤ d := by
      rw [hnn]
      exact Nat.le_trans (Nat.mul_le_mul_right _ (Nat.min_le_right ..)) (Nat.div_mul_le_self ..)
    refine ⟨_, rfl, _, rfl, _, rfl, _, _, rfl, rfl, ⟨by omega, by omega⟩, _, _, rfl, ?_⟩
    rw [hn]
    refine ⟨_, _, rfl, rfl, _, rfl, by omega, by omega, ?_⟩
    refine for_range (fun i σ H' => ∃ y5 y6, σ = [some (.ref a), some (.int (d : Int)), some (.int (v : Int)), some (.int (c : Int)), some (vO (leastUp r v d i)), y5, y6] ∧ H' = H) ⟨_, _, rfl, rfl⟩ ?_ ?_
    · rintro i σ H' hi ⟨y5, y6, rfl, rfl⟩
      have hiv : i * v ≤ d := Nat.le_trans (Nat.mul_le_mul_right _ (by omega : i ≤ n)) hnv
      have a1 : atI (r.map vO) ((d : Int) - (0 + (i : Int)) * (v : Int)) = some (vO (rAt r (d - i * v))) := at_of (j := d - i * v) (by
        rw [Int.zero_add, ← Int.natCast_mul]
        omega) (vO_at (by omega))
      refine ⟨_, rfl, _, rfl, _, rfl, _, rfl, _, _, rfl, rfl, .inr ⟨by omega, by omega⟩, _, _, rfl, rfl, a, _, _, _, rfl, rfl, hS', a1, ?_⟩
      cases hx : rAt r (d - i * v) with
      | none =>
        refine ⟨_, rfl, rfl, _, rfl, iteDN (fun z => absurd rfl z) (fun _ => iteF ?_)⟩
        refine ⟨some (.int (0 + (i : Int))), some .non, ?_, rfl⟩
        rw [show leastUp r v d (i + 1) = leastUp r v d i by show bund _ _ _ = _; rw [hx]; rfl]
        rfl
      | some x =>
        refine ⟨_, rfl, rfl, _, rfl, iteDN (fun _ => ?_) (fun z => nomatch z)⟩
        have hup : leastUp r v d (i + 1) = bund (leastUp r v d i) (some x) (i : Int) := by show bund _ _ _ = _; rw [hx]
        cases hy : leastUp r v d i with
        | none =>
          refine ⟨_, rfl, rfl, _, rfl, iteD (fun _ => iteT ?_) (fun z => absurd rfl z)⟩
          refine ⟨_, rfl, _, rfl, _, _, rfl, rfl, some (.int (0 + (i : Int))), some (.int x), ?_, rfl⟩
          rw [hup, hy, show bund none (some x) (i : Int) = some (x + (0 + (i : Int))) by rw [Int.zero_add]; rfl]
          rfl
        | some y =>
          refine ⟨_, rfl, rfl, _, rfl, iteD (fun z => nomatch z) (fun _ => ?_)⟩
          refine ⟨_, rfl, _, rfl, _, _, rfl, rfl, _, rfl, _, _, rfl, rfl, _, rfl, iteD (fun e => ?_) (fun e => ?_)⟩
          · refine ⟨_, rfl, _, rfl, _, _, rfl, rfl, some (.int (0 + (i : Int))), some (.int x), ?_, rfl⟩
            have e' : x + (0 + (i : Int)) < y := e
            rw [hup, hy, show bund (some y) (some x) (i : Int) = some (x + (0 + (i : Int))) by
              rw [Int.zero_add] at e' ⊢
              exact if_pos e']
            rfl
          · refine ⟨some (.int (0 + (i : Int))), some (.int x), ?_, rfl⟩
            have e' : ¬ x + (0 + (i : Int)) < y := e
            rw [Int.zero_add] at e'
            rw [hup, hy, show bund (some y) (some x) (i : Int) = some y from if_neg e', ← hy]
            rfl
    · rintro σ H' ⟨y5, y6, rfl, rfl⟩
      refine ⟨_, rfl, ?_⟩
      rw [show ((n : Int) + 1).toNat = n + 1 by omega, hnn]
      exact q
/-! ### a row, looked at -/
def spRow : Sp := fun vs H Q _ => ∃ (a : Addr) (r : List Cell) (n : Int), vs = [.ref a, .int n] ∧ H a = some (.lst (r.map vO)) ∧ (r.length : Int) = n ∧ Q (.bl true) H
theorem ok_row (T : Tx K mg) : FnOk P w K mg base CX0 2 T.a__law_row T.d__law_row P__law_row spRow := by
  have G__law_whole := ok_whole (P := P) (w := w) (base := base) T
  refine T.f__law_row.ok sc__law_row (fun vs H Q E h => ?_) (fun cdv A outer s H vs Q E hr h => ?_)
  · obtain ⟨a, r, n, rfl, _⟩ := h
    rfl
  · obtain ⟨a, r, n, rfl, ha, hn, q⟩ := h
    refine ⟨_, (pss_cons (ps_if (PW.pt (pw_or (pt_not (pt_val (pe_callB call_isi (by rfl) T.m_isinstance (by decide +kernel) (pa_cons (pv 0) (pa_cons (pe_bltn (v := .ty "list") (by rfl) T.m_list (by decide +kernel) rfl) pa_nil))))) (pw_or1 (pt_cmpR op_ne (pe_callB call_len_seq (by rfl) T.m_len (by decide +kernel) (pa_cons (pv 0) pa_nil)) (pv 1) (nomark _)))))
      (pss_one (ps_ret pe_bl))
      pss_nil)
    (pss_cons (ps_for PassesOwn.never rfl (pi_list (pv 0)) (pg_name (i := 2) sc__law_row.nd rfl (.inl rfl))
      (pss_one (ps_if (PW.pt (pw_and (pt_cmpR op_notN (pv 2) pe_non (nomark _)) (pw_and1 (pt_not (pt_val (pe_call G__law_whole (hr.mono (by decide)) (by rfl) T.g__law_whole T.f__law_whole.kp T.p__law_whole .nil pass0 (pa_cons (pv 2) pa_nil)))))))
        (pss_one (ps_ret pe_bl))
        pss_nil)))
    (pss_one (ps_ret pe_bl)))), ?_⟩
    subst hn
    refine ⟨_, rfl, _, _, _, _, true, rfl, .ty "list", .base (.lst ha), kit_ty (by decide +kernel), _, rfl, iteF ?_⟩
    refine ⟨_, rfl, a, _, rfl, .inl (.of ha), _, rfl, rfl, _, rfl, iteVN (fun z => absurd (by rw [List.length_map]) z) (fun _ => ?_)⟩
    refine ⟨_, rfl, a, rfl, ⟨_, .of ha⟩, for_list (xs := r.map vO) (fun i σ H' => ∃ y2, σ = [some (.ref a), some (.int (r.length : Int)), y2] ∧ H' = H) ⟨_, rfl, rfl⟩ (fun i σ H' _ h => by obtain ⟨_, _, rfl⟩ := h; exact .of ha) ?_ ?_⟩
    · rintro i x σ H' hx ⟨y2, rfl, rfl⟩
      rw [List.getElem?_map] at hx
      obtain ⟨c, _, rfl⟩ := Option.map_eq_some_iff.mp hx
      cases c with
      | none => exact ⟨_, rfl, rfl, _, rfl, iteDN (fun z => absurd rfl z) (fun _ => iteF ⟨_, rfl, rfl⟩)⟩
      | some j => exact ⟨_, rfl, rfl, _, rfl, iteDN (fun _ => ⟨_, rfl, j, rfl, true, rfl, iteF ⟨_, rfl, rfl⟩⟩) (fun z => nomatch z)⟩
    · rintro σ H' ⟨y2, rfl, rfl⟩
      exact q
/-! ### rows as data -/
def dO : Cell → PyData
  | none => .none
  | some i => .int i
def rowD (r : List Cell) : PyData := .list (r.map dO)
theorem cell_dp {K : PySem.W.Frag} {H : Hp} (c : Cell) : Dp K H (vO c) (dO c) := by
  cases c with
  | none => exact .non
  | some i => exact .int i
theorem cells_dp {K : PySem.W.Frag} {H : Hp} : ∀ r : List Cell, DpAll K H (r.map vO) (r.map dO)
  | [] => .nil
  | c :: r => .cons (cell_dp c) (cells_dp r)
theorem row_dp {K : PySem.W.Frag} {H : Hp} {a : Addr} {r : List Cell} (h : SqL K H a (r.map vO)) : Dp K H (.ref a) (rowD r) := .lst h (cells_dp r)
theorem canLay_cells : ∀ r : List Cell, PyData.canLayAll0 (r.map dO) = true
  | [] => rfl
  | c :: r => by
    rw [List.map_cons]
    show (PyData.canLay0 (dO c) && PyData.canLayAll0 (r.map dO)) = true
    rw [canLay_cells r]
    cases c <;> rfl
theorem depth_cells : ∀ r : List Cell, PyData.depthAll (r.map dO) ≤ 3
  | [] => by decide
  | c :: r => by
    have h := depth_cells r
    rw [List.map_cons]
    show max (PyData.depth (dO c)) (PyData.depthAll (r.map dO)) ≤ 3
    have : PyData.depth (dO c) ≤ 3 := by cases c <;> simp [dO, PyData.depth]
    omega
theorem shaped_row (r : List Cell) : SeqAt.shaped (rowD r) = true := by
  unfold SeqAt.shaped
  have h1 : PyData.canLay0 (rowD r) = true := canLay_cells r
  have h2 : PyData.depth (rowD r) ≤ 64 := by
    have := depth_cells r
    simp only [rowD, PyData.depth]
    omega
  rw [h1, decide_eq_true h2]
  rfl
def rowsD (rs : List (List Cell)) : PyData := .list (rs.map rowD)
theorem canLay_rows : ∀ rs : List (List Cell), PyData.canLayAll0 (rs.map rowD) = true
  | [] => rfl
  | r :: rs => by
    rw [List.map_cons]
    show (PyData.canLay0 (rowD r) && PyData.canLayAll0 (rs.map rowD)) = true
    rw [canLay_rows rs]
    rw [show PyData.canLay0 (rowD r) = true from canLay_cells r]
    rfl
theorem depth_rows : ∀ rs : List (List Cell), PyData.depthAll (rs.map rowD) ≤ 10
  | [] => by decide
  | r :: rs => by
    have h := depth_rows rs
    rw [List.map_cons]
    show max (PyData.depth (rowD r)) (PyData.depthAll (rs.map rowD)) ≤ 10
    have : PyData.depth (rowD r) ≤ 10 := by
      have := depth_cells r
      simp only [rowD, PyData.depth]
      omega
    omega
theorem shaped_rows (rs : List (List Cell)) : SeqAt.shaped (rowsD rs) = true := by
  unfold SeqAt.shaped
  have h1 : PyData.canLay0 (rowsD rs) = true := canLay_rows rs
  have h2 : PyData.depth (rowsD rs) ≤ 64 := by
    have := depth_rows rs
    simp only [rowsD, PyData.depth]
    omega
  rw [h1, decide_eq_true h2]
  rfl
theorem rows_dpAll {K : PySem.W.Frag} {H : Hp} : ∀ {as : List Addr} {rs : List (List Cell)}, RowsAt H as rs → DpAll K H (as.map V.ref) (rs.map rowD)
  | _, _, .nil => .nil
  | _, _, .cons h r => .cons (row_dp (.of h)) (rows_dpAll r)
theorem rows_dp {K : PySem.W.Frag} {H : Hp} {R : Addr} {as : List Addr} {rs : List (List Cell)} (h : SqL K H R (as.map V.ref)) (k : RowsAt H as rs) : Dp K H (.ref R) (rowsD rs) := .lst h (rows_dpAll k)
def spWalked (K : PySem.W.Frag) : Sp := fun vs H Q _ => ∃ (R t : Addr) (as : List Addr) (ps : List (Int × Int)) (n : Nat), vs = [.ref R, .ref t, .int (n : Int)] ∧ H R = some (.lst (as.map V.ref)) ∧ RowsAt H as (rowsOf (row0 n) ps) ∧ Till K H t ps ∧ n ≤ 1000 ∧ ps.length ≤ 1000 ∧
  (∀ p ∈ ps, 1 ≤ p.1 ∧ p.1 ≤ 1000 ∧ 0 ≤ p.2) ∧ Ret (.bl true) H Q
theorem ok_walked (T : Tx K mg) : FnOk P w K mg base CX0 3 T.a__law_walked T.d__law_walked P__law_walked (spWalked K) := by
  have G__law_row := ok_row (P := P) (w := w) (base := base) T
  have G__law_least := ok_least (P := P) (w := w) (base := base) T
  refine T.f__law_walked.ok sc__law_walked (fun vs H Q E h => ?_) (fun cdv A outer s H vs Q E hr h => ?_)
  · obtain ⟨R, t, as, ps, n, rfl, _⟩ := h
    rfl
  · obtain ⟨R, t, as, ps, n, rfl, eR, hrows, ⟨xs, hS, hp⟩, hn, hl, hv, q⟩ := h
    refine ⟨_, (pss_cons (ps_if (PW.pt (pw_or (pt_not (pt_val (pe_callB call_isi (by rfl) T.m_isinstance (by decide +kernel) (pa_cons (pv 0) (pa_cons (pe_bltn (v := .ty "list") (by rfl) T.m_list (by decide +kernel) rfl) pa_nil))))) (pw_or (pt_cmpR op_ne (pe_callB call_len_seq (by rfl) T.m_len (by decide +kernel) (pa_cons (pv 0) pa_nil)) (pe_op op_add (pe_callB call_len_seq (by rfl) T.m_len (by decide +kernel) (pa_cons (pv 1) pa_nil)) pe_int) (nomark _)) (pw_or1 (pt_not (pt_val (pe_call G__law_row (hr.mono (by decide)) (by rfl) T.g__law_row T.f__law_row.kp T.p__law_row .nil pass0 (pa_cons (pe_ix ix_list (pv 0) pe_int (fun _ _ => rfl)) (pa_cons (pe_op op_add (pv 2) pe_int) pa_nil)))))))))
      (pss_one (ps_ret pe_bl))
      pss_nil)
    (pss_cons (ps_if (pt_cmpR (op_neD hr.units) (pe_ix ix_list (pv 0) pe_int (fun _ _ => rfl)) (pe_op op_cat (pe_lst (pa_cons pe_int pa_nil)) (pe_op op_rep (pe_lst (pa_cons pe_non pa_nil)) (pv 2))) (nomark _))
      (pss_one (ps_ret pe_bl))
      pss_nil)
    (pss_cons (ps_for PassesOwn.never rfl (pi_range1 (by rfl) T.m_range (pa_cons (pe_callB call_len_seq (by rfl) T.m_len (by decide +kernel) (pa_cons (pv 1) pa_nil)) pa_nil)) (pg_name (i := 3) sc__law_walked.nd rfl (.inl rfl))
      (pss_cons (ps_if (pt_not (pt_val (pe_call G__law_row (hr.mono (by decide)) (by rfl) T.g__law_row T.f__law_row.kp T.p__law_row .nil pass0 (pa_cons (pe_ix ix_list (pv 0) (pe_op op_add (pv 3) pe_int) (fun _ _ => rfl)) (pa_cons (pe_op op_add (pv 2) pe_int) pa_nil)))))
        (pss_one (ps_ret pe_bl))
        pss_nil)
      (pss_one (ps_for PassesOwn.never rfl (pi_range1 (by rfl) T.m_range (pa_cons (pe_op op_add (pv 2) pe_int) pa_nil)) (pg_name (i := 4) sc__law_walked.nd rfl (.inl rfl))
        (pss_one (ps_if (pt_cmpR op_ne (pe_ix ix_list (pe_ix ix_list (pv 0) (pe_op op_add (pv 3) pe_int) (fun _ _ => rfl)) (pv 4) (fun _ _ => rfl)) (pe_call G__law_least (hr.mono (by decide)) (by rfl) T.g__law_least T.f__law_least.kp T.p__law_least .nil pass0 (pa_cons (pe_ix ix_list (pv 0) (pv 3) (fun _ _ => rfl)) (pa_cons (pv 4) (pa_cons (pe_ix ix_tup (pe_ix ix_list (pv 1) (pv 3) (fun _ _ => rfl)) pe_int (fun _ _ => rfl)) (pa_cons (pe_ix ix_tup (pe_ix ix_list (pv 1) (pv 3) (fun _ _ => rfl)) pe_int (fun _ _ => rfl)) pa_nil))))) (nomark _))
          (pss_one (ps_ret pe_bl))
          pss_nil))))))
    (pss_one (ps_ret pe_bl))))), ?_⟩
    have hal : (as.map V.ref).length = ps.length + 1 := by rw [List.length_map, hrows.len, rowsOf_len]
    obtain ⟨a0, i0, _, ea0⟩ := at_row hrows (i := 0) (k := 0) rfl (rowsOf_at _ _ 0 (Nat.zero_le _))
    have ea0' : H a0 = some (.lst ((row0 n).map vO)) := ea0
    refine ⟨_, rfl, _, _, _, _, true, rfl, .ty "list", .base (.lst eR), kit_ty (by decide +kernel), _, rfl, iteF ?_⟩
    refine ⟨_, rfl, R, _, rfl, .inl (.of eR), _, rfl, t, xs, rfl, .inl hS, _, _, rfl, rfl, rfl, _, rfl, iteVN (fun z => absurd (by rw [hal, hp.len]; rfl) z) (fun _ => ?_)⟩
    refine ⟨_, rfl, R, _, _, .ref a0, rfl, rfl, .of eR, i0, _, rfl, _, _, rfl, rfl, a0, row0 n, _, rfl, ea0', by rw [row0_len]; rfl, true, rfl, iteF ?_⟩
    refine ⟨_, rfl, R, _, _, .ref a0, rfl, rfl, .of eR, i0, ?_⟩
    refine ⟨len63 (by show 1 ≤ _; decide), fun l1 hl1 => ?_⟩
    (generalize hh : upd H l1 _ = H1; have e1 : Ex H H1 := (by rw [← hh]; exact Ex.nw hl1); have c1 := (show H1 l1 = some _ by rw [← hh]; exact upd_same); clear hh)
    refine ⟨len63 (by show 1 ≤ _; decide), fun l2 hl2 => ?_⟩
    (generalize hh : upd H1 l2 _ = H2; have e2 : Ex H1 H2 := (by rw [← hh]; exact Ex.nw hl2); have c2 := (show H2 l2 = some _ by rw [← hh]; exact upd_same); clear hh)
    refine ⟨_, rfl, l2, _, _, rfl, rfl, c2, by omega, by omega, len63 (by rw [Int.toNat_natCast]; show 1 * n ≤ _; omega), fun l3 hl3 => ?_⟩
    rw [Int.toNat_natCast]
    (generalize hh : upd H2 l3 _ = H3; have e3 : Ex H2 H3 := (by rw [← hh]; exact Ex.nw hl3); have c3 := (show H3 l3 = some _ by rw [← hh]; exact upd_same); clear hh)
    refine ⟨l1, l3, _, _, rfl, rfl, e3 _ _ (e2 _ _ c1), c3, len63 (by simp; omega), fun l4 hl4 => ?_⟩
    rw [row0_map]
    (generalize hh : upd H3 l4 _ = H4; have e4 : Ex H3 H4 := (by rw [← hh]; exact Ex.nw hl4); have c4 := (show H4 l4 = some _ by rw [← hh]; exact upd_same); clear hh)
    have ex4 := ((e1.tr e2).tr e3).tr e4
    refine ⟨_, _, row_dp (K := K) (.of (ex4 _ _ ea0')), row_dp (K := K) (.of c4), shaped_row _, shaped_row _, ?_⟩
    rw [eqv_of_shaped (shaped_row _)]
    refine ⟨_, rfl, iteF ?_⟩
    have eR4 := ex4 _ _ eR
    have hrows4 := hrows.ex ex4
    have hS4 := ex4.seq hS
    have hp4 := hp.ex ex4
    refine ⟨_, rfl, t, xs, rfl, .inl hS4, _, rfl, by rw [hp.len]; omega, by rw [hp.len]; omega, ?_⟩
    refine for_range (fun i σ H' => ∃ y3 y4, σ = [some (.ref R), some (.ref t), some (.int (n : Int)), y3, y4] ∧ H' = H4) ⟨_, _, rfl, rfl⟩ ?_ ?_
    · rintro k σ H' hk ⟨y3, y4, rfl, rfl⟩
      have hk' : k < ps.length := by rw [Int.toNat_natCast, hp.len] at hk; exact hk
      obtain ⟨b, ib, _, eb⟩ := at_row hrows4 (i := 0 + (k : Int) + 1) (k := k + 1) (by omega) (rowsOf_at _ _ (k + 1) (by omega))
      obtain ⟨a, ia, _, ea⟩ := at_row hrows4 (i := 0 + (k : Int)) (k := k) (by omega) (rowsOf_at _ _ k (by omega))
      have hpk := List.getElem?_eq_getElem hk'
      obtain ⟨t2, hx0, h3⟩ := Prs.getL hp4 hpk
      have hpv := hv _ (List.getElem_mem hk')
      generalize ps[k] = p at hpk h3 hpv
      have hx : atI xs (0 + (k : Int)) = some (.ref t2) := at_of (Int.zero_add _) hx0
      have hll : ∀ j, (lastRow (row0 n) (ps.take j)).length = n + 1 := fun j => by rw [lastRow_len, row0_len]
      refine ⟨_, rfl, _, rfl, _, _, rfl, rfl, R, _, _, _, rfl, rfl, .of eR4, ib, _, rfl, _, _, rfl, rfl, b, _, _, rfl, eb, by rw [hll]; rfl, true, rfl, iteF ?_⟩
      refine ⟨_, rfl, _, _, rfl, rfl, _, rfl, by omega, by omega, ?_⟩
      refine for_range (fun i σ H9 => ∃ y4, σ = [some (.ref R), some (.ref t), some (.int (n : Int)), some (.int (0 + (k : Int))), y4] ∧ H9 = H') ⟨_, rfl, rfl⟩ ?_ ?_
      · rintro d σ H9 hd ⟨y4, rfl, rfl⟩
        have hd' : d < n + 1 := by omega
        have c1 : rAt (lastRow (row0 n) (ps.take (k + 1))) d = leastF (lastRow (row0 n) (ps.take k)) p.1.toNat p.2.toNat d := by
          rw [take_snoc hpk, lastRow_snoc]
          exact rAt_map (by rw [hll]; exact hd')
        have id : atI ((lastRow (row0 n) (ps.take (k + 1))).map vO) (0 + (d : Int)) = some (vO (leastF (lastRow (row0 n) (ps.take k)) p.1.toNat p.2.toNat d)) := at_of (Int.zero_add _) (by
          rw [vO_at (by rw [hll]; exact hd'), c1])
        refine ⟨_, rfl, _, rfl, _, _, rfl, rfl, R, _, _, _, rfl, rfl, .of eR4, ib, _, rfl, b, _, _, _, rfl, rfl, .of eb, id, ?_⟩
        refine ⟨_, rfl, _, rfl, R, _, _, _, rfl, rfl, .of eR4, ia, _, rfl, _, rfl, _, rfl, t, xs, _, _, rfl, rfl, hS4, hx, t2, _, 0, .int p.1, rfl, rfl, .of h3, rfl, ?_⟩
        refine ⟨_, rfl, _, rfl, t, xs, _, _, rfl, rfl, hS4, hx, t2, _, 1, .int p.2, rfl, rfl, .of h3, rfl, ?_⟩
        refine ⟨a, _, d, p.1.toNat, p.2.toNat, by rw [Int.toNat_of_nonneg (by omega), Int.toNat_of_nonneg (by omega), Int.zero_add]; rfl, .of ea, by rw [hll]; exact hd', by omega, by omega, by omega, ?_⟩
        generalize leastF _ _ _ _ = o
        have hsc : scal (vO o) (vO o) = true := by cases o <;> rfl
        exact ⟨hsc, _, rfl, iteDN (fun z => absurd rfl z) (fun _ => ⟨_, rfl, rfl⟩)⟩
      · rintro σ H9 ⟨y4, rfl, rfl⟩
        exact ⟨_, _, rfl, rfl⟩
    · rintro σ H' ⟨y3, y4, rfl, rfl⟩
      exact q _ ex4
/-! ### a change, looked at -/
def lookL (v : Int) (l : List (Int × Int)) : Int := l.foldl (fun acc q => if q.1 = v then q.2 else acc) 0
theorem lookL_snoc (v : Int) (l : List (Int × Int)) (p : Int × Int) : lookL v (l ++ [p]) = if p.1 = v then p.2 else lookL v l := by
  unfold lookL
  rw [List.foldl_append]
  rfl
theorem lookL_in {v c : Int} : ∀ {l : List (Int × Int)} (z : Int), (l.map (·.1)).Nodup → (v, c) ∈ l → l.foldl (fun acc q => if q.1 = v then q.2 else acc) z = c
  | p :: l, z, nd, h => by
    rw [List.map_cons, List.nodup_cons] at nd
    rw [List.foldl_cons]
    rcases List.mem_cons.mp h with e | e
    · subst e
      rw [if_pos rfl]
      have : ∀ (k : List (Int × Int)) (y : Int), v ∉ k.map (·.1) → k.foldl (fun acc q => if q.1 = v then q.2 else acc) y = y := by
        intro k
        induction k with
        | nil => intro y _; rfl
        | cons q k ih =>
          intro y hn
          rw [List.map_cons, List.mem_cons, not_or] at hn
          rw [List.foldl_cons, if_neg fun e => hn.1 e.symm]
          exact ih y hn.2
      exact this l c nd.1
    · exact lookL_in _ nd.2 e
def spChange (K : PySem.W.Frag) : Sp := fun vs H Q _ => ∃ (a t : Addr) (d : Int) (xs : List V) (gs ps : List (Int × Int)), vs = [.ref a, .ref t, .int d] ∧ H a = some (.lst xs) ∧ Prs H xs gs ∧ Till K H t ps ∧ (ps.map (·.1)).Nodup ∧
  gs.Pairwise (fun p q => p.1 < q.1) ∧ (∀ q ∈ gs, 1 ≤ q.1 ∧ q.1 ≤ 1000 ∧ 1 ≤ q.2 ∧ ∃ c, (q.1, c) ∈ ps ∧ q.2 ≤ c) ∧ worthP gs = d ∧ Q (.int (manyP gs)) H
theorem ok_change (T : Tx K mg) : FnOk P w K mg base CX0 2 T.a__law_change T.d__law_change P__law_change (spChange K) := by
  have G__law_whole := ok_whole (P := P) (w := w) (base := base) T
  refine T.f__law_change.ok sc__law_change (fun vs H Q E h => ?_) (fun cdv A outer s H vs Q E hr h => ?_)
  · obtain ⟨a, t, d, xs, gs, ps, rfl, _⟩ := h
    rfl
  · obtain ⟨a, t, d, xs, gs, ps, rfl, ha, hp, ⟨ts, hS, ht⟩, nd, hri, hgs, hw, q⟩ := h
    refine ⟨_, (pss_cons (ps_if (pt_not (pt_val (pe_callB call_isi (by rfl) T.m_isinstance (by decide +kernel) (pa_cons (pv 0) (pa_cons (pe_bltn (v := .ty "list") (by rfl) T.m_list (by decide +kernel) rfl) pa_nil)))))
      (pss_one (ps_ret (pe_un un_neg pe_int)))
      pss_nil)
    (pss_cons (ps_set (i := 3) sc__law_change.nd rfl (.inl rfl) (pv 2))
    (pss_cons (ps_set (i := 4) sc__law_change.nd rfl (.inl rfl) pe_int)
    (pss_cons (ps_set (i := 5) sc__law_change.nd rfl (.inl rfl) pe_int)
    (pss_cons (ps_for PassesOwn.never rfl (pi_list (pv 0)) (pg_name (i := 6) sc__law_change.nd rfl (.inl rfl))
      (pss_cons (ps_if (PW.pt (pw_or (pt_not (pt_val (pe_callB call_isi (by rfl) T.m_isinstance (by decide +kernel) (pa_cons (pv 6) (pa_cons (pe_bltn (v := .ty "tuple") (by rfl) T.m_tuple (by decide +kernel) rfl) pa_nil))))) (pw_or (pt_cmpR op_ne (pe_callB call_len_seq (by rfl) T.m_len (by decide +kernel) (pa_cons (pv 6) pa_nil)) pe_int (nomark _)) (pw_or (pt_not (pt_val (pe_call G__law_whole (hr.mono (by decide)) (by rfl) T.g__law_whole T.f__law_whole.kp T.p__law_whole .nil pass0 (pa_cons (pe_ix ix_tup (pv 6) pe_int (fun _ _ => rfl)) pa_nil)))) (pw_or1 (pt_not (pt_val (pe_call G__law_whole (hr.mono (by decide)) (by rfl) T.g__law_whole T.f__law_whole.kp T.p__law_whole .nil pass0 (pa_cons (pe_ix ix_tup (pv 6) pe_int (fun _ _ => rfl)) pa_nil)))))))))
        (pss_one (ps_ret (pe_un un_neg pe_int)))
        pss_nil)
      (pss_cons (ps_if (PW.pt (pw_or (pt_cmpR op_le (pe_ix ix_tup (pv 6) pe_int (fun _ _ => rfl)) (pv 5) (nomark _)) (pw_or1 (pt_cmpR op_lt (pe_ix ix_tup (pv 6) pe_int (fun _ _ => rfl)) pe_int (nomark _)))))
        (pss_one (ps_ret (pe_un un_neg pe_int)))
        pss_nil)
      (pss_cons (ps_set (i := 7) sc__law_change.nd rfl (.inl rfl) pe_int)
      (pss_cons (ps_for PassesOwn.never rfl (pi_list (pv 1)) (pg_name (i := 8) sc__law_change.nd rfl (.inl rfl))
        (pss_one (ps_if (pt_cmpR op_eq (pe_ix ix_tup (pv 8) pe_int (fun _ _ => rfl)) (pe_ix ix_tup (pv 6) pe_int (fun _ _ => rfl)) (nomark _))
          (pss_one (ps_set (i := 7) sc__law_change.nd rfl (.inl rfl) (pe_ix ix_tup (pv 8) pe_int (fun _ _ => rfl))))
          pss_nil)))
      (pss_cons (ps_if (pt_cmpR op_gt (pe_ix ix_tup (pv 6) pe_int (fun _ _ => rfl)) (pv 7) (nomark _))
        (pss_one (ps_ret (pe_un un_neg pe_int)))
        pss_nil)
      (pss_cons (ps_set (i := 5) sc__law_change.nd rfl (.inl rfl) (pe_ix ix_tup (pv 6) pe_int (fun _ _ => rfl)))
      (pss_cons (ps_set (i := 3) sc__law_change.nd rfl (.inl rfl) (pe_op op_sub (pv 3) (pe_op op_mul (pe_ix ix_tup (pv 6) pe_int (fun _ _ => rfl)) (pe_ix ix_tup (pv 6) pe_int (fun _ _ => rfl)))))
      (pss_one (ps_set (i := 4) sc__law_change.nd rfl (.inl rfl) (pe_op op_add (pv 4) (pe_ix ix_tup (pv 6) pe_int (fun _ _ => rfl)))))))))))))
    (pss_cons (ps_if (pt_cmpR op_ne (pv 3) pe_int (nomark _))
      (pss_one (ps_ret (pe_un un_neg pe_int)))
      pss_nil)
    (pss_one (ps_ret (pv 4))))))))), ?_⟩
    have hxl := hp.len
    have htl := ht.len
    refine ⟨_, rfl, _, _, _, _, true, rfl, .ty "list", .base (.lst ha), kit_ty (by decide +kernel), _, rfl, iteF ?_⟩
    refine ⟨_, rfl, ?_⟩
    refine ⟨_, rfl, a, rfl, ⟨xs, .of ha⟩, for_list (xs := xs) (fun i σ H' => ∃ (last : Int) (y6 y7 y8 : Option V), σ = [some (.ref a), some (.ref t), some (.int d), some (.int (d - worthP (gs.take i))), some (.int (manyP (gs.take i))), some (.int last), y6, y7, y8] ∧ H' = H ∧ ∀ q ∈ gs.drop i, last < q.1)
      ⟨0, none, none, none, by rw [List.take_zero, show worthP [] = 0 from rfl, Int.sub_zero]; rfl, rfl, fun q hq => by have := (hgs q hq).1; omega⟩ (fun i σ H' _ h => by obtain ⟨_, _, _, _, _, rfl, _⟩ := h; exact .of ha) ?_ ?_⟩
    · rintro i x σ H' hx ⟨last, y6, y7, y8, rfl, rfl, hlast⟩
      obtain ⟨p, t2, h1, rfl, h3⟩ := Prs.get hp hx
      have hpg := hgs p (List.mem_of_getElem? h1)
      obtain ⟨c, hc, hcle⟩ := hpg.2.2.2
      rw [drop_at h1] at hlast
      have hl1 := hlast p List.mem_cons_self
      have hri' : (p :: gs.drop (i + 1)).Pairwise fun p q => p.1 < q.1 := by
        rw [← drop_at h1]
        exact hri.sublist (List.drop_sublist ..)
      refine ⟨_, rfl, _, _, _, _, true, rfl, .ty "tuple", .base (.tup h3), kit_ty (by decide +kernel), _, rfl, iteF ?_⟩
      refine ⟨_, rfl, t2, _, rfl, .inr (.of h3), rfl, _, rfl, iteVN (fun z => absurd rfl z) (fun _ => ?_)⟩
      refine ⟨_, rfl, t2, _, 0, .int p.1, rfl, rfl, .of h3, rfl, p.1, rfl, true, rfl, iteF ?_⟩
      refine ⟨_, rfl, t2, _, 1, .int p.2, rfl, rfl, .of h3, rfl, p.2, rfl, true, rfl, iteF ?_⟩
      refine ⟨_, rfl, t2, _, 0, .int p.1, rfl, rfl, .of h3, rfl, _, rfl, _, _, rfl, rfl, _, rfl, iteD (fun z => absurd hl1 (by omega)) (fun _ => ?_)⟩
      refine ⟨_, rfl, t2, _, 1, .int p.2, rfl, rfl, .of h3, rfl, _, _, rfl, rfl, _, rfl, iteD (fun z => absurd hpg.2.2.1 (by omega)) (fun _ => ?_)⟩
      -- how many lie there
      refine ⟨_, rfl, t, rfl, ⟨ts, hS⟩, for_list (xs := ts) (fun j σ H9 => ∃ y8, σ = [some (.ref a), some (.ref t), some (.int d), some (.int (d - worthP (gs.take i))), some (.int (manyP (gs.take i))), some (.int last), some (.ref t2), some (.int (lookL p.1 (ps.take j))), y8] ∧ H9 = H')
        ⟨_, rfl, rfl⟩ (fun j σ H9 _ h => by obtain ⟨_, _, rfl⟩ := h; exact hS) ?_ ?_⟩
      · rintro j x σ H9 hxj ⟨y8, rfl, rfl⟩
        obtain ⟨o, t3, k1, rfl, k3⟩ := Prs.get ht hxj
        refine ⟨_, rfl, t3, _, 0, .int o.1, rfl, rfl, .of k3, rfl, _, rfl, t2, _, 0, .int p.1, rfl, rfl, .of h3, rfl, rfl, _, rfl, iteVI (fun e => ?_) (fun e => ?_)⟩
        · refine ⟨_, rfl, t3, _, 1, .int o.2, rfl, rfl, .of k3, rfl, some (.ref t3), ?_, rfl⟩
          rw [take_snoc k1, lookL_snoc, if_pos e]
          rfl
        · refine ⟨some (.ref t3), ?_, rfl⟩
          rw [take_snoc k1, lookL_snoc, if_neg e]
          rfl
      · rintro σ H9 ⟨y8, rfl, rfl⟩
        have tk : ps.take ts.length = ps := List.take_of_length_le (by omega)
        rw [tk, show lookL p.1 ps = c from lookL_in 0 nd hc]
        refine ⟨_, rfl, t2, _, 1, .int p.2, rfl, rfl, .of h3, rfl, _, rfl, _, _, rfl, rfl, _, rfl, iteD (fun z => absurd hcle (by omega)) (fun _ => ?_)⟩
        refine ⟨_, rfl, t2, _, 0, .int p.1, rfl, rfl, .of h3, rfl, ?_⟩
        refine ⟨_, rfl, _, rfl, t2, _, 0, .int p.1, rfl, rfl, .of h3, rfl, _, rfl, t2, _, 1, .int p.2, rfl, rfl, .of h3, rfl, _, _, rfl, rfl, .inl ⟨by omega, by omega⟩, _, _, rfl, rfl, ?_⟩
        refine ⟨_, rfl, _, rfl, t2, _, 1, .int p.2, rfl, rfl, .of h3, rfl, _, _, rfl, rfl, p.1, some (.ref t2), some (.int c), y8, ?_, rfl, fun q hq => (List.pairwise_cons.mp hri').1 q hq⟩
        rw [take_snoc h1, worthP_app, manyP_app]
        show _ = [_, _, _, some (V.int (d - (worthP (gs.take i) + (p.1 * p.2 + 0)))), some (V.int (manyP (gs.take i) + (p.2 + 0))), _, _, _, _]
        rw [show d - (worthP (gs.take i) + (p.1 * p.2 + 0)) = d - worthP (gs.take i) - p.1 * p.2 by omega, show manyP (gs.take i) + (p.2 + 0) = manyP (gs.take i) + p.2 by omega]
        rfl
    · rintro σ H' ⟨last, y6, y7, y8, rfl, rfl, hlast⟩
      rw [List.take_of_length_le (by rw [hxl]; exact Nat.le_refl _)]
      refine ⟨_, rfl, rfl, _, rfl, iteVN (fun z => absurd (by omega) z) (fun _ => ?_)⟩
      exact ⟨_, rfl, q⟩
/-! ### the way, walked by the law -/
def spExact (K : PySem.W.Frag) : Sp := fun vs H Q _ => ∃ (R t : Addr) (as : List Addr) (ps : List (Int × Int)) (n : Nat), vs = [.ref R, .ref t, .int (n : Int)] ∧ H R = some (.lst (as.map V.ref)) ∧ RowsAt H as (rowsOf (row0 n) ps) ∧ Till K H t ps ∧ n ≤ 1000 ∧ ps.length ≤ 1000 ∧
  (∀ p ∈ ps, 1 ≤ p.1 ∧ p.1 ≤ 1000 ∧ 0 ≤ p.2) ∧ rAt (lastRow (row0 n) ps) n ≠ none ∧
  ∀ p xs H2, Ex H H2 → H p = none → H2 p = some (.lst xs) → Prs H2 xs (given (row0 n) ps ps.length n) → Q (.ref p) H2
theorem ok_exact (T : Tx K mg) : FnOk P w K mg base CX0 1 T.a__law_exact T.d__law_exact P__law_exact (spExact K) := by
  refine T.f__law_exact.ok sc__law_exact (fun vs H Q E h => ?_) (fun cdv A outer s H vs Q E hr h => ?_)
  · obtain ⟨R, t, as, ps, n, rfl, _⟩ := h
    rfl
  · obtain ⟨R, t, as, ps, n, rfl, eR, hrows, ⟨xs, hS, hp⟩, hn, hl, hv, hc, q⟩ := h
    refine ⟨_, (pss_cons (ps_set (i := 3) sc__law_exact.nd rfl (.inl rfl) (pe_lst pa_nil))
    (pss_cons (ps_set (i := 4) sc__law_exact.nd rfl (.inl rfl) (pv 2))
    (pss_cons (ps_for PassesOwn.never rfl (pi_range3 (by rfl) T.m_range (pa_cons (pe_callB call_len_seq (by rfl) T.m_len (by decide +kernel) (pa_cons (pv 1) pa_nil)) (pa_cons pe_int (pa_cons (pe_un un_neg pe_int) pa_nil)))) (pg_name (i := 5) sc__law_exact.nd rfl (.inl rfl))
      (pss_cons (ps_set (i := 6) sc__law_exact.nd rfl (.inl rfl) (pe_ix ix_tup (pe_ix ix_list (pv 1) (pe_op op_sub (pv 5) pe_int) (fun _ _ => rfl)) pe_int (fun _ _ => rfl)))
      (pss_cons (ps_set (i := 7) sc__law_exact.nd rfl (.inl rfl) (pe_ix ix_list (pe_ix ix_list (pv 0) (pv 5) (fun _ _ => rfl)) (pv 4) (fun _ _ => rfl)))
      (pss_cons (ps_set (i := 8) sc__law_exact.nd rfl (.inl rfl) (pe_callB (call_min2 rfl) (by rfl) T.m_min (by decide +kernel) (pa_cons (pe_ix ix_tup (pe_ix ix_list (pv 1) (pe_op op_sub (pv 5) pe_int) (fun _ _ => rfl)) pe_int (fun _ _ => rfl)) (pa_cons (pe_op op_fdiv (pv 4) (pv 6)) pa_nil))))
      (pss_cons (ps_while PassesOwn.never (pt_cmpR op_ne (pe_ix ix_list (pe_ix ix_list (pv 0) (pe_op op_sub (pv 5) pe_int) (fun _ _ => rfl)) (pe_op op_sub (pv 4) (pe_op op_mul (pv 8) (pv 6))) (fun _ _ => rfl)) (pe_op op_sub (pv 7) (pv 8)) (nomark _))
        (pss_one (ps_set (i := 8) sc__law_exact.nd rfl (.inl rfl) (pe_op op_sub (pv 8) pe_int))))
      (Evl.pss_cut (ps_if (pt_cmpR op_gt (pv 8) pe_int (nomark _))
        (pss_one (ps_expr (pe_bm PySem.F.plainAttrs_list PySem.F.slot_list_append PySem.F.type_list_append mt_append (pv 3) (pa_cons (pe_tup (pa_cons (pv 6) (pa_cons (pv 8) pa_nil))) pa_nil))))
        pss_nil)
      (pss_one (ps_set (i := 4) sc__law_exact.nd rfl (.inl rfl) (pe_op op_sub (pv 4) (pe_op op_mul (pv 8) (pv 6)))))))))))
    (pss_cons (ps_expr (pe_bm0 PySem.F.plainAttrs_list PySem.F.slot_list_reverse PySem.F.type_list_reverse mt_reverse (pv 3)))
    (pss_one (ps_ret (pv 3))))))), ?_⟩
    have hpl := hp.len
    have hll : ∀ j, (lastRow (row0 n) (ps.take j)).length = n + 1 := fun j => by rw [lastRow_len, row0_len]
    obtain ⟨m, hm⟩ := Option.ne_none_iff_exists'.mp hc
    refine ⟨Nat.zero_le _, fun ch hch => ?_⟩
    refine ⟨_, rfl, ?_⟩
    refine ⟨_, rfl, t, xs, rfl, .inl ((Ex.nw hch).seq hS), ?_⟩
    refine ⟨_, rfl, _, _, _, xs.length, rfl, .neg (by omega) (by omega) (by decide) (by decide), ?_⟩
    refine for_rangeC (fun i σ H' => ∃ (k left : Nat) (x : Int) (zs : List V) (acc : List (Int × Int)) (y5 y6 y7 y8 : Option V), k + i = ps.length ∧ σ = [some (.ref R), some (.ref t), some (.int (n : Int)), some (.ref ch), some (.int (left : Int)), y5, y6, y7, y8] ∧
      Ex H H' ∧ H' ch = some (.lst zs) ∧ Prs H' zs acc ∧ left ≤ n ∧ rAt (lastRow (row0 n) (ps.take k)) left = some x ∧ given (row0 n) ps ps.length n = given (row0 n) ps k left ++ acc.reverse ∧ acc.length ≤ i)
      ⟨ps.length, n, m, [], [], none, none, none, none, rfl, rfl, Ex.nw hch, upd_same, .nil, Nat.le_refl _, by rw [List.take_length]; exact hm, by simp, Nat.le_refl _⟩ ?_ ?_
    · rintro i σ H' hi ⟨k, left, x, zs, acc, y5, y6, y7, y8, hki, rfl, ex, ech, hacc, hle, hx, hgv, hal⟩
      obtain ⟨j, rfl⟩ : ∃ j, k = j + 1 := ⟨k - 1, by omega⟩
      have ej : (xs.length : Int) + (i : Int) * -1 = ((j + 1 : Nat) : Int) := by omega
      have ej1 : ((j + 1 : Nat) : Int) - 1 = (j : Int) := by omega
      rw [ej]
      have hj : j < ps.length := by omega
      obtain ⟨t2, hx0, h3⟩ := Prs.getL hp (List.getElem?_eq_getElem hj)
      have hpj := List.getElem?_eq_getElem hj
      have hpv := hv _ (List.getElem_mem hj)
      generalize ps[j] = p at hpj h3 hpv
      have h3' := ex _ _ h3
      have hrows' := hrows.ex ex
      have eR' := ex _ _ eR
      obtain ⟨b, ib, _, eb⟩ := at_row hrows' (i := ((j + 1 : Nat) : Int) - 1) (k := j) ej1 (rowsOf_at _ _ j (by omega))
      obtain ⟨b1, ib1, _, eb1⟩ := at_row hrows' (i := ((j + 1 : Nat) : Int)) (k := j + 1) rfl (rowsOf_at _ _ (j + 1) (by omega))
      have it : atI xs (((j + 1 : Nat) : Int) - 1) = some (.ref t2) := at_of ej1 hx0
      -- the value, the count of pieces told
      refine ⟨_, rfl, _, rfl, _, _, rfl, rfl, t, xs, _, _, rfl, rfl, ex.seq hS, it, t2, _, 0, .int p.1, rfl, rfl, .of h3', rfl, ?_⟩
      refine ⟨_, rfl, _, rfl, R, _, _, .ref b1, rfl, rfl, .of eR', ib1, _, rfl, b1, _, _, _, rfl, rfl, .of eb1, at_of rfl (vO_at (by rw [hll]; omega)), ?_⟩
      rw [hx]
      obtain ⟨g1, g2, g3⟩ := step_ok hpj hpv.1 (by rw [row0_len]; omega) hx rfl
      have gs := given_succ (row0 n) ps j left hpj (g := pick (lastRow (row0 n) (ps.take j)) p.1.toNat p.2.toNat left x) (by rw [hx]; rfl)
      have hb := back_one (r := lastRow (row0 n) (ps.take j)) (v := p.1.toNat) (c := p.2.toNat) (d := left) (m := x) (by omega) (by
        rw [← hx, take_snoc hpj, lastRow_snoc]
        exact (rAt_map (by rw [hll]; omega)).symm)
      generalize hr0 : lastRow (row0 n) (ps.take j) = r at g1 g2 g3 gs hb eb
      have hrl : r.length = n + 1 := by rw [← hr0]; exact hll j
      obtain ⟨v, hv0⟩ : ∃ v : Nat, p.1 = (v : Int) := ⟨p.1.toNat, (Int.toNat_of_nonneg (by omega)).symm⟩
      obtain ⟨c, hc0⟩ : ∃ c : Nat, p.2 = (c : Int) := ⟨p.2.toNat, (Int.toNat_of_nonneg (by omega)).symm⟩
      rw [hv0, hc0, Int.toNat_natCast, Int.toNat_natCast] at g1 g2 g3 gs hb
      rw [hv0, hc0] at h3'
      rw [hv0]
      have hv1 : 1 ≤ v := by omega
      obtain ⟨N, hN, hNN⟩ : ∃ N : Nat, (if (left : Int) / (v : Int) < (c : Int) then (left : Int) / (v : Int) else (c : Int)) = (N : Int) ∧ N = min c (left / v) := by
        rw [← Int.natCast_ediv]
        by_cases h : ((left / v : Nat) : Int) < (c : Int)
        · exact ⟨left / v, if_pos h, by omega⟩
        · exact ⟨c, if_neg h, by omega⟩
      have hNv : N * v ≤ left := by
        rw [hNN]
        exact Nat.le_trans (Nat.mul_le_mul_right _ (Nat.min_le_right ..)) (Nat.div_mul_le_self ..)
      unfold pick at g1 g2 g3 gs
      rw [← hNN] at g1 g2 g3 gs hb
      refine ⟨_, rfl, _, rfl, _, _, rfl, rfl, t, xs, _, _, rfl, rfl, ex.seq hS, it, t2, _, 1, .int (c : Int), rfl, rfl, .of h3', rfl, _, rfl, _, rfl, _, _, rfl, rfl, ⟨by omega, by omega⟩, _, _, rfl, ?_⟩
      rw [hN]
      refine ⟨fun m σ H9 => σ = [some (.ref R), some (.ref t), some (.int (n : Int)), some (.ref ch), some (.int (left : Int)), some (.int ((j + 1 : Nat) : Int)), some (.int (v : Int)), some (.int x), some (.int (m : Int))] ∧ H9 = H' ∧ m ≤ N ∧ pickUp r v left x N = pickUp r v left x m, ⟨N, rfl, rfl, Nat.le_refl _, rfl⟩, ?_⟩
      rintro m σ H9 ⟨rfl, rfl, hmN, hpk⟩
      have hmv : m * v ≤ left := Nat.le_trans (Nat.mul_le_mul_right _ hmN) hNv
      have im : atI (r.map vO) ((left : Int) - (m : Int) * (v : Int)) = some (vO (rAt r (left - m * v))) := at_of (j := left - m * v) (by
        rw [← Int.natCast_mul]
        omega) (vO_at (by omega))
      refine ⟨_, rfl, _, rfl, _, _, rfl, rfl, R, _, _, .ref b, rfl, rfl, .of eR', ib, ?_⟩
      refine ⟨_, rfl, _, rfl, _, rfl, _, _, rfl, rfl, .inr ⟨by omega, by omega⟩, _, _, rfl, rfl, b, _, _, _, rfl, rfl, .of eb, im, ?_⟩
      refine ⟨_, rfl, _, rfl, _, _, rfl, rfl, vO_scal _ _, _, rfl, iteDN (fun e => ?_) (fun e => ?_)⟩
      · -- one less
        have e' : ¬ rAt r (left - m * v) = some (x - (m : Int)) := fun z => e (vO_int.mpr z)
        have hm0 : m ≠ 0 := by
          rintro rfl
          rw [show pickUp r v left x 0 = 0 from rfl] at hpk
          rw [hpk] at g3
          exact e' g3
        obtain ⟨m', rfl⟩ : ∃ m', m = m' + 1 := ⟨m - 1, by omega⟩
        refine ⟨_, fun σ' H' z => ⟨m', Nat.lt_succ_self _, z⟩, ?_⟩
        refine ⟨_, rfl, _, _, rfl, rfl, ?_, rfl, by omega, ?_⟩
        · show [_, _, _, _, _, _, _, _, some (V.int (((m' + 1 : Nat) : Int) - 1))] = _
          rw [show ((m' + 1 : Nat) : Int) - 1 = (m' : Int) by omega]
        · rw [hpk]
          exact if_neg e'
      · have e' := vO_int.mp e
        have hpm : pickUp r v left x N = m := by
          rw [hpk]
          cases m with
          | zero => rfl
          | succ m' => exact if_pos e'
        rw [hpm] at g1 g2 g3 gs
        have el : (left : Int) - (m : Int) * (v : Int) = ((left - m * v : Nat) : Int) := by
          rw [← Int.natCast_mul]
          omega
        refine ⟨fun σ' H2 => ∃ (zs : List V) (acc : List (Int × Int)), σ' = [some (.ref R), some (.ref t), some (.int (n : Int)), some (.ref ch), some (.int (left : Int)), some (.int ((j + 1 : Nat) : Int)), some (.int (v : Int)), some (.int x), some (.int (m : Int))] ∧ Ex H H2 ∧ H2 ch = some (.lst zs) ∧ Prs H2 zs acc ∧
          given (row0 n) ps ps.length n = given (row0 n) ps j (left - m * v) ++ acc.reverse ∧ acc.length ≤ i + 1, ?_, ?_⟩
        · refine ⟨_, rfl, _, _, rfl, rfl, _, rfl, iteD (fun z => ?_) (fun z => ?_)⟩
          · have z' : 0 < m := by omega
            rw [if_pos z'] at gs
            refine ⟨_, rfl, .inl ⟨rfl, zs, .of ech⟩, _, rfl, _, rfl, len63 (by show 2 ≤ _; decide), fun t4 ht4 => ?_⟩
            have nct : ch ≠ t4 := ne_of_none ech ht4
            have ech' : (upd H9 t4 (.tup [.int (v : Int), .int (m : Int)])) ch = some (.lst zs) := by rw [upd_ne nct]; exact ech
            refine ⟨ch, zs, _, rfl, rfl, ech', len63' (by rw [hacc.len]; omega), zs ++ [.ref t4], acc ++ [((v : Int), (m : Int))], rfl, Ex.mu (ex.tr (Ex.nw ht4)) hch, upd_same, ?_, ?_, by rw [List.length_append]; show _ + 1 ≤ _; omega⟩
            · refine Prs.up (by intro ys y; rw [ech'] at y; cases y) ?_
              exact Prs.snoc (hacc.ex (Ex.nw ht4)) ⟨t4, rfl, upd_same⟩
            · rw [hgv, gs, List.reverse_append, List.append_assoc]
              rfl
          · have z' : m = 0 := by omega
            refine ⟨zs, acc, rfl, ex, ech, hacc, ?_, by omega⟩
            subst z'
            rw [if_neg (Nat.lt_irrefl 0), List.append_nil] at gs
            rw [hgv, gs]
        rintro σ' H2 ⟨zs2, acc2, rfl, ex2, ech2, hacc2, hgv2, hal2⟩
        refine ⟨_, rfl, _, rfl, _, rfl, _, _, rfl, rfl, .inr ⟨by omega, by omega⟩, _, _, rfl, rfl, ?_⟩
        refine ⟨j, left - m * v, x - (m : Int), zs2, acc2, some (.int ((j + 1 : Nat) : Int)), some (.int (v : Int)), some (.int x), some (.int (m : Int)), by omega, by rw [← el]; rfl, ex2, ech2, hacc2, by omega, ?_, hgv2, hal2⟩
        rw [hr0]
        exact g3
    · rintro σ H' ⟨k, left, x, zs, acc, y5, y6, y7, y8, hki, rfl, ex, ech, hacc, hle, hx, hgv, hal⟩
      obtain rfl : k = 0 := by omega
      refine ⟨_, rfl, .inl ⟨rfl, zs, .of ech⟩, ch, zs, rfl, rfl, ech, ?_⟩
      refine ⟨_, rfl, q ch _ _ (Ex.mu ex hch) hch upd_same ?_⟩
      rw [hgv]
      exact (Prs.rev hacc).up (by intro ys y; rw [ech] at y; cases y)
def spWithin (K : PySem.W.Frag) : Sp := fun vs H Q _ => ∃ (t : Addr) (ps : List (Int × Int)) (n : Nat), vs = [.ref t, .int (n : Int)] ∧ Till K H t ps ∧ n ≤ 1000 ∧ ps.length ≤ 1000 ∧ (∀ p ∈ ps, 1 ≤ p.1 ∧ p.1 ≤ 1000 ∧ 0 ≤ p.2) ∧
  ∀ (k : Nat) H2, k ≤ 1000 → Ex H H2 → Q (.int (k : Int)) H2
theorem ok_within (T : Tx K mg) : FnOk P w K mg base CX0 1 T.a__law_within T.d__law_within P__law_within (spWithin K) := by
  refine T.f__law_within.ok sc__law_within (fun vs H Q E h => ?_) (fun cdv A outer s H vs Q E hr h => ?_)
  · obtain ⟨t, ps, n, rfl, _⟩ := h
    rfl
  · obtain ⟨t, ps, n, rfl, ⟨xs, hS, hp⟩, hn, hl, hv, q⟩ := h
    refine ⟨_, (pss_cons (ps_while PassesOwn.never (pt_cmpR op_gt (pe_callB (cr_sum rfl) (by rfl) T.m_sum (by decide +kernel) (pa_cons (pe_lc (own := [("_law_pair", 2)]) (g := gName 2) rfl sc__law_within.nd (pi_list (pv 0)) (blkOk_by (own := [("_law_pair", 2)]) (N := N__law_within) (sc := defScope s__law_within) (by decide +kernel)) (fun _ _ _ _ _ => pg_name (i := 2) sc__law_within.nd rfl (.inl rfl) (.inr rfl)) (fun _ _ _ _ _ => pts_nil) (fun _ _ _ _ _ => (pe_callB (call_min2 rfl) (by rfl) T.m_min (by decide +kernel) (pa_cons (pe_op op_mul (pe_ix (r := rIxT K) ix_tup (pv 2) pe_int (fun _ _ => rfl)) (pv 1)) (pa_cons (pe_op op_fdiv (pe_op op_mul (pv 1) (pv 1)) (pe_op op_mul pe_int (pe_ix (r := rIxT K) ix_tup (pv 2) pe_int (fun _ _ => rfl)))) pa_nil))))) pa_nil)) pe_int (nomark _))
      (pss_one (ps_set (i := 1) sc__law_within.nd rfl (.inr rfl) (pe_op op_fdiv (pv 1) pe_int))))
    (pss_one (ps_ret (pv 1)))), ?_⟩
    have hxl := hp.len
    refine ⟨fun m σ H' => ∃ y2, σ = [some (.ref t), some (.int (m : Int)), y2] ∧ m ≤ 1000 ∧ Ex H H', ⟨n, _, rfl, hn, Ex.rfl'⟩, ?_⟩
    rintro m σ H1 ⟨y2, rfl, hm, ex⟩
    have hp1 := hp.ex ex
    refine ⟨_, rfl, t, rfl, ⟨xs, ex.seq hS⟩, fun D hD => lc_list (xs := xs) (fun i H' => ∃ zs : List Int, Ex H1 H' ∧ H' D = some (.lst (zs.map V.int)) ∧ zs.length = i ∧ (m = 0 → zs.sum = 0)) ⟨[], Ex.nw hD, upd_same, rfl, fun _ => rfl⟩ (fun i H' _ h => by
      obtain ⟨_, e, _⟩ := h
      exact (ex.tr e).seq hS) ?_ ?_⟩
    · rintro i x H' hx ⟨zs, ex2, eD, hz, h0⟩
      obtain ⟨p, t2, h1, rfl, h3⟩ := Prs.get hp1 hx
      have hpv := hv _ (List.mem_of_getElem? h1)
      have hi : i < ps.length := (List.getElem?_eq_some_iff.mp h1).1
      refine ⟨rfl, t_yes ?_⟩
      refine ⟨_, rfl, t2, _, 1, .int p.2, rfl, rfl, .of (ex2 _ _ h3), rfl, _, rfl, _, _, rfl, rfl, .inr ⟨by omega, by omega⟩, ?_⟩
      refine ⟨_, rfl, _, rfl, _, _, rfl, rfl, .inr ⟨by omega, by omega⟩, ?_⟩
      refine ⟨_, rfl, t2, _, 0, .int p.1, rfl, rfl, .of (ex2 _ _ h3), rfl, _, _, rfl, rfl, .inl ⟨by decide, by decide⟩, _, _, rfl, rfl, ⟨by omega, by omega⟩, _, _, rfl, ?_⟩
      refine ⟨_, eD, len63' (by rw [List.length_map]; omega), zs ++ [_], Ex.mu ex2 hD, by rw [upd_same, List.map_append]; rfl, by rw [List.length_append, hz]; rfl, fun hm0 => ?_⟩
      rw [List.sum_append, h0 hm0]
      subst hm0
      simp
    · rintro H' ⟨zs, ex2, eD, hz, h0⟩
      refine ⟨D, zs, rfl, .of eD, ?_⟩
      repeat (first | refine ⟨_, rfl, ?_⟩ | refine ⟨(by show (0 : Int) < _; decide), ?_⟩ | refine ⟨⟨by decide, by decide⟩, ?_⟩ | refine ⟨.inr ⟨by decide, by decide⟩, ?_⟩ | refine ⟨.inl ⟨by decide, by decide⟩, ?_⟩ | refine ⟨⟨by decide, by decide, by decide⟩, ?_⟩ | refine ⟨_, _, rfl, rfl, ?_⟩ | refine ⟨rfl, _, rfl, ?_⟩)
      first | refine iteVI (fun e => ?_) (fun e => ?_) | refine iteVN (fun e => ?_) (fun e => ?_) | refine iteD (fun e => ?_) (fun e => ?_) | refine iteDN (fun e => ?_) (fun e => ?_) | refine iteB (fun e => ?_) (fun e => ?_)
      · refine ⟨_, fun σ' H' z => ⟨m / 2, ?_, z⟩, ?_⟩
        · have hm0 : m ≠ 0 := fun z => by
            have := h0 z
            omega
          omega
        · repeat (first | refine ⟨_, rfl, ?_⟩ | refine ⟨(by show (0 : Int) < _; decide), ?_⟩ | refine ⟨⟨by decide, by decide⟩, ?_⟩ | refine ⟨.inr ⟨by decide, by decide⟩, ?_⟩ | refine ⟨.inl ⟨by decide, by decide⟩, ?_⟩ | refine ⟨⟨by decide, by decide, by decide⟩, ?_⟩ | refine ⟨_, _, rfl, rfl, ?_⟩ | refine ⟨rfl, _, rfl, ?_⟩)
          exact ⟨by omega, ex.tr ex2⟩
      · exact ⟨_, rfl, q m H' hm (ex.tr ex2)⟩
/-! ### the law -/
/-! ### what is given, looked at -/
theorem sum_own {v : Int} : ∀ {gs : List (Int × Int)}, (gs.map (·.1)).Nodup → ((gs.filter fun q => decide (q.1 = v)).map fun q => q.2).sum = ownOf gs v
  | [], _ => rfl
  | p :: gs, nd => by
    rw [List.map_cons, List.nodup_cons] at nd
    rw [ownOf_cons]
    by_cases e : p.1 = v
    · rw [if_pos e, List.filter_cons_of_pos (by simpa using e), List.map_cons, List.sum_cons, List.filter_eq_nil_iff.mpr fun q hq => by
        have : q.1 ≠ v := fun z => nd.1 (by rw [e, ← z]; exact List.mem_map.mpr ⟨q, hq, rfl⟩)
        simpa using this]
      simp
    · rw [if_neg e, List.filter_cons_of_neg (by simpa using e)]
      exact sum_own nd.2
def spGiven (K : PySem.W.Frag) : Sp := fun vs H Q _ => ∃ (p b g t u : Addr) (xs ys : List V) (ps : List (Int × Int)) (c : Int) (vals : List Int) (m : Int), vs = [.ref p, .ref t, .ref u, .int (sumP c vals : Int)] ∧ H p = some (.tup [.ref b, .ref g]) ∧ H b = some (.lst xs) ∧ H g = some (.lst ys) ∧
  Prs H xs (behP ps c vals) ∧ Prs H ys (gsP ps c vals) ∧ Till K H t ps ∧ Tl ps ∧ SqL K H u (vals.map V.int) ∧ dueP ps c vals = "" ∧ cellP ps c vals = some m ∧ Ret (.bl true) H Q
theorem ok_given (T : Tx K mg) : FnOk P w K mg base CX0 4 T.a__law_given T.d__law_given P__law_given (spGiven K) := by
  have G__law_full := ok_full (P := P) (w := w) (base := base) T
  have G__law_walked := ok_walked (P := P) (w := w) (base := base) T
  have G__law_change := ok_change (P := P) (w := w) (base := base) T
  have G__law_exact := ok_exact (P := P) (w := w) (base := base) T
  have G__law_alike := ok_alike (P := P) (w := w) (base := base) T
  have G_table := ok_table (P := P) (w := w) (base := base) T
  refine T.f__law_given.ok sc__law_given (fun vs H Q E h => ?_) (fun cdv A outer s H vs Q E hr h => ?_)
  · obtain ⟨p, b, g, t, u, xs, ys, ps, c, vals, m, rfl, _⟩ := h
    rfl
  · obtain ⟨p, b, g, t, u, xs, ys, ps, c, vals, m, rfl, ep, eb, eg, hxs, hys, hTt, hT, hSu, hd, hm, q⟩ := h
    refine ⟨_, (pss_cons (ps_if (PW.pt (pw_or (pt_not (pt_val (pe_callB call_isi (by rfl) T.m_isinstance (by decide +kernel) (pa_cons (pv 0) (pa_cons (pe_bltn (v := .ty "tuple") (by rfl) T.m_tuple (by decide +kernel) rfl) pa_nil))))) (pw_or1 (pt_cmpR op_ne (pe_callB call_len_seq (by rfl) T.m_len (by decide +kernel) (pa_cons (pv 0) pa_nil)) pe_int (nomark _)))))
      (pss_one (ps_ret pe_bl))
      pss_nil)
    (pss_cons (ps_set (i := 4) sc__law_given.nd rfl (.inl rfl) (pe_call G__law_full (hr.mono (by decide)) (by rfl) T.g__law_full T.f__law_full.kp T.p__law_full .nil pass0 (pa_cons (pv 1) (pa_cons (pv 2) pa_nil))))
    (pss_cons (ps_set (i := 5) sc__law_given.nd rfl (.inl rfl) (pe_call G_table (hr.mono (by decide)) (by rfl) T.g_table T.f_table.kp T.p_table .nil passL (pa_cons (pe_callTy call_list_of (by rfl) T.m_list (by decide +kernel) (pa_cons (pv 4) pa_nil)) (pa_cons (pv 3) pa_nil))))
    (pss_cons (ps_if (pt_not (pt_val (pe_call G__law_walked (hr.mono (by decide)) (by rfl) T.g__law_walked T.f__law_walked.kp T.p__law_walked .nil pass0 (pa_cons (pv 5) (pa_cons (pv 4) (pa_cons (pv 3) pa_nil))))))
      (pss_one (ps_ret pe_bl))
      pss_nil)
    (pss_cons (ps_if (pt_cmpR op_ne (pe_call G__law_change (hr.mono (by decide)) (by rfl) T.g__law_change T.f__law_change.kp T.p__law_change .nil pass0 (pa_cons (pe_ix ix_tup (pv 0) pe_int (fun _ _ => rfl)) (pa_cons (pv 4) (pa_cons (pv 3) pa_nil)))) (pe_ix ix_list (pe_ix ix_list (pv 5) (pe_callB call_len_seq (by rfl) T.m_len (by decide +kernel) (pa_cons (pv 4) pa_nil)) (fun _ _ => rfl)) (pv 3) (fun _ _ => rfl)) (nomark _))
      (pss_one (ps_ret pe_bl))
      pss_nil)
    (pss_cons (ps_if (PW.pt (pw_or (pt_cmpR op_isN (pe_ix ix_list (pe_ix ix_list (pv 5) (pe_callB call_len_seq (by rfl) T.m_len (by decide +kernel) (pa_cons (pv 4) pa_nil)) (fun _ _ => rfl)) (pv 3) (fun _ _ => rfl)) pe_non (nomark _)) (pw_or1 (pt_cmpR (op_neD hr.units) (pe_ix ix_tup (pv 0) pe_int (fun _ _ => rfl)) (pe_call G__law_exact (hr.mono (by decide)) (by rfl) T.g__law_exact T.f__law_exact.kp T.p__law_exact .nil pass0 (pa_cons (pv 5) (pa_cons (pv 4) (pa_cons (pv 3) pa_nil)))) (nomark _)))))
      (pss_one (ps_ret pe_bl))
      pss_nil)
    (pss_cons (ps_set (i := 6) sc__law_given.nd rfl (.inl rfl) (pe_lst pa_nil))
    (pss_cons (ps_for PassesOwn.never rfl (pi_list (pv 4)) (pg_name (i := 7) sc__law_given.nd rfl (.inr rfl))
      (pss_cons (ps_set (i := 8) sc__law_given.nd rfl (.inl rfl) (pe_callB (cr_sum rfl) (by rfl) T.m_sum (by decide +kernel) (pa_cons (pe_lc (own := [("_law_one", 9)]) (g := gName 9) rfl sc__law_given.nd (pi_list (pe_ix ix_tup (pv 0) pe_int (fun _ _ => rfl))) (blkOk_by (own := [("_law_one", 9)]) (N := N__law_given) (sc := defScope s__law_given) (by decide +kernel)) (fun _ _ _ _ _ => pg_name (i := 9) sc__law_given.nd rfl (.inl rfl) (.inr rfl)) (fun _ _ _ _ _ => (pts_one (pt_cmpR op_eq (pe_ix (r := rIxT K) ix_tup (pv 9) pe_int (fun _ _ => rfl)) (pe_ix (r := rIxT K) ix_tup (pv 7) pe_int (fun _ _ => rfl)) (nomark _)))) (fun _ _ _ _ _ => (pe_ix (r := rIxT K) ix_tup (pv 9) pe_int (fun _ _ => rfl)))) pa_nil)))
      (pss_one (ps_expr (pe_bm PySem.F.plainAttrs_list PySem.F.slot_list_append PySem.F.type_list_append mt_append (pv 6) (pa_cons (pe_tup (pa_cons (pe_ix ix_tup (pv 7) pe_int (fun _ _ => rfl)) (pa_cons (pe_op op_sub (pe_ix ix_tup (pv 7) pe_int (fun _ _ => rfl)) (pv 8)) pa_nil))) pa_nil))))))
    (pss_one (ps_ret (pe_call G__law_alike (hr.mono (by decide)) (by rfl) T.g__law_alike T.f__law_alike.kp T.p__law_alike .nil pass0 (pa_cons (pe_ix ix_tup (pv 0) pe_int (fun _ _ => rfl)) (pa_cons (pv 6) pa_nil))))))))))))), ?_⟩
    obtain ⟨_, _, hw, hs0, hs1⟩ := dueP_ok hd
    have hTf := walk_tl (r := vals) (pre := []) (by rw [fullP_nil]; exact hT) hw
    rw [List.nil_append] at hTf
    obtain ⟨w1, w2, w3, w4, w5⟩ := gsP_ok hT hd hm
    have hfit : ∀ p ∈ fullP ps vals, 1 ≤ p.1 ∧ p.1 ≤ 1000 ∧ 0 ≤ p.2 := fun p hp => ⟨(hTf.val p hp).1, (hTf.val p hp).2, (hTf.cnt p hp).1⟩
    have hfl10 := hTf.len
    have hgv : gsP ps c vals = given (row0 (sumP c vals)) (fullP ps vals) (fullP ps vals).length (sumP c vals) := rfl
    have hn : sumP c vals ≤ 1000 := by
      unfold sumP
      omega
    have hcell : rAt (lastRow (row0 (sumP c vals)) (fullP ps vals)) (sumP c vals) = some m := hm
    unfold behP at hxs
    generalize gsP ps c vals = gs at hxs hys w1 w2 w3 w4 w5 hgv
    generalize sumP c vals = n at w1 hgv hn hcell
    -- a pair
    refine ⟨_, rfl, _, _, _, _, true, rfl, .ty "tuple", .base (.tup ep), kit_ty (by decide +kernel), _, rfl, iteF ?_⟩
    refine ⟨_, rfl, p, _, rfl, .inr (.of ep), rfl, _, rfl, iteVN (fun z => absurd rfl z) (fun _ => ?_)⟩
    refine ⟨_, rfl, _, rfl, t, u, ps, vals, rfl, hTt, hSu, by have := hT.len; omega, fun f fs H1 e1 hf ef hfs => ?_⟩
    generalize fullP ps vals = full at hxs w3 hTf hgv hcell hfit hfs hfl10
    have hfl := hfs.len
    -- the table
    refine ⟨_, rfl, f, fs, rfl, .inl (.of ef), fun f2 hf2 => ?_⟩
    (generalize hh : upd H1 f2 _ = H2; have e2 : Ex H1 H2 := (by rw [← hh]; exact Ex.nw hf2); have c2 := (show H2 f2 = some _ by rw [← hh]; exact upd_same); clear hh)
    refine ⟨_, rfl, f2, full, (n : Int), rfl, ⟨fs, .of c2, hfs.ex e2⟩, by omega, hfit, fun _ => ?_, fun z => absurd ⟨by omega, by omega⟩ z⟩
    rw [Int.toNat_natCast]
    intro R as H3 e3 hfr hnd eR hrows
    have e23 := e2.tr e3
    have ef3 := e23 _ _ ef
    have hfs3 := hfs.ex e23
    refine ⟨_, rfl, _, rfl, _, rfl, R, f, as, full, n, rfl, eR, hrows, ⟨fs, .of ef3, hfs3⟩, hn, by omega, hfit, fun H4 e4 => ⟨true, rfl, iteF ?_⟩⟩
    have ex4 : Ex H H4 := (e1.tr e23).tr e4
    have ef4 := e4 _ _ ef3
    have hfs4 := hfs3.ex e4
    have eR4 := e4 _ _ eR
    have hrows4 := hrows.ex e4
    have ep4 := ex4 _ _ ep
    have eb4 := ex4 _ _ eb
    have eg4 := ex4 _ _ eg
    have hxs4 := hxs.ex ex4
    have hys4 := hys.ex ex4
    obtain ⟨z, iz, _, ez⟩ := at_row hrows4 (i := (fs.length : Int)) (k := full.length) (by omega) (rowsOf_at _ _ full.length (Nat.le_refl _))
    rw [List.take_length] at ez
    have hlz : (lastRow (row0 n) full).length = n + 1 := by rw [lastRow_len, row0_len]
    have inz : atI ((lastRow (row0 n) full).map vO) (n : Int) = some (vO (rAt (lastRow (row0 n) full) n)) := at_of rfl (vO_at (by omega))
    rw [hcell] at inz
    have nn : ¬ vO (some m) = V.non := fun y => nomatch y
    refine ⟨_, rfl, p, _, _, .ref g, rfl, rfl, .of ep4, rfl, _, rfl, _, rfl, ?_⟩
    refine ⟨g, f, (n : Int), ys, gs, full, rfl, eg4, hys4, ⟨fs, .of ef4, hfs4⟩, hTf.nd, w4, w3, w1, ?_⟩
    refine ⟨_, rfl, _, rfl, f, fs, rfl, .inl (.of ef4), R, _, _, .ref z, rfl, rfl, .of eR4, iz, _, rfl, z, _, _, _, rfl, rfl, .of ez, inz, rfl, _, rfl, iteDN (fun y => absurd (by rw [w2]; rfl) y) (fun _ => ?_)⟩
    refine ⟨_, rfl, _, rfl, f, fs, rfl, .inl (.of ef4), R, _, _, .ref z, rfl, rfl, .of eR4, iz, _, rfl, z, _, _, _, rfl, rfl, .of ez, inz, rfl, _, rfl, iteD (fun y => absurd y nn) (fun _ => ?_)⟩
    refine ⟨_, rfl, p, _, _, .ref g, rfl, rfl, .of ep4, rfl, _, rfl, _, rfl, _, rfl, R, f, as, full, n, rfl, eR4, hrows4, ⟨fs, .of ef4, hfs4⟩, hn, by omega, hfit, (by rw [hcell]; exact fun y => nomatch y), fun p2 xs2 H5 e5 hp2 ep2 hpr2 => ?_⟩
    have eg5 := e5 _ _ eg4
    have hys5 := hys4.ex e5
    refine ⟨_, _, till_dp (K := K) ⟨ys, .of eg5, hys5⟩, till_dp (K := K) ⟨xs2, .of ep2, hgv ▸ hpr2⟩, shaped_till gs, shaped_till gs, ?_⟩
    rw [eqv_of_shaped (shaped_till gs)]
    refine ⟨_, rfl, iteF ?_⟩
    have ep5 := e5 _ _ ep4
    have eb5 := e5 _ _ eb4
    have ef5 := e5 _ _ ef4
    have hfs5 := hfs4.ex e5
    have hxs5 := hxs4.ex e5
    have ex5 := ex4.tr e5
    have hgl := hys5.len
    -- the till behind
    refine ⟨Nat.zero_le _, fun bh hbh => ?_⟩
    refine ⟨_, rfl, f, rfl, ⟨fs, (Ex.nw hbh).seq (.of ef5)⟩, for_list (xs := fs) (fun i σ H' => ∃ (zs : List V) (y7 y8 y9 : Option V), σ = [some (.ref p), some (.ref t), some (.ref u), some (.int (n : Int)), some (.ref f), some (.ref R), some (.ref bh), y7, y8, y9] ∧ Ex H5 H' ∧ H' bh = some (.lst zs) ∧ zs.length = i ∧ Prs H' zs ((full.take i).map fun p => (p.1, p.2 - ownOf gs p.1))) ⟨[], _, _, _, rfl, Ex.nw hbh, upd_same, rfl, .nil⟩ (fun i σ H' _ h => by
      obtain ⟨_, _, _, _, _, e, _⟩ := h
      exact .of (e _ _ ef5)) ?_ ?_⟩
    · rintro i x σ H6 hx ⟨zs, y7, y8, y9, rfl, ex6, ebh, hzl, hzs⟩
      obtain ⟨q1, t2, h1, rfl, h3⟩ := Prs.get hfs5 hx
      have hi : i < full.length := (List.getElem?_eq_some_iff.mp h1).1
      have hbh0 : H5 bh = none := hbh
      refine ⟨_, rfl, p, _, _, .ref g, rfl, rfl, .of (ex6 _ _ ep5), rfl, g, rfl, ⟨ys, .of (ex6 _ _ eg5)⟩, fun D hD => lc_list (xs := ys) (fun k H' => Ex H6 H' ∧ H' D = some (.lst ((((gs.take k).filter fun q => decide (q.1 = q1.1)).map fun q => q.2).map V.int))) ⟨Ex.nw hD, upd_same⟩ (fun k H' _ h => .of (h.1 _ _ (ex6 _ _ eg5))) ?_ ?_⟩
      · rintro k y H7 hy ⟨ex7, eD⟩
        obtain ⟨q2, t3, k1, rfl, k3⟩ := Prs.get hys5 hy
        have k3' := ex7 _ _ (ex6 _ _ k3)
        have h3' := ex7 _ _ (ex6 _ _ h3)
        refine ⟨rfl, ?_⟩
        refine ⟨_, rfl, t3, _, 0, .int q2.1, rfl, rfl, .of k3', rfl, _, rfl, t2, _, 0, .int q1.1, rfl, rfl, .of h3', rfl, rfl, _, rfl, iteVI (fun e => ?_) (fun e => ?_)⟩
        · refine ⟨_, rfl, t3, _, 1, .int q2.2, rfl, rfl, .of k3', rfl, _, eD, len63' (by rw [List.length_map, List.length_map]; have := List.length_filter_le (fun q : Int × Int => decide (q.1 = q1.1)) (gs.take k); rw [List.length_take] at this; omega), Ex.mu ex7 hD, ?_⟩
          rw [upd_same, take_snoc k1, List.filter_append, show List.filter (fun q : Int × Int => decide (q.1 = q1.1)) [q2] = [q2] from List.filter_cons_of_pos (by simpa using e), List.map_append, List.map_append]
          rfl
        · refine ⟨ex7, ?_⟩
          rw [take_snoc k1, List.filter_append, show List.filter (fun q : Int × Int => decide (q.1 = q1.1)) [q2] = [] from List.filter_cons_of_neg (by simpa using e), List.append_nil]
          exact eD
      rintro H7 ⟨ex7, eD⟩
      rw [show gs.take ys.length = gs from List.take_of_length_le (by omega)] at eD
      refine ⟨D, _, rfl, .of eD, ?_⟩
      rw [sum_own (rising_nd w4)]
      have ebh7 := ex7 _ _ ebh
      have h3' := ex7 _ _ (ex6 _ _ h3)
      refine ⟨_, rfl, .inl ⟨rfl, _, .of ebh7⟩, _, rfl, t2, _, 0, .int q1.1, rfl, rfl, .of h3', rfl, _, rfl, t2, _, 1, .int q1.2, rfl, rfl, .of h3', rfl, _, rfl, _, _, rfl, rfl, len63 (by show 2 ≤ _; decide), fun t4 ht4 => ?_⟩
      have nbt : bh ≠ t4 := ne_of_none ebh7 ht4
      have ebh' : (upd H7 t4 (.tup [.int q1.1, .int (q1.2 - ownOf gs q1.1)])) bh = some (.lst zs) := by rw [upd_ne nbt]; exact ebh7
      refine ⟨bh, zs, _, rfl, rfl, ebh', len63' (by omega), ?_⟩
      refine ⟨zs ++ [.ref t4], _, _, _, rfl, Ex.mu ((ex6.tr ex7).tr (Ex.nw ht4)) hbh0, upd_same, by rw [List.length_append, hzl]; rfl, ?_⟩
      rw [take_snoc h1, List.map_append]
      refine Prs.up (by intro bs y; rw [ebh'] at y; cases y) ?_
      exact Prs.snoc ((hzs.ex ex7).ex (Ex.nw ht4)) ⟨t4, rfl, upd_same⟩
    · rintro σ H6 ⟨zs, y7, y8, y9, rfl, ex6, ebh, hzl, hzs⟩
      rw [List.take_of_length_le (by omega)] at hzs
      exact ⟨_, rfl, p, _, _, .ref b, rfl, rfl, .of (ex6 _ _ ep5), rfl, _, rfl, b, bh, xs, _, rfl, ex6 _ _ eb5, hxs5.ex ex6, ⟨zs, .of ebh, hzs⟩, q _ (ex5.tr ex6)⟩
/-! ### a price nearer to what is paid -/
def spNear (K : PySem.W.Frag) : Sp := fun vs H Q _ => ∃ (t u : Addr) (ps : List (Int × Int)) (c : Int) (vals : List Int), vs = [.ref t, .ref u, .int c] ∧ Till K H t ps ∧ Tl ps ∧ SqL K H u (vals.map V.int) ∧ ∀ c' : Int, Ret (.int c') H Q
theorem ok_near (T : Tx K mg) : FnOk P w K mg base CX0 2 T.a__law_near T.d__law_near P__law_near (spNear K) := by
  have G__law_full := ok_full (P := P) (w := w) (base := base) T
  have G__law_within := ok_within (P := P) (w := w) (base := base) T
  refine T.f__law_near.ok sc__law_near (fun vs H Q E h => ?_) (fun cdv A outer s H vs Q E hr h => ?_)
  · obtain ⟨t, u, ps, c, vals, rfl, _⟩ := h
    rfl
  · obtain ⟨t, u, ps, c, vals, rfl, hTt, hT, hSu, q⟩ := h
    refine ⟨_, (pss_cons (ps_set (i := 3) sc__law_near.nd rfl (.inl rfl) (pe_op op_sub (pe_callB (cr_sum rfl) (by rfl) T.m_sum (by decide +kernel) (pa_cons (pv 1) pa_nil)) (pv 2)))
    (pss_cons (ps_if (PW.pt (pw_or (pt_cmpR op_lt (pv 2) pe_int (nomark _)) (pw_or (pt_cmpR op_gt (pv 2) pe_int (nomark _)) (pw_or (pt_cmpR op_lt (pv 3) pe_int (nomark _)) (pw_or1 (pt_cmpR op_gt (pv 3) pe_int (nomark _)))))))
      (pss_one (ps_ret (pv 2)))
      pss_nil)
    (pss_one (ps_ret (pe_op op_sub (pe_callB (cr_sum rfl) (by rfl) T.m_sum (by decide +kernel) (pa_cons (pv 1) pa_nil)) (pe_call G__law_within (hr.mono (by decide)) (by rfl) T.g__law_within T.f__law_within.kp T.p__law_within .nil pass0 (pa_cons (pe_call G__law_full (hr.mono (by decide)) (by rfl) T.g__law_full T.f__law_full.kp T.p__law_full .nil pass0 (pa_cons (pv 0) (pa_cons (pv 1) pa_nil))) (pa_cons (pv 3) pa_nil)))))))), ?_⟩
    refine ⟨_, rfl, u, vals, rfl, hSu, _, rfl, _, _, rfl, rfl, ?_⟩
    have ret : ∀ c' : Int, Q (.int c') H := fun c' => q c' _ Ex.rfl'
    refine ⟨_, rfl, _, _, rfl, rfl, _, rfl, iteD (fun _ => iteT ⟨_, rfl, ret _⟩) (fun z1 => ?_)⟩
    have z1' : ¬ c < 0 := z1
    refine ⟨_, rfl, _, _, rfl, rfl, _, rfl, iteD (fun _ => iteT ⟨_, rfl, ret _⟩) (fun z2 => ?_)⟩
    have z2' : ¬ c > 1000 := z2
    refine ⟨_, rfl, _, _, rfl, rfl, _, rfl, iteD (fun _ => iteT ⟨_, rfl, ret _⟩) (fun z3 => ?_)⟩
    have z3' : ¬ vals.sum - c < 0 := z3
    refine ⟨_, rfl, _, _, rfl, rfl, _, rfl, iteD (fun _ => ⟨_, rfl, ret _⟩) (fun z4 => ?_)⟩
    have z4' : ¬ vals.sum - c > 1000 := z4
    obtain ⟨n, hn⟩ : ∃ n : Nat, vals.sum - c = (n : Int) := ⟨_, (Int.toNat_of_nonneg (by omega)).symm⟩
    refine ⟨_, rfl, u, vals, rfl, hSu, _, rfl, _, rfl, t, u, ps, vals, rfl, hTt, hSu, by have := hT.len; omega, fun f fs H1 e1 hf ef hfs => ?_⟩
    refine ⟨_, rfl, f, fullP ps vals, n, congrArg (fun z => [V.ref f, V.int z]) hn, ⟨fs, .of ef, hfs⟩, by omega, by rw [fullP_len]; have := hT.len; omega, fun p hp => ?_, fun k H2 hk e2 => ?_⟩
    · obtain ⟨r, hr, rfl⟩ := List.mem_map.mp hp
      have h1 := hT.val r hr
      have h2 := hT.cnt r hr
      exact ⟨h1.1, h1.2, by show 0 ≤ r.2 + _; omega⟩
    · exact ⟨_, _, rfl, rfl, q _ _ (e1.tr e2)⟩
--@split
/-! ### the law -/
theorem ints_dp {K : PySem.W.Frag} {H : Hp} : ∀ l : List Int, DpAll K H (l.map V.int) (l.map PyData.int)
  | [] => .nil
  | i :: l => .cons (.int i) (ints_dp l)
def twoV (ps : List (Int × Int)) (l : List Int) : PyData := .list [.list (ps.map dP), .list (l.map PyData.int)]
theorem shaped_twoV (ps : List (Int × Int)) (l : List Int) : SeqAt.shaped (twoV ps l) = true := by
  unfold SeqAt.shaped
  have h1 : PyData.canLay0 (twoV ps l) = true := by
    show (PyData.canLayAll0 (ps.map dP) && (PyData.canLayAll0 (l.map PyData.int) && true)) = true
    rw [canLay_dPs, canLay_ints]
    rfl
  have h2 : PyData.depth (twoV ps l) ≤ 64 := by
    have a := depth_dPs ps
    have b := depth_ints l
    simp only [twoV, PyData.depth, PyData.depthAll]
    omega
  rw [h1, decide_eq_true h2]
  rfl
def twoP (ps us : List (Int × Int)) : PyData := .list [.list (ps.map dP), .list (us.map dP)]
theorem shaped_twoP (ps us : List (Int × Int)) : SeqAt.shaped (twoP ps us) = true := by
  unfold SeqAt.shaped
  have h1 : PyData.canLay0 (twoP ps us) = true := by
    show (PyData.canLayAll0 (ps.map dP) && (PyData.canLayAll0 (us.map dP) && true)) = true
    rw [canLay_dPs, canLay_dPs]
    rfl
  have h2 : PyData.depth (twoP ps us) ≤ 64 := by
    have a := depth_dPs ps
    have b := depth_dPs us
    simp only [twoP, PyData.depth, PyData.depthAll]
    omega
  rw [h1, decide_eq_true h2]
  rfl
theorem twoV_dp {K : PySem.W.Frag} {H : Hp} {l a b : Addr} {xs : List V} {ps : List (Int × Int)} {vals : List Int} (hl : H l = some (.lst [.ref a, .ref b])) (ha : H a = some (.lst xs)) (hp : Prs H xs ps) (hb : H b = some (.lst (vals.map V.int))) : Dp K H (.ref l) (twoV ps vals) :=
  .lst (.of hl) (.cons (till_dp ⟨xs, .of ha, hp⟩) (.cons (.lst (.of hb) (ints_dp _)) .nil))
theorem twoP_dp {K : PySem.W.Frag} {H : Hp} {l a b : Addr} {xs ys : List V} {ps us : List (Int × Int)} (hl : H l = some (.lst [.ref a, .ref b])) (ha : H a = some (.lst xs)) (hp : Prs H xs ps) (hb : H b = some (.lst ys)) (hq : Prs H ys us) : Dp K H (.ref l) (twoP ps us) :=
  .lst (.of hl) (.cons (till_dp ⟨xs, .of ha, hp⟩) (.cons (till_dp ⟨ys, .of hb, hq⟩) .nil))
/-- a till with one count put otherwise -/
theorem Tl.put {ps : List (Int × Int)} (h : Tl ps) {k : Nat} {p : Int × Int} (hp : ps[k]? = some p) : Tl (ps.take k ++ [(p.1, 1000000000)] ++ ps.drop (k + 1)) := by
  have hk : k < ps.length := (List.getElem?_eq_some_iff.mp hp).1
  have e : ps = ps.take k ++ [p] ++ ps.drop (k + 1) := by
    rw [List.append_assoc, show [p] ++ ps.drop (k + 1) = ps.drop k from (drop_at hp).symm, List.take_append_drop]
  have hm : ∀ q ∈ ps.take k ++ [(p.1, (1000000000 : Int))] ++ ps.drop (k + 1), q ∈ ps ∨ q = (p.1, 1000000000) := fun q hq => by
    rcases List.mem_append.mp hq with z | z
    · rcases List.mem_append.mp z with y | y
      · exact .inl (List.mem_of_mem_take y)
      · exact .inr (List.mem_singleton.mp y)
    · exact .inl (List.mem_of_mem_drop z)
  have hpm := List.mem_of_getElem? hp
  refine ⟨?_, fun q hq => ?_, fun q hq => ?_, ?_⟩
  · have h1 : (ps.map fun x : Int × Int => x.1).Pairwise (· < ·) := by
      rw [List.pairwise_map]
      exact h.ris
    have h2 : ((ps.take k ++ [(p.1, (1000000000 : Int))] ++ ps.drop (k + 1)).map fun x : Int × Int => x.1) = ps.map fun x : Int × Int => x.1 := by
      conv => rhs; rw [e]
      rw [List.map_append, List.map_append, List.map_append, List.map_append]
      rfl
    unfold Rising
    rw [← h2, List.pairwise_map] at h1
    exact h1
  · rcases hm q hq with z | z
    · exact h.val q z
    · rw [z]
      exact h.val p hpm
  · rcases hm q hq with z | z
    · exact h.cnt q z
    · rw [z]
      exact ⟨by show (0 : Int) ≤ 1000000000; decide, Int.le_refl _⟩
  · rw [List.length_append, List.length_append, List.length_take, List.length_drop]
    have := h.len
    show 1 ≤ _ + 1 + _ ∧ _ + 1 + _ ≤ 10
    omega
def spLaw (K : PySem.W.Frag) : Sp := fun vs H Q _ => ∃ (a : Addr) (ns : List Int), vs = [.ref a] ∧ SqL K H a (ns.map V.int) ∧ ∀ H', Q (.bl true) H'
theorem ok_law (T : Tx K mg) : FnOk P w K mg base CX0 7 T.a_law T.d_law P_law (spLaw K) := by
  have G__law_cell_at := ok_cell_at (P := P) (w := w) (base := base) T
  have G__law_pairs := ok_pairs (P := P) (w := w) (base := base) T
  have G__law_values := ok_values (P := P) (w := w) (base := base) T
  have G__law_near := ok_near (P := P) (w := w) (base := base) T
  have G__law_due := ok_dueP (P := P) (w := w) (base := base) T
  have G__law_tried := ok_tried8 (P := P) (w := w) (base := base) T
  have G__law_any := ok_any8 (P := P) (w := w) (base := base) T
  have G__law_full := ok_full (P := P) (w := w) (base := base) T
  have G__law_walked := ok_walked (P := P) (w := w) (base := base) T
  have G__law_given := ok_given (P := P) (w := w) (base := base) T
  have G_table := ok_table (P := P) (w := w) (base := base) T
  have G_paid := ok_paid (P := P) (w := w) (base := base) T
  refine T.f_law.ok sc_law (fun vs H Q E h => ?_) (fun cdv A outer s H vs Q E hr h => ?_)
  · obtain ⟨a, ns, rfl, _⟩ := h
    rfl
  · obtain ⟨a, ns, rfl, hS, q⟩ := h
    refine ⟨_, (pss_cons (ps_set (i := 1) sc_law.nd rfl (.inl rfl) (pe_callB cr_sortedPO (by rfl) T.m_sorted (by decide +kernel) (pa_cons (pe_call G__law_pairs (hr.mono (by decide)) (by rfl) T.g__law_pairs T.f__law_pairs.kp T.p__law_pairs .nil pass0 (pa_cons (pv 0) pa_nil)) pa_nil)))
    (pss_cons (ps_set (i := 2) sc_law.nd rfl (.inl rfl) (pe_call G__law_values (hr.mono (by decide)) (by rfl) T.g__law_values T.f__law_values.kp T.p__law_values .nil pass0 (pa_cons (pv 1) (pa_cons (pe_call G__law_cell_at (hr.mono (by decide)) (by rfl) T.g__law_cell_at T.f__law_cell_at.kp T.p__law_cell_at .nil pass0 (pa_cons (pv 0) (pa_cons pe_int pa_nil))) (pa_cons (pe_call G__law_cell_at (hr.mono (by decide)) (by rfl) T.g__law_cell_at T.f__law_cell_at.kp T.p__law_cell_at .nil pass0 (pa_cons (pv 0) (pa_cons pe_int pa_nil))) pa_nil)))))
    (pss_cons (ps_set (i := 3) sc_law.nd rfl (.inl rfl) (pe_call G__law_cell_at (hr.mono (by decide)) (by rfl) T.g__law_cell_at T.f__law_cell_at.kp T.p__law_cell_at .nil pass0 (pa_cons (pv 0) (pa_cons pe_int pa_nil))))
    (pss_cons (ps_set (i := 4) sc_law.nd rfl (.inl rfl) (pe_op op_mod (pe_op op_fdiv (pv 3) pe_int) pe_int))
    (Evl.pss_cut (ps_if (pt_cmpR op_gt (pe_op op_mod (pv 3) pe_int) pe_int (nomark _))
      (pss_one (ps_set (i := 4) sc_law.nd rfl (.inl rfl) (pe_op op_mod (pe_callB (call_max2 rfl) (by rfl) T.m_max (by decide +kernel) (pa_cons pe_int (pa_cons (pe_op op_sub (pe_callB (cr_sum rfl) (by rfl) T.m_sum (by decide +kernel) (pa_cons (pv 2) pa_nil)) (pe_op op_mod (pe_op op_fdiv (pv 3) pe_int) pe_int)) pa_nil))) pe_int)))
      pss_nil)
    (Evl.pss_cut (ps_if (pt_cmpR op_eq (pe_op op_mod (pv 3) pe_int) pe_int (nomark _))
      (pss_cons (ps_set (i := 5) sc_law.nd rfl (.inl rfl) (pe_op op_mod (pe_op op_fdiv (pv 3) pe_int) (pe_op op_pow pe_int pe_int)))
      (pss_one (ps_set (i := 4) sc_law.nd rfl (.inl rfl) (pe_ix ix_list (pe_lst (pa_cons (pe_un un_neg pe_int) (pa_cons pe_int (pa_cons (pe_op op_sub (pe_un un_neg pe_int) (pv 5)) (pa_cons (pe_op op_add pe_int (pv 5)) (pa_cons (pe_op op_mod (pe_op op_fdiv (pv 3) pe_int) pe_int) pa_nil)))))) (pe_op op_mod (pe_op op_fdiv (pv 3) pe_int) pe_int) (fun _ _ => rfl)))))
      pss_nil)
    (Evl.pss_cut (ps_if (pt_cmpR op_eq (pe_op op_mod (pe_op op_fdiv (pv 3) pe_int) pe_int) pe_int (nomark _))
      (pss_cons (ps_set (i := 6) sc_law.nd rfl (.inl rfl) (pe_op op_mod (pe_op op_fdiv (pv 3) pe_int) (pe_callB call_len_seq (by rfl) T.m_len (by decide +kernel) (pa_cons (pv 1) pa_nil))))
      (pss_one (ps_set (i := 1) sc_law.nd rfl (.inl rfl) (pe_op op_cat (pe_op op_cat (pe_slice sl_list (pv 1) po_none (po_some (pv 6))) (pe_lst (pa_cons (pe_tup (pa_cons (pe_ix ix_tup (pe_ix ix_list (pv 1) (pv 6) (fun _ _ => rfl)) pe_int (fun _ _ => rfl)) (pa_cons (pe_op op_pow pe_int pe_int) pa_nil))) pa_nil))) (pe_slice sl_list (pv 1) (po_some (pe_op op_add (pv 6) pe_int)) po_none)))))
      pss_nil)
    (pss_cons (ps_set (i := 4) sc_law.nd rfl (.inl rfl) (pe_call G__law_near (hr.mono (by decide)) (by rfl) T.g__law_near T.f__law_near.kp T.p__law_near .nil pass0 (pa_cons (pv 1) (pa_cons (pv 2) (pa_cons (pv 4) pa_nil)))))
    (pss_cons (ps_set (i := 7) sc_law.nd rfl (.inl rfl) (pe_lst (pa_cons (pe_callTy call_list_of (by rfl) T.m_list (by decide +kernel) (pa_cons (pv 1) pa_nil)) (pa_cons (pe_callTy call_list_of (by rfl) T.m_list (by decide +kernel) (pa_cons (pv 2) pa_nil)) pa_nil))))
    (pss_cons (ps_set (i := 8) sc_law.nd rfl (.inl rfl) (pe_call G__law_due (hr.mono (by decide)) (by rfl) T.g__law_due T.f__law_due.kp T.p__law_due .nil pass0 (pa_cons (pv 1) (pa_cons (pv 4) (pa_cons (pv 2) pa_nil)))))
    (pss_cons (ps_set (i := 9) sc_law.nd rfl (.inl rfl) (pe_call G__law_tried (hr.mono (by decide)) (by rfl) T.g__law_tried T.f__law_tried.kp T.p__law_tried .nil pass0 (pa_cons (pe_ix ix_list (pv 7) pe_int (fun _ _ => rfl)) (pa_cons (pv 4) (pa_cons (pe_ix ix_list (pv 7) pe_int (fun _ _ => rfl)) pa_nil)))))
    (pss_cons (ps_if (pt_cmpR (op_neD hr.units) (pv 7) (pe_lst (pa_cons (pv 1) (pa_cons (pv 2) pa_nil))) (nomark _))
      (pss_one (ps_ret pe_bl))
      pss_nil)
    (pss_cons (ps_if (PW.pt (pw_and (pt_cmpR op_eq (pv 8) pe_str (nomark _)) (pw_and1 (pt_cmpR op_eq (pe_ix ix_list (pv 9) pe_int (fun _ _ => rfl)) pe_str (nomark _)))))
      (pss_cons (ps_set (i := 10) sc_law.nd rfl (.inl rfl) (pe_call G__law_full (hr.mono (by decide)) (by rfl) T.g__law_full T.f__law_full.kp T.p__law_full .nil pass0 (pa_cons (pv 1) (pa_cons (pv 2) pa_nil))))
      (pss_cons (ps_set (i := 11) sc_law.nd rfl (.inl rfl) (pe_call G_table (hr.mono (by decide)) (by rfl) T.g_table T.f_table.kp T.p_table .nil passL (pa_cons (pe_callTy call_list_of (by rfl) T.m_list (by decide +kernel) (pa_cons (pv 10) pa_nil)) (pa_cons (pe_op op_sub (pe_callB (cr_sum rfl) (by rfl) T.m_sum (by decide +kernel) (pa_cons (pv 2) pa_nil)) (pv 4)) pa_nil))))
      (pss_cons (ps_if (PW.pt (pw_or (pt_cmpR op_notN (pe_ix ix_list (pe_ix ix_list (pv 11) (pe_callB call_len_seq (by rfl) T.m_len (by decide +kernel) (pa_cons (pv 10) pa_nil)) (fun _ _ => rfl)) (pe_op op_sub (pe_callB (cr_sum rfl) (by rfl) T.m_sum (by decide +kernel) (pa_cons (pv 2) pa_nil)) (pv 4)) (fun _ _ => rfl)) pe_non (nomark _)) (pw_or1 (pt_not (pt_val (pe_call G__law_any (hr.mono (by decide)) (by rfl) T.g__law_any T.f__law_any.kp T.p__law_any .nil pass0 (pa_cons (pe_ix ix_list (pv 7) pe_int (fun _ _ => rfl)) (pa_cons (pv 4) (pa_cons (pe_ix ix_list (pv 7) pe_int (fun _ _ => rfl)) pa_nil)))))))))
        (pss_one (ps_ret pe_bl))
        pss_nil)
      (pss_one (ps_ret (pe_call G__law_walked (hr.mono (by decide)) (by rfl) T.g__law_walked T.f__law_walked.kp T.p__law_walked .nil pass0 (pa_cons (pv 11) (pa_cons (pv 10) (pa_cons (pe_op op_sub (pe_callB (cr_sum rfl) (by rfl) T.m_sum (by decide +kernel) (pa_cons (pv 2) pa_nil)) (pv 4)) pa_nil)))))))))
      pss_nil)
    (pss_cons (ps_if (PW.pt (pw_or (pt_cmpR op_ne (pe_ix ix_list (pv 9) pe_int (fun _ _ => rfl)) (pv 8) (nomark _)) (pw_or1 (pt_cmpR op_ne (pe_call G__law_any (hr.mono (by decide)) (by rfl) T.g__law_any T.f__law_any.kp T.p__law_any .nil pass0 (pa_cons (pe_ix ix_list (pv 7) pe_int (fun _ _ => rfl)) (pa_cons (pv 4) (pa_cons (pe_ix ix_list (pv 7) pe_int (fun _ _ => rfl)) pa_nil)))) (pe_cmpR op_ne (pv 8) pe_str (nomark _)) (nomark _)))))
      (pss_one (ps_ret pe_bl))
      pss_nil)
    (pss_cons (ps_if (pt_cmpR op_ne (pv 8) pe_str (nomark _))
      (pss_one (ps_ret pe_bl))
      pss_nil)
    (pss_cons (ps_if (pt_not (pt_val (pe_call G__law_given (hr.mono (by decide)) (by rfl) T.g__law_given T.f__law_given.kp T.p__law_given .nil pass0 (pa_cons (pe_ix ix_list (pv 9) pe_int (fun _ _ => rfl)) (pa_cons (pv 1) (pa_cons (pv 2) (pa_cons (pe_op op_sub (pe_callB (cr_sum rfl) (by rfl) T.m_sum (by decide +kernel) (pa_cons (pv 2) pa_nil)) (pv 4)) pa_nil)))))))
      (pss_one (ps_ret pe_bl))
      pss_nil)
    (pss_cons (ps_set (i := 12) sc_law.nd rfl (.inl rfl) (pe_lst (pa_cons (pe_callTy call_list_of (by rfl) T.m_list (by decide +kernel) (pa_cons (pe_ix ix_tup (pe_ix ix_list (pv 9) pe_int (fun _ _ => rfl)) pe_int (fun _ _ => rfl)) pa_nil)) (pa_cons (pe_callTy call_list_of (by rfl) T.m_list (by decide +kernel) (pa_cons (pe_ix ix_tup (pe_ix ix_list (pv 9) pe_int (fun _ _ => rfl)) pe_int (fun _ _ => rfl)) pa_nil)) pa_nil))))
    (pss_cons (ps_expr (pe_call G__law_tried (hr.mono (by decide)) (by rfl) T.g__law_tried T.f__law_tried.kp T.p__law_tried .nil pass0 (pa_cons (pe_ix ix_list (pv 7) pe_int (fun _ _ => rfl)) (pa_cons (pe_op op_add (pv 4) pe_int) (pa_cons (pe_ix ix_list (pv 7) pe_int (fun _ _ => rfl)) pa_nil)))))
    (pss_cons (ps_if (pt_cmpR (op_neD hr.units) (pe_lst (pa_cons (pe_ix ix_tup (pe_ix ix_list (pv 9) pe_int (fun _ _ => rfl)) pe_int (fun _ _ => rfl)) (pa_cons (pe_ix ix_tup (pe_ix ix_list (pv 9) pe_int (fun _ _ => rfl)) pe_int (fun _ _ => rfl)) pa_nil))) (pv 12) (nomark _))
      (pss_one (ps_ret pe_bl))
      pss_nil)
    (pss_cons (ps_expr (pe_bm0 PySem.F.plainAttrs_list PySem.F.slot_list_clear PySem.F.type_list_clear mt_clear (pe_ix ix_tup (pe_ix ix_list (pv 9) pe_int (fun _ _ => rfl)) pe_int (fun _ _ => rfl))))
    (pss_cons (ps_expr (pe_bm PySem.F.plainAttrs_list PySem.F.slot_list_append PySem.F.type_list_append mt_append (pe_ix ix_tup (pe_ix ix_list (pv 9) pe_int (fun _ _ => rfl)) pe_int (fun _ _ => rfl)) (pa_cons (pe_tup (pa_cons pe_int (pa_cons pe_int pa_nil))) pa_nil)))
    (pss_cons (ps_set (i := 13) sc_law.nd rfl (.inl rfl) (pe_call G_paid (hr.mono (by decide)) (by rfl) T.g_paid T.f_paid.kp T.p_paid .nil passL (pa_cons (pe_ix ix_list (pv 7) pe_int (fun _ _ => rfl)) (pa_cons (pv 4) (pa_cons (pe_ix ix_list (pv 7) pe_int (fun _ _ => rfl)) pa_nil)))))
    (pss_one (ps_ret (pe_and (pe_cmpR (op_eqD hr.units) (pe_lst (pa_cons (pe_ix ix_tup (pv 13) pe_int (fun _ _ => rfl)) (pa_cons (pe_ix ix_tup (pv 13) pe_int (fun _ _ => rfl)) pa_nil))) (pv 12) (nomark _)) (pe_one (pe_cmpR (op_eqD hr.units) (pv 7) (pe_lst (pa_cons (pv 1) (pa_cons (pv 2) pa_nil))) (nomark _)))))))))))))))))))))))))))), ?_⟩
    -- the till, sorted
    refine ⟨_, rfl, a, ns, rfl, hS, fun p xs ps H2 e2 hp ep hpr dr h1 h10 => ?_⟩
    refine ⟨p, xs, pairAt H2, rfl, .of ep, hpr.all, fun ys t z1 z2 ht => ?_⟩
    obtain ⟨qs, hq0, hpm, hris⟩ := sorted_prs hpr dr.nd z1 z2
    have drq := dr.perm hpm
    have hT0 : Tl qs := ⟨hris, drq.val, drq.cnt, by rw [hpm.length_eq]; exact ⟨h1, h10⟩⟩
    (generalize hh : upd H2 t _ = H3; have e3 : Ex H2 H3 := (by rw [← hh]; exact Ex.nw ht); have ct := (show H3 t = some _ by rw [← hh]; exact upd_same); clear hh)
    have ex3 := Ex.tr e2 e3
    have hq3 := hq0.ex e3
    have hl10 := hT0.len
    refine ⟨_, rfl, _, rfl, a, ns, 3, rfl, ex3.seq hS, _, rfl, a, ns, 4, rfl, ex3.seq hS, t, qs, _, _, rfl, ⟨ys, .of ct, hq3⟩, by omega, by omega, fun u vals H4 e4 hu eu hvl => ?_⟩
    have ex4 := ex3.tr e4
    have ct4 := e4 _ _ ct
    have hq4 := hq3.ex e4
    refine ⟨_, rfl, a, ns, 5, rfl, ex4.seq hS, ?_⟩
    -- the price
    repeat (first | refine ⟨_, rfl, ?_⟩ | refine ⟨(by show (0 : Int) < _; decide), ?_⟩ | refine ⟨⟨by decide, by decide⟩, ?_⟩ | refine ⟨.inr ⟨by decide, by decide⟩, ?_⟩ | refine ⟨.inl ⟨by decide, by decide⟩, ?_⟩ | refine ⟨⟨by decide, by decide, by decide⟩, ?_⟩ | refine ⟨_, _, rfl, rfl, ?_⟩ | refine ⟨rfl, _, rfl, ?_⟩)
    refine ⟨fun σ' H' => ∃ c : Int, σ' = [some (.ref a), some (.ref t), some (.ref u), some (.int (cell ns 5)), some (.int c), none, none, none, none, none, none, none, none, none] ∧ H' = H4, ?_, ?_⟩
    · repeat (first | refine ⟨_, rfl, ?_⟩ | refine ⟨(by show (0 : Int) < _; decide), ?_⟩ | refine ⟨⟨by decide, by decide⟩, ?_⟩ | refine ⟨.inr ⟨by decide, by decide⟩, ?_⟩ | refine ⟨.inl ⟨by decide, by decide⟩, ?_⟩ | refine ⟨⟨by decide, by decide, by decide⟩, ?_⟩ | refine ⟨_, _, rfl, rfl, ?_⟩ | refine ⟨rfl, _, rfl, ?_⟩)
      first | refine iteVI (fun e => ?_) (fun e => ?_) | refine iteVN (fun e => ?_) (fun e => ?_) | refine iteD (fun e => ?_) (fun e => ?_) | refine iteDN (fun e => ?_) (fun e => ?_) | refine iteB (fun e => ?_) (fun e => ?_)
      · refine ⟨_, rfl, u, vals, rfl, .of eu, ?_⟩
        repeat (first | refine ⟨_, rfl, ?_⟩ | refine ⟨(by show (0 : Int) < _; decide), ?_⟩ | refine ⟨⟨by decide, by decide⟩, ?_⟩ | refine ⟨.inr ⟨by decide, by decide⟩, ?_⟩ | refine ⟨.inl ⟨by decide, by decide⟩, ?_⟩ | refine ⟨⟨by decide, by decide, by decide⟩, ?_⟩ | refine ⟨_, _, rfl, rfl, ?_⟩ | refine ⟨rfl, _, rfl, ?_⟩)
        refine ⟨0, _, rfl, ?_⟩
        repeat (first | refine ⟨_, rfl, ?_⟩ | refine ⟨(by show (0 : Int) < _; decide), ?_⟩ | refine ⟨⟨by decide, by decide⟩, ?_⟩ | refine ⟨.inr ⟨by decide, by decide⟩, ?_⟩ | refine ⟨.inl ⟨by decide, by decide⟩, ?_⟩ | refine ⟨⟨by decide, by decide, by decide⟩, ?_⟩ | refine ⟨_, _, rfl, rfl, ?_⟩ | refine ⟨rfl, _, rfl, ?_⟩)
        rfl
      · exact ⟨_, rfl, rfl⟩
    rintro σ' H' ⟨c0, rfl, rfl⟩
    refine ⟨fun σ' H2 => ∃ (c : Int) (y5 : Option V), σ' = [some (.ref a), some (.ref t), some (.ref u), some (.int (cell ns 5)), some (.int c), y5, none, none, none, none, none, none, none, none] ∧ Ex H' H2, ?_, ?_⟩
    · repeat (first | refine ⟨_, rfl, ?_⟩ | refine ⟨(by show (0 : Int) < _; decide), ?_⟩ | refine ⟨⟨by decide, by decide⟩, ?_⟩ | refine ⟨.inr ⟨by decide, by decide⟩, ?_⟩ | refine ⟨.inl ⟨by decide, by decide⟩, ?_⟩ | refine ⟨⟨by decide, by decide, by decide⟩, ?_⟩ | refine ⟨_, _, rfl, rfl, ?_⟩ | refine ⟨rfl, _, rfl, ?_⟩)
      first | refine iteVI (fun e => ?_) (fun e => ?_) | refine iteVN (fun e => ?_) (fun e => ?_) | refine iteD (fun e => ?_) (fun e => ?_) | refine iteDN (fun e => ?_) (fun e => ?_) | refine iteB (fun e => ?_) (fun e => ?_)
      · have d1 : 0 ≤ cell ns 5 / 16 % 5 := Int.emod_nonneg _ (by decide)
        have d2 : cell ns 5 / 16 % 5 < 5 := Int.emod_lt_of_pos _ (by decide)
        repeat (first | refine ⟨_, rfl, ?_⟩ | refine ⟨(by show (0 : Int) < _; decide), ?_⟩ | refine ⟨⟨by decide, by decide⟩, ?_⟩ | refine ⟨.inr ⟨by decide, by decide⟩, ?_⟩ | refine ⟨.inl ⟨by decide, by decide⟩, ?_⟩ | refine ⟨⟨by decide, by decide, by decide⟩, ?_⟩ | refine ⟨_, _, rfl, rfl, ?_⟩ | refine ⟨rfl, _, rfl, ?_⟩)
        refine ⟨len63 (by show 5 ≤ _; decide), fun m hm => ?_⟩
        (generalize hh : upd H' m _ = H5; have e5 : Ex H' H5 := (by rw [← hh]; exact Ex.nw hm); have cm := (show H5 m = some _ by rw [← hh]; exact upd_same); clear hh)
        repeat (first | refine ⟨_, rfl, ?_⟩ | refine ⟨(by show (0 : Int) < _; decide), ?_⟩ | refine ⟨⟨by decide, by decide⟩, ?_⟩ | refine ⟨.inr ⟨by decide, by decide⟩, ?_⟩ | refine ⟨.inl ⟨by decide, by decide⟩, ?_⟩ | refine ⟨⟨by decide, by decide, by decide⟩, ?_⟩ | refine ⟨_, _, rfl, rfl, ?_⟩ | refine ⟨rfl, _, rfl, ?_⟩)
        refine ⟨m, [-1, 1001, -2 - cell ns 5 / 8 % 10 ^ (9 : Int).toNat, 1002 + cell ns 5 / 8 % 10 ^ (9 : Int).toNat, cell ns 5 / 8 % 1001].map V.int, _, _, rfl, rfl, .of cm, menu_at rfl d1 d2, ?_⟩
        exact ⟨_, _, rfl, e5⟩
      · exact ⟨_, _, rfl, Ex.rfl'⟩
    rintro σ' H5 ⟨c1, y5, rfl, e5⟩
    have ex5 := ex4.tr e5
    have ct5 := e5 _ _ ct4
    have eu5 := e5 _ _ eu
    have hq5 := hq4.ex e5
    have hyl := hq5.len
    refine ⟨fun σ' H' => ∃ (t' : Addr) (zs : List V) (ps' : List (Int × Int)) (y6 : Option V), σ' = [some (.ref a), some (.ref t'), some (.ref u), some (.int (cell ns 5)), some (.int c1), y5, y6, none, none, none, none, none, none, none] ∧ Ex H5 H' ∧ H' t' = some (.lst zs) ∧ Prs H' zs ps' ∧ Tl ps', ?_, ?_⟩
    · repeat (first | refine ⟨_, rfl, ?_⟩ | refine ⟨(by show (0 : Int) < _; decide), ?_⟩ | refine ⟨⟨by decide, by decide⟩, ?_⟩ | refine ⟨.inr ⟨by decide, by decide⟩, ?_⟩ | refine ⟨.inl ⟨by decide, by decide⟩, ?_⟩ | refine ⟨⟨by decide, by decide, by decide⟩, ?_⟩ | refine ⟨_, _, rfl, rfl, ?_⟩ | refine ⟨rfl, _, rfl, ?_⟩)
      first | refine iteVI (fun e => ?_) (fun e => ?_) | refine iteVN (fun e => ?_) (fun e => ?_) | refine iteD (fun e => ?_) (fun e => ?_) | refine iteDN (fun e => ?_) (fun e => ?_) | refine iteB (fun e => ?_) (fun e => ?_)
      · have b0 : 0 ≤ cell ns 5 / 36 % (ys.length : Int) := Int.emod_nonneg _ (by omega)
        have b1 : cell ns 5 / 36 % (ys.length : Int) < (ys.length : Int) := Int.emod_lt_of_pos _ (by omega)
        obtain ⟨k, hk⟩ : ∃ k : Nat, cell ns 5 / 36 % (ys.length : Int) = (k : Int) := ⟨_, (Int.toNat_of_nonneg b0).symm⟩
        have hkl : k < qs.length := by omega
        have hpk := List.getElem?_eq_getElem hkl
        obtain ⟨t2, hx0, h3⟩ := Prs.getL hq5 hpk
        generalize qs[k] = pk at hpk h3
        have it : atI ys (cell ns 5 / 36 % (ys.length : Int)) = some (.ref t2) := at_of hk hx0
        refine ⟨_, rfl, _, _, rfl, rfl, ⟨by decide, by decide⟩, _, rfl, t, ys, rfl, .inl (.of ct5), _, _, rfl, rfl, by omega, ?_⟩
        refine ⟨_, rfl, _, rfl, _, rfl, t, ys, rfl, .of ct5, fun l1 hl1 => ?_⟩
        rw [hk, cut_take _ k (by omega)]
        (generalize hh : upd H5 l1 _ = H6; have e6 : Ex H5 H6 := (by rw [← hh]; exact Ex.nw hl1); have c6 := (show H6 l1 = some _ by rw [← hh]; exact upd_same); clear hh)
        have h36 := e6 _ _ h3
        refine ⟨_, rfl, _, rfl, t, ys, _, _, rfl, rfl, .of (e6 _ _ ct5), it, t2, _, 0, .int pk.1, rfl, rfl, .of h36, rfl, ?_⟩
        repeat (first | refine ⟨_, rfl, ?_⟩ | refine ⟨(by show (0 : Int) < _; decide), ?_⟩ | refine ⟨⟨by decide, by decide⟩, ?_⟩ | refine ⟨.inr ⟨by decide, by decide⟩, ?_⟩ | refine ⟨.inl ⟨by decide, by decide⟩, ?_⟩ | refine ⟨⟨by decide, by decide, by decide⟩, ?_⟩ | refine ⟨_, _, rfl, rfl, ?_⟩ | refine ⟨rfl, _, rfl, ?_⟩)
        refine ⟨len63 (by show 2 ≤ _; decide), fun t3 ht3 => ?_⟩
        (generalize hh : upd H6 t3 _ = H7; have e7 : Ex H6 H7 := (by rw [← hh]; exact Ex.nw ht3); have c7 := (show H7 t3 = some _ by rw [← hh]; exact upd_same); clear hh)
        refine ⟨len63 (by show 1 ≤ _; decide), fun l2 hl2 => ?_⟩
        (generalize hh : upd H7 l2 _ = H8; have e8 : Ex H7 H8 := (by rw [← hh]; exact Ex.nw hl2); have c8 := (show H8 l2 = some _ by rw [← hh]; exact upd_same); clear hh)
        refine ⟨l1, l2, _, _, rfl, rfl, e8 _ _ (e7 _ _ c6), c8, len63 (by rw [List.length_take]; show _ + 1 ≤ _; omega), fun l3 hl3 => ?_⟩
        (generalize hh : upd H8 l3 _ = H9; have e9 : Ex H8 H9 := (by rw [← hh]; exact Ex.nw hl3); have c9 := (show H9 l3 = some _ by rw [← hh]; exact upd_same); clear hh)
        refine ⟨_, rfl, _, rfl, _, _, rfl, rfl, _, rfl, t, ys, rfl, .of (e9 _ _ (e8 _ _ (e7 _ _ (e6 _ _ ct5)))), fun l4 hl4 => ?_⟩
        rw [hk, show ((k : Int) + 1) = ((k + 1 : Nat) : Int) from rfl, cut_drop _ (k + 1) (by omega)]
        (generalize hh : upd H9 l4 _ = H10; have e10 : Ex H9 H10 := (by rw [← hh]; exact Ex.nw hl4); have c10 := (show H10 l4 = some _ by rw [← hh]; exact upd_same); clear hh)
        refine ⟨l3, l4, _, _, rfl, rfl, e10 _ _ c9, c10, len63 (by rw [List.length_append, List.length_take, List.length_drop]; show _ + 1 + _ ≤ _; omega), fun l5 hl5 => ?_⟩
        have e510 := (((e6.tr e7).tr e8).tr e9).tr e10
        have hq10 := hq5.ex e510
        have c7' : H10 t3 = some (.tup [.int pk.1, .int 1000000000]) := e10 _ _ (e9 _ _ (e8 _ _ c7))
        exact ⟨l5, _, qs.take k ++ [(pk.1, 1000000000)] ++ qs.drop (k + 1), _, rfl, e510.tr (Ex.nw hl5), upd_same, ((((hq10.take k).app (.cons ⟨t3, rfl, c7'⟩ .nil)).app (hq10.drop (k + 1))).ex (Ex.nw hl5)), hT0.put hpk⟩
      · exact ⟨t, ys, qs, _, rfl, Ex.rfl', ct5, hq5, hT0⟩
    rintro σ' H6 ⟨t', zs, ps', y6, rfl, e6, ct6, hp6, hT6⟩
    have ex6 := ex5.tr e6
    have eu6 := e6 _ _ eu5
    clear hT0 drq dr hpm hris hq0 hq3 hq4 hq5 hyl hl10 ct ct4 ct5
    -- the price, nearer
    refine ⟨_, rfl, _, rfl, _, rfl, t', u, ps', c1, vals, rfl, ⟨zs, .of ct6, hp6⟩, hT6, .of eu6, fun c H7 e7 => ?_⟩
    have ct7 := e7 _ _ ct6
    have eu7 := e7 _ _ eu6
    have hp7 := hp6.ex e7
    -- handed in
    refine ⟨_, rfl, t', zs, rfl, .inl (.of ct7), fun b1 hb1 => ?_⟩
    (generalize hh : upd H7 b1 _ = H8; have e8 : Ex H7 H8 := (by rw [← hh]; exact Ex.nw hb1); have cb1 := (show H8 b1 = some _ by rw [← hh]; exact upd_same); clear hh)
    refine ⟨_, rfl, u, _, rfl, .inl (.of (e8 _ _ eu7)), fun b2 hb2 => ?_⟩
    (generalize hh : upd H8 b2 _ = H9; have e9 : Ex H8 H9 := (by rw [← hh]; exact Ex.nw hb2); have cb2 := (show H9 b2 = some _ by rw [← hh]; exact upd_same); clear hh)
    refine ⟨len63 (by show 2 ≤ _; decide), fun hd hhd => ?_⟩
    (generalize hh : upd H9 hd _ = H10; have e10 : Ex H9 H10 := (by rw [← hh]; exact Ex.nw hhd); have chd := (show H10 hd = some _ by rw [← hh]; exact upd_same); clear hh)
    have e710 := (e8.tr e9).tr e10
    have ct10 := e710 _ _ ct7
    have eu10 := e710 _ _ eu7
    have hp10 := hp7.ex e710
    have cb1' := e10 _ _ (e9 _ _ cb1)
    have cb2' := e10 _ _ cb2
    have hzl := hp10.len
    have hl10 := hT6.len
    -- due
    refine ⟨_, rfl, _, rfl, _, rfl, t', u, ps', c, vals, rfl, ⟨zs, .of ct10, hp10⟩, hT6, .of eu10, fun H11 e11 => ?_⟩
    have ct11 := e11 _ _ ct10
    have eu11 := e11 _ _ eu10
    have hp11 := hp10.ex e11
    have cb111 := e11 _ _ cb1'
    have cb211 := e11 _ _ cb2'
    have chd11 := e11 _ _ chd
    clear e710 e11 e10 e9 e8 e7 e6 e5 e4 e3 e2 ex6 ex5 ex4 ex3
    refine ⟨_, rfl, hd, _, _, .ref b1, rfl, rfl, .of chd11, rfl, _, rfl, _, rfl, hd, _, _, .ref b2, rfl, rfl, .of chd11, rfl, b1, b2, zs, ps', c, vals, rfl, cb111, hp11, hT6, .of cb211, fun l v H12 e12 el12 htf => ?_⟩
    have ct12 := e12 _ _ ct11
    have eu12 := e12 _ _ eu11
    have hp12 := hp11.ex e12
    have cb112 := e12 _ _ cb111
    have cb212 := e12 _ _ cb211
    have chd12 := e12 _ _ chd11
    -- what was handed in stays
    refine ⟨_, rfl, _, rfl, _, rfl, len63 (by show 2 ≤ _; decide), fun w1 hw1 => ?_⟩
    (generalize hh : upd H12 w1 _ = H13; have e13 : Ex H12 H13 := (by rw [← hh]; exact Ex.nw hw1); have cw1 := (show H13 w1 = some _ by rw [← hh]; exact upd_same); clear hh)
    refine ⟨_, _, twoV_dp (K := K) (e13 _ _ chd12) (e13 _ _ cb112) (hp12.ex e13) (e13 _ _ cb212), twoV_dp (K := K) cw1 (e13 _ _ ct12) (hp12.ex e13) (e13 _ _ eu12), shaped_twoV _ _, shaped_twoV _ _, ?_⟩
    rw [eqv_of_shaped (shaped_twoV _ _)]
    refine ⟨_, rfl, iteF ?_⟩
    have ct13 := e13 _ _ ct12
    have eu13 := e13 _ _ eu12
    have hp13 := hp12.ex e13
    have cb113 := e13 _ _ cb112
    have cb213 := e13 _ _ cb212
    have chd13 := e13 _ _ chd12
    have el13 := e13 _ _ el12
    by_cases hd0 : dueP ps' c vals = ""
    · obtain ⟨_, _, hwd, hs0, hs1⟩ := dueP_ok hd0
      have hTf := walk_tl (r := vals) (pre := []) (by rw [fullP_nil]; exact hT6) hwd
      rw [List.nil_append] at hTf
      have hfit : ∀ p ∈ fullP ps' vals, 1 ≤ p.1 ∧ p.1 ≤ 1000 ∧ 0 ≤ p.2 := fun p hp => ⟨(hTf.val p hp).1, (hTf.val p hp).2, (hTf.cnt p hp).1⟩
      have hfl10 := hTf.len
      have hsn : vals.sum - c = (sumP c vals : Int) := (Int.toNat_of_nonneg hs0).symm
      have hn : sumP c vals ≤ 1000 := by omega
      rw [hd0]
      by_cases hcn : cellP ps' c vals = none
      · have ho : outP ps' c vals = "change" := by
          unfold outP
          rw [if_pos hd0, if_pos hcn]
        rw [ho] at el13
        refine ⟨_, rfl, rfl, _, rfl, iteD (fun _ => ?_) (fun y => absurd rfl y)⟩
        refine ⟨_, rfl, l, _, _, _, rfl, rfl, .of el13, rfl, rfl, _, rfl, iteD (fun _ => ?_) (fun y => absurd rfl y)⟩
        refine ⟨_, rfl, _, rfl, t', u, ps', vals, rfl, ⟨zs, .of ct13, hp13⟩, .of eu13, by omega, fun f fs H14 e14 hf ef hfs => ?_⟩
        have hfl := hfs.len
        refine ⟨_, rfl, f, fs, rfl, .inl (.of ef), fun f2 hf2 => ?_⟩
        (generalize hh : upd H14 f2 _ = H15; have e15 : Ex H14 H15 := (by rw [← hh]; exact Ex.nw hf2); have c15 := (show H15 f2 = some _ by rw [← hh]; exact upd_same); clear hh)
        have e1315 := e14.tr e15
        refine ⟨_, rfl, u, vals, rfl, .of (e1315 _ _ eu13), _, rfl, _, _, rfl, rfl, f2, fullP ps' vals, vals.sum - c, rfl, ⟨fs, .of c15, hfs.ex e15⟩, by omega, hfit, fun _ => ?_, fun z => absurd ⟨by omega, by omega⟩ z⟩
        intro R as H16 e16 hfr hnd eR hrows
        change RowsAt H16 as (rowsOf (row0 (sumP c vals)) (fullP ps' vals)) at hrows
        have e1316 := e1315.tr e16
        have ef16 := e16 _ _ (e15 _ _ ef)
        have hfs16 := (hfs.ex e15).ex e16
        have hcell : rAt (lastRow (row0 (sumP c vals)) (fullP ps' vals)) (sumP c vals) = none := hcn
        obtain ⟨z, iz, _, ez⟩ := at_row hrows (i := (fs.length : Int)) (k := (fullP ps' vals).length) (by omega) (rowsOf_at _ _ _ (Nat.le_refl _))
        rw [List.take_length] at ez
        have hlz : (lastRow (row0 (sumP c vals)) (fullP ps' vals)).length = sumP c vals + 1 := by rw [lastRow_len, row0_len]
        have inz : atI ((lastRow (row0 (sumP c vals)) (fullP ps' vals)).map vO) (vals.sum - c) = some (vO (rAt (lastRow (row0 (sumP c vals)) (fullP ps' vals)) (sumP c vals))) := at_of hsn (vO_at (by omega))
        rw [hcell] at inz
        refine ⟨_, rfl, _, rfl, f, fs, rfl, .inl (.of ef16), R, _, _, .ref z, rfl, rfl, .of eR, iz, _, rfl, u, vals, rfl, .of (e1316 _ _ eu13), _, rfl, _, _, rfl, rfl, z, _, _, _, rfl, rfl, .of ez, inz, rfl, _, rfl, iteDN (fun y => absurd rfl y) (fun _ => ?_)⟩
        have chd16 := e1316 _ _ chd13
        refine ⟨_, rfl, hd, _, _, .ref b1, rfl, rfl, .of chd16, rfl, _, rfl, _, rfl, hd, _, _, .ref b2, rfl, rfl, .of chd16, rfl, b1, b2, zs, ps', c, vals, rfl, e1316 _ _ cb113, hp13.ex e1316, hT6, .of (e1316 _ _ cb213), fun H17 e17 => ⟨true, by rw [ho]; rfl, iteF ?_⟩⟩
        refine ⟨_, rfl, _, rfl, _, rfl, u, vals, rfl, .of (e17 _ _ (e1316 _ _ eu13)), _, rfl, _, _, rfl, rfl, R, f, as, fullP ps' vals, sumP c vals, congrArg (fun z => [V.ref R, V.ref f, V.int z]) hsn, e17 _ _ eR, hrows.ex e17, ⟨fs, .of (e17 _ _ ef16), hfs16.ex e17⟩, hn, by omega, hfit, fun H18 e18 => q _⟩
      · have ho : outP ps' c vals = "" := by
          unfold outP
          rw [if_pos hd0, if_neg hcn]
        rw [ho] at el13
        obtain ⟨m, hm⟩ := Option.ne_none_iff_exists'.mp hcn
        obtain ⟨p, b, g, xs8, ys8, rfl, hl, hp0, hb, hg, nlb, nlg, nbg, npb, npg, ep, eb, eg, hxs, hys⟩ := htf ho
        refine ⟨_, rfl, rfl, _, rfl, iteD (fun _ => ?_) (fun y => absurd rfl y)⟩
        refine ⟨_, rfl, l, _, _, _, rfl, rfl, .of el13, rfl, rfl, _, rfl, iteD (fun y => ?_) (fun _ => ?_)⟩
        · exact absurd (V.str.inj y) (by decide)
        refine ⟨_, rfl, l, _, _, _, rfl, rfl, .of el13, rfl, _, rfl, rfl, _, rfl, iteDN (fun y => absurd rfl y) (fun _ => ?_)⟩
        refine ⟨_, rfl, hd, _, _, .ref b1, rfl, rfl, .of chd13, rfl, _, rfl, _, rfl, hd, _, _, .ref b2, rfl, rfl, .of chd13, rfl, b1, b2, zs, ps', c, vals, rfl, cb113, hp13, hT6, .of cb213, fun H14 e14 => ?_⟩
        rw [ho]
        refine ⟨_, rfl, rfl, rfl, _, rfl, iteB (fun y => ?_) (fun _ => ?_)⟩
        · exact absurd y (by decide)
        refine ⟨_, rfl, rfl, _, rfl, iteDN (fun y => absurd rfl y) (fun _ => ?_)⟩
        have e1214 := e13.tr e14
        have el14 := e14 _ _ el13
        have ep14 := e1214 _ _ ep
        have eb14 := e1214 _ _ eb
        have eg14 := e1214 _ _ eg
        have hxs14 := hxs.ex e1214
        have hys14 := hys.ex e1214
        have chd14 := e14 _ _ chd13
        have cb114 := e14 _ _ cb113
        have cb214 := e14 _ _ cb213
        have hp14 := hp13.ex e14
        -- what is given
        refine ⟨_, rfl, l, _, _, .ref p, rfl, rfl, .of el14, rfl, _, rfl, _, rfl, _, rfl, u, vals, rfl, .of (e14 _ _ eu13), _, rfl, _, _, rfl, rfl, p, b, g, t', u, xs8, ys8, ps', c, vals, m, congrArg (fun z => [V.ref p, V.ref t', V.ref u, V.int z]) hsn, ep14, eb14, eg14, hxs14, hys14, ⟨zs, .of (e14 _ _ ct13), hp14⟩, hT6, .of (e14 _ _ eu13), hd0, hm, fun H15 e15 => ⟨true, rfl, iteF ?_⟩⟩
        have el15 := e15 _ _ el14
        have ep15 := e15 _ _ ep14
        have eb15 := e15 _ _ eb14
        have eg15 := e15 _ _ eg14
        -- kept
        refine ⟨_, rfl, l, _, _, .ref p, rfl, rfl, .of el15, rfl, p, _, _, .ref b, rfl, rfl, .of ep15, rfl, b, xs8, rfl, .inl (.of eb15), fun k1 hk1 => ?_⟩
        (generalize hh : upd H15 k1 _ = H16; have e16 : Ex H15 H16 := (by rw [← hh]; exact Ex.nw hk1); have c16 := (show H16 k1 = some _ by rw [← hh]; exact upd_same); clear hh)
        refine ⟨_, rfl, l, _, _, .ref p, rfl, rfl, .of (e16 _ _ el15), rfl, p, _, _, .ref g, rfl, rfl, .of (e16 _ _ ep15), rfl, g, ys8, rfl, .inl (.of (e16 _ _ eg15)), fun k2 hk2 => ?_⟩
        (generalize hh : upd H16 k2 _ = H17; have e17 : Ex H16 H17 := (by rw [← hh]; exact Ex.nw hk2); have c17 := (show H17 k2 = some _ by rw [← hh]; exact upd_same); clear hh)
        refine ⟨len63 (by show 2 ≤ _; decide), fun kp hkp => ?_⟩
        (generalize hh : upd H17 kp _ = H18; have e18 : Ex H17 H18 := (by rw [← hh]; exact Ex.nw hkp); have c18 := (show H18 kp = some _ by rw [← hh]; exact upd_same); clear hh)
        have e1518 := (e16.tr e17).tr e18
        have e1418 := e15.tr e1518
        have chd18 := e1418 _ _ chd14
        -- another price
        refine ⟨_, rfl, hd, _, _, .ref b1, rfl, rfl, .of chd18, rfl, _, rfl, _, _, rfl, rfl, _, rfl, hd, _, _, .ref b2, rfl, rfl, .of chd18, rfl, b1, b2, zs, ps', c + 1, vals, rfl, e1418 _ _ cb114, hp14.ex e1418, hT6, .of (e1418 _ _ cb214), fun l9 v9 H19 e19 _ _ => ?_⟩
        have e1519 := e1518.tr e19
        have el19 := e1519 _ _ el15
        have ep19 := e1519 _ _ ep15
        have eb19 := e1519 _ _ eb15
        have eg19 := e1519 _ _ eg15
        have hxs19 := hxs14.ex (e15.tr e1519)
        have hys19 := hys14.ex (e15.tr e1519)
        have k1b : k1 ≠ b := fun z => by rw [z, eb15] at hk1; cases hk1
        have k1g : k1 ≠ g := fun z => by rw [z, eg15] at hk1; cases hk1
        have k2b : k2 ≠ b := fun z => by rw [z, e16 _ _ eb15] at hk2; cases hk2
        have k2g : k2 ≠ g := fun z => by rw [z, e16 _ _ eg15] at hk2; cases hk2
        have kpb : kp ≠ b := fun z => by rw [z, e17 _ _ (e16 _ _ eb15)] at hkp; cases hkp
        have kpg : kp ≠ g := fun z => by rw [z, e17 _ _ (e16 _ _ eg15)] at hkp; cases hkp
        have ck1 := e19 _ _ (e18 _ _ (e17 _ _ c16))
        have ck2 := e19 _ _ (e18 _ _ c17)
        have ckp := e19 _ _ c18
        refine ⟨_, rfl, l, _, _, .ref p, rfl, rfl, .of el19, rfl, p, _, _, .ref b, rfl, rfl, .of ep19, rfl, _, rfl, l, _, _, .ref p, rfl, rfl, .of el19, rfl, p, _, _, .ref g, rfl, rfl, .of ep19, rfl, len63 (by show 2 ≤ _; decide), fun w2 hw2 => ?_⟩
        (generalize hh : upd H19 w2 _ = H20; have e20 : Ex H19 H20 := (by rw [← hh]; exact Ex.nw hw2); have c20 := (show H20 w2 = some _ by rw [← hh]; exact upd_same); clear hh)
        refine ⟨_, rfl, _, _, twoP_dp (K := K) c20 (e20 _ _ eb19) (hxs19.ex e20) (e20 _ _ eg19) (hys19.ex e20), twoP_dp (K := K) (e20 _ _ ckp) (e20 _ _ ck1) (hxs19.ex e20) (e20 _ _ ck2) (hys19.ex e20), shaped_twoP _ _, shaped_twoP _ _, ?_⟩
        rw [eqv_of_shaped (shaped_twoP _ _)]
        refine ⟨_, rfl, iteF ?_⟩
        -- they are the asker's own
        have e1120 : Ex H11 H20 := (e12.tr e1214).tr ((e15.tr e1519).tr e20)
        have eb20 := e20 _ _ eb19
        have ep20 := e20 _ _ ep19
        refine ⟨_, rfl, l, _, _, .ref p, rfl, rfl, .of (e20 _ _ el19), rfl, p, _, _, .ref b, rfl, rfl, .of ep20, rfl, .inl ⟨rfl, _, .of eb20⟩, b, xs8, rfl, rfl, eb20, ?_⟩
        generalize hH21 : upd H20 b (.lst []) = H21
        have e1121 : Ex H11 H21 := hH21 ▸ Ex.mu e1120 hb
        have o21 : ∀ z, z ≠ b → H21 z = H20 z := fun z hz => by rw [← hH21]; exact upd_ne hz
        have hx21 : Prs H21 xs8 (behP ps' c vals) := hH21 ▸ (hxs19.ex e20).up (by intro bs y; rw [eb20] at y; cases y)
        have hy21 : Prs H21 ys8 (gsP ps' c vals) := hH21 ▸ (hys19.ex e20).up (by intro bs y; rw [eb20] at y; cases y)
        clear hH21
        have el21 := (o21 l nlb).trans (e20 _ _ el19)
        have ep21 := (o21 p npb).trans ep20
        have eg21 := (o21 g nbg.symm).trans (e20 _ _ eg19)
        refine ⟨_, rfl, l, _, _, .ref p, rfl, rfl, .of el21, rfl, p, _, _, .ref g, rfl, rfl, .of ep21, rfl, .inl ⟨rfl, _, .of eg21⟩, len63 (by show 2 ≤ _; decide), fun t7 ht7 => ?_⟩
        have ng7 : g ≠ t7 := ne_of_none eg21 ht7
        have eg22 : (upd H21 t7 (.tup [.int 7, .int 7])) g = some (.lst ys8) := by rw [upd_ne ng7]; exact eg21
        have n7 := Ex.nw (o := .tup [.int 7, .int 7]) ht7
        refine ⟨g, ys8, _, rfl, rfl, eg22, len63' (by have := hys.len; obtain ⟨_, _, _, _, h10⟩ := gsP_ok hT6 hd0 hm; omega), ?_⟩
        generalize hH23 : upd (upd H21 t7 (.tup [.int 7, .int 7])) g (.lst (ys8 ++ [.ref t7])) = H23
        have e1123 : Ex H11 H23 := hH23 ▸ Ex.mu (e1121.tr n7) hg
        have o23 : ∀ z y, z ≠ g → H21 z = some y → H23 z = some y := fun z y hz h => by rw [← hH23, upd_ne hz]; exact n7 _ _ h
        have hx23 : Prs H23 xs8 (behP ps' c vals) := hH23 ▸ (hx21.ex n7).up (by intro bs y; rw [eg22] at y; cases y)
        have hy23 : Prs H23 ys8 (gsP ps' c vals) := hH23 ▸ (hy21.ex n7).up (by intro bs y; rw [eg22] at y; cases y)
        clear hH23
        have ckp23 := o23 kp _ kpg ((o21 kp kpb).trans (e20 _ _ ckp))
        have ck123 := o23 k1 _ k1g ((o21 k1 k1b).trans (e20 _ _ ck1))
        have ck223 := o23 k2 _ k2g ((o21 k2 k2b).trans (e20 _ _ ck2))
        have chd23 := e1123 _ _ chd11
        -- once more
        refine ⟨_, rfl, hd, _, _, .ref b1, rfl, rfl, .of chd23, rfl, _, rfl, _, rfl, hd, _, _, .ref b2, rfl, rfl, .of chd23, rfl, b1, b2, zs, ps', c, vals, rfl, e1123 _ _ cb111, hp11.ex e1123, hT6, .of (e1123 _ _ cb211), fun h => ?_, fun h => ?_, fun h => ?_, fun h => ?_, fun _ h => absurd h hcn, fun _ _ => ?_⟩
        · rw [hd0] at h; cases h
        · rw [hd0] at h; cases h
        · rw [hd0] at h; cases h
        · rw [hd0] at h; cases h
        intro pp bb gg xs9 ys9 H24 e24 _ _ _ _ _ _ epp ebb egg hx24 hy24
        refine ⟨_, rfl, pp, _, _, .ref bb, rfl, rfl, .of epp, rfl, _, rfl, pp, _, _, .ref gg, rfl, rfl, .of epp, rfl, len63 (by show 2 ≤ _; decide), fun w3 hw3 => ?_⟩
        (generalize hh : upd H24 w3 _ = H25; have e25 : Ex H24 H25 := (by rw [← hh]; exact Ex.nw hw3); have c25 := (show H25 w3 = some _ by rw [← hh]; exact upd_same); clear hh)
        have e2325 := e24.tr e25
        refine ⟨_, rfl, _, _, twoP_dp (K := K) c25 (e25 _ _ ebb) (hx24.ex e25) (e25 _ _ egg) (hy24.ex e25), twoP_dp (K := K) (e2325 _ _ ckp23) (e2325 _ _ ck123) (hx23.ex e2325) (e2325 _ _ ck223) (hy23.ex e2325), shaped_twoP _ _, shaped_twoP _ _, ?_⟩
        rw [eqv_of_shaped (shaped_twoP _ _)]
        refine ⟨true, rfl, iteT ?_⟩
        have e1125 := e1123.tr e2325
        refine ⟨_, rfl, _, rfl, _, rfl, len63 (by show 2 ≤ _; decide), fun w4 hw4 => ?_⟩
        (generalize hh : upd H25 w4 _ = H26; have e26 : Ex H25 H26 := (by rw [← hh]; exact Ex.nw hw4); have c26 := (show H26 w4 = some _ by rw [← hh]; exact upd_same); clear hh)
        have e1126 := e1125.tr e26
        refine ⟨_, _, twoV_dp (K := K) (e1126 _ _ chd11) (e1126 _ _ cb111) (hp11.ex e1126) (e1126 _ _ cb211), twoV_dp (K := K) c26 (e1126 _ _ ct11) (hp11.ex e1126) (e1126 _ _ eu11), shaped_twoV _ _, shaped_twoV _ _, ?_⟩
        rw [eqv_of_shaped (shaped_twoV _ _)]
        exact q _
    · have ho : outP ps' c vals = dueP ps' c vals := by
        unfold outP
        rw [if_neg hd0]
      rw [ho] at el13
      have hne : ¬ V.str (dueP ps' c vals) = V.str "" := fun y => hd0 (V.str.inj y)
      refine ⟨_, rfl, rfl, _, rfl, iteD (fun y => absurd y hne) (fun _ => iteF ?_)⟩
      refine ⟨_, rfl, l, _, _, _, rfl, rfl, .of el13, rfl, _, rfl, rfl, _, rfl, iteDN (fun y => absurd rfl y) (fun _ => ?_)⟩
      refine ⟨_, rfl, hd, _, _, .ref b1, rfl, rfl, .of chd13, rfl, _, rfl, _, rfl, hd, _, _, .ref b2, rfl, rfl, .of chd13, rfl, b1, b2, zs, ps', c, vals, rfl, cb113, hp13, hT6, .of cb213, fun H14 e14 => ?_⟩
      rw [ho, decide_eq_false hd0]
      refine ⟨_, rfl, rfl, rfl, _, rfl, iteB (fun y => ?_) (fun _ => ?_)⟩
      · have y' : (!decide (V.bl (!false) = V.bl (!decide (V.str (dueP ps' c vals) = V.str "")))) = true := y
        rw [decide_eq_false hne] at y'
        exact absurd y' (by decide)
      exact ⟨_, rfl, rfl, _, rfl, iteDN (fun _ => q _) (fun y => absurd y hne)⟩
theorem law_start {K : PySem.W.Frag} {H : Hp} {a : Addr} {ns : List Int} (hl : ns.length ≤ 63) (hO : Only H) (hS : SqL K H a (ns.map V.int)) : spLaw K [.ref a] H (fun v _ => v = .bl true) fun _ _ _ => False :=
  ⟨a, ns, rfl, hS, fun _ => rfl⟩
end
theorem tx_mk {K : PySem.W.Frag} {h : Heap} {mg : Str → Option Value} (X : K.In h) (G : h.Ns mainGlobals mg) {c_TillError : Addr} {c_NoTill : Addr} {c_NoKind : Addr} {c_Twice : Addr} {c_NoCount : Addr} {c_NoSum : Addr} {c_TooLittle : Addr} {c_NoChange : Addr} {c_TooFew : Addr} {c_StillHeld : Addr} {c_NoDeed : Addr} {a_check_count : Addr} {od_0 an_0 : Option Addr} {sl_0 : Array (Option Value)} {oc_0 kV_0 dc_0 pm_0 cd_0 ct_0 : Value} {a_count_of : Addr} {od_1 an_1 : Option Addr} {sl_1 : Array (Option Value)} {oc_1 kV_1 dc_1 pm_1 cd_1 ct_1 : Value} {a_check_sum : Addr} {od_2 an_2 : Option Addr} {sl_2 : Array (Option Value)} {oc_2 kV_2 dc_2 pm_2 cd_2 ct_2 : Value} {a_table : Addr} {od_3 an_3 : Option Addr} {sl_3 : Array (Option Value)} {oc_3 kV_3 dc_3 pm_3 cd_3 ct_3 : Value} {a_fewest : Addr} {od_4 an_4 : Option Addr} {sl_4 : Array (Option Value)} {oc_4 kV_4 dc_4 pm_4 cd_4 ct_4 : Value} {a_with_kind : Addr} {od_5 an_5 : Option Addr} {sl_5 : Array (Option Value)} {oc_5 kV_5 dc_5 pm_5 cd_5 ct_5 : Value} {a__bundles : Addr} {od_6 an_6 : Option Addr} {sl_6 : Array (Option Value)} {oc_6 kV_6 dc_6 pm_6 cd_6 ct_6 : Value} {a__with_bundle : Addr} {od_7 an_7 : Option Addr} {sl_7 : Array (Option Value)} {oc_7 kV_7 dc_7 pm_7 cd_7 ct_7 : Value} {a__most_given : Addr} {od_8 an_8 : Option Addr} {sl_8 : Array (Option Value)} {oc_8 kV_8 dc_8 pm_8 cd_8 ct_8 : Value} {a_paid : Addr} {od_9 an_9 : Option Addr} {sl_9 : Array (Option Value)} {oc_9 kV_9 dc_9 pm_9 cd_9 ct_9 : Value} {a_brought : Addr} {od_10 an_10 : Option Addr} {sl_10 : Array (Option Value)} {oc_10 kV_10 dc_10 pm_10 cd_10 ct_10 : Value} {a__with_count : Addr} {od_11 an_11 : Option Addr} {sl_11 : Array (Option Value)} {oc_11 kV_11 dc_11 pm_11 cd_11 ct_11 : Value} {a__law_cell_at : Addr} {od_12 an_12 : Option Addr} {sl_12 : Array (Option Value)} {oc_12 kV_12 dc_12 pm_12 cd_12 ct_12 : Value} {a__law_whole : Addr} {od_13 an_13 : Option Addr} {sl_13 : Array (Option Value)} {oc_13 kV_13 dc_13 pm_13 cd_13 ct_13 : Value} {a__law_mixed : Addr} {od_14 an_14 : Option Addr} {sl_14 : Array (Option Value)} {oc_14 kV_14 dc_14 pm_14 cd_14 ct_14 : Value} {a__law_value : Addr} {od_15 an_15 : Option Addr} {sl_15 : Array (Option Value)} {oc_15 kV_15 dc_15 pm_15 cd_15 ct_15 : Value} {a__law_count : Addr} {od_16 an_16 : Option Addr} {sl_16 : Array (Option Value)} {oc_16 kV_16 dc_16 pm_16 cd_16 ct_16 : Value} {a__law_pairs : Addr} {od_17 an_17 : Option Addr} {sl_17 : Array (Option Value)} {oc_17 kV_17 dc_17 pm_17 cd_17 ct_17 : Value} {a__law_alike : Addr} {od_18 an_18 : Option Addr} {sl_18 : Array (Option Value)} {oc_18 kV_18 dc_18 pm_18 cd_18 ct_18 : Value} {a__law_least : Addr} {od_19 an_19 : Option Addr} {sl_19 : Array (Option Value)} {oc_19 kV_19 dc_19 pm_19 cd_19 ct_19 : Value} {a__law_row : Addr} {od_20 an_20 : Option Addr} {sl_20 : Array (Option Value)} {oc_20 kV_20 dc_20 pm_20 cd_20 ct_20 : Value} {a__law_walked : Addr} {od_21 an_21 : Option Addr} {sl_21 : Array (Option Value)} {oc_21 kV_21 dc_21 pm_21 cd_21 ct_21 : Value} {a__law_change : Addr} {od_22 an_22 : Option Addr} {sl_22 : Array (Option Value)} {oc_22 kV_22 dc_22 pm_22 cd_22 ct_22 : Value} {a__law_values : Addr} {od_23 an_23 : Option Addr} {sl_23 : Array (Option Value)} {oc_23 kV_23 dc_23 pm_23 cd_23 ct_23 : Value} {a__law_full : Addr} {od_24 an_24 : Option Addr} {sl_24 : Array (Option Value)} {oc_24 kV_24 dc_24 pm_24 cd_24 ct_24 : Value} {a__law_due : Addr} {od_25 an_25 : Option Addr} {sl_25 : Array (Option Value)} {oc_25 kV_25 dc_25 pm_25 cd_25 ct_25 : Value} {a__law_tried : Addr} {od_26 an_26 : Option Addr} {sl_26 : Array (Option Value)} {oc_26 kV_26 dc_26 pm_26 cd_26 ct_26 : Value} {a__law_any : Addr} {od_27 an_27 : Option Addr} {sl_27 : Array (Option Value)} {oc_27 kV_27 dc_27 pm_27 cd_27 ct_27 : Value} {a__law_exact : Addr} {od_28 an_28 : Option Addr} {sl_28 : Array (Option Value)} {oc_28 kV_28 dc_28 pm_28 cd_28 ct_28 : Value} {a__law_given : Addr} {od_29 an_29 : Option Addr} {sl_29 : Array (Option Value)} {oc_29 kV_29 dc_29 pm_29 cd_29 ct_29 : Value} {a__law_within : Addr} {od_30 an_30 : Option Addr} {sl_30 : Array (Option Value)} {oc_30 kV_30 dc_30 pm_30 cd_30 ct_30 : Value} {a__law_near : Addr} {od_31 an_31 : Option Addr} {sl_31 : Array (Option Value)} {oc_31 kV_31 dc_31 pm_31 cd_31 ct_31 : Value} {a_law : Addr} {od_32 an_32 : Option Addr} {sl_32 : Array (Option Value)} {oc_32 kV_32 dc_32 pm_32 cd_32 ct_32 : Value} {tk_MOST_COUNT : Tok} {tk_MOST_SUM : Tok} {tk_MOST_PAID : Tok}
    (g_TillError : PySem.W.nsIn K mainGlobals "TillError" = some (some (.ref c_TillError)))
    (x_TillError : PySem.W.excIn K c_TillError [.type "ValueError", .type "Exception", .type "BaseException", .type "object"] "ValueError.__new__" = true)
    (k_TillError : PySem.W.keepIn K (.ref c_TillError) = true)
    (b_TillError : PySem.W.subIn K (.ref c_TillError) (.type "BaseException") = some true)
    (t_TillError : PySem.W.typeIn K (.ref c_TillError) = some (.type "type"))
    (i_TillError : PySem.W.isClsIn K c_TillError = true)
    (g_NoTill : PySem.W.nsIn K mainGlobals "NoTill" = some (some (.ref c_NoTill)))
    (x_NoTill : PySem.W.excIn K c_NoTill [.type "ValueError", .type "Exception", .type "BaseException", .type "object"] "ValueError.__new__" = true)
    (k_NoTill : PySem.W.keepIn K (.ref c_NoTill) = true)
    (b_NoTill : PySem.W.subIn K (.ref c_NoTill) (.type "BaseException") = some true)
    (t_NoTill : PySem.W.typeIn K (.ref c_NoTill) = some (.type "type"))
    (i_NoTill : PySem.W.isClsIn K c_NoTill = true)
    (g_NoKind : PySem.W.nsIn K mainGlobals "NoKind" = some (some (.ref c_NoKind)))
    (x_NoKind : PySem.W.excIn K c_NoKind [.type "ValueError", .type "Exception", .type "BaseException", .type "object"] "ValueError.__new__" = true)
    (k_NoKind : PySem.W.keepIn K (.ref c_NoKind) = true)
    (b_NoKind : PySem.W.subIn K (.ref c_NoKind) (.type "BaseException") = some true)
    (t_NoKind : PySem.W.typeIn K (.ref c_NoKind) = some (.type "type"))
    (i_NoKind : PySem.W.isClsIn K c_NoKind = true)
    (g_Twice : PySem.W.nsIn K mainGlobals "Twice" = some (some (.ref c_Twice)))
    (x_Twice : PySem.W.excIn K c_Twice [.type "ValueError", .type "Exception", .type "BaseException", .type "object"] "ValueError.__new__" = true)
    (k_Twice : PySem.W.keepIn K (.ref c_Twice) = true)
    (b_Twice : PySem.W.subIn K (.ref c_Twice) (.type "BaseException") = some true)
    (t_Twice : PySem.W.typeIn K (.ref c_Twice) = some (.type "type"))
    (i_Twice : PySem.W.isClsIn K c_Twice = true)
    (g_NoCount : PySem.W.nsIn K mainGlobals "NoCount" = some (some (.ref c_NoCount)))
    (x_NoCount : PySem.W.excIn K c_NoCount [.type "ValueError", .type "Exception", .type "BaseException", .type "object"] "ValueError.__new__" = true)
    (k_NoCount : PySem.W.keepIn K (.ref c_NoCount) = true)
    (b_NoCount : PySem.W.subIn K (.ref c_NoCount) (.type "BaseException") = some true)
    (t_NoCount : PySem.W.typeIn K (.ref c_NoCount) = some (.type "type"))
    (i_NoCount : PySem.W.isClsIn K c_NoCount = true)
    (g_NoSum : PySem.W.nsIn K mainGlobals "NoSum" = some (some (.ref c_NoSum)))
    (x_NoSum : PySem.W.excIn K c_NoSum [.type "ValueError", .type "Exception", .type "BaseException", .type "object"] "ValueError.__new__" = true)
    (k_NoSum : PySem.W.keepIn K (.ref c_NoSum) = true)
    (b_NoSum : PySem.W.subIn K (.ref c_NoSum) (.type "BaseException") = some true)
    (t_NoSum : PySem.W.typeIn K (.ref c_NoSum) = some (.type "type"))
    (i_NoSum : PySem.W.isClsIn K c_NoSum = true)
    (g_TooLittle : PySem.W.nsIn K mainGlobals "TooLittle" = some (some (.ref c_TooLittle)))
    (x_TooLittle : PySem.W.excIn K c_TooLittle [.type "ValueError", .type "Exception", .type "BaseException", .type "object"] "ValueError.__new__" = true)
    (k_TooLittle : PySem.W.keepIn K (.ref c_TooLittle) = true)
    (b_TooLittle : PySem.W.subIn K (.ref c_TooLittle) (.type "BaseException") = some true)
    (t_TooLittle : PySem.W.typeIn K (.ref c_TooLittle) = some (.type "type"))
    (i_TooLittle : PySem.W.isClsIn K c_TooLittle = true)
    (g_NoChange : PySem.W.nsIn K mainGlobals "NoChange" = some (some (.ref c_NoChange)))
    (x_NoChange : PySem.W.excIn K c_NoChange [.type "ValueError", .type "Exception", .type "BaseException", .type "object"] "ValueError.__new__" = true)
    (k_NoChange : PySem.W.keepIn K (.ref c_NoChange) = true)
    (b_NoChange : PySem.W.subIn K (.ref c_NoChange) (.type "BaseException") = some true)
    (t_NoChange : PySem.W.typeIn K (.ref c_NoChange) = some (.type "type"))
    (i_NoChange : PySem.W.isClsIn K c_NoChange = true)
    (g_TooFew : PySem.W.nsIn K mainGlobals "TooFew" = some (some (.ref c_TooFew)))
    (x_TooFew : PySem.W.excIn K c_TooFew [.type "ValueError", .type "Exception", .type "BaseException", .type "object"] "ValueError.__new__" = true)
    (k_TooFew : PySem.W.keepIn K (.ref c_TooFew) = true)
    (b_TooFew : PySem.W.subIn K (.ref c_TooFew) (.type "BaseException") = some true)
    (t_TooFew : PySem.W.typeIn K (.ref c_TooFew) = some (.type "type"))
    (i_TooFew : PySem.W.isClsIn K c_TooFew = true)
    (g_StillHeld : PySem.W.nsIn K mainGlobals "StillHeld" = some (some (.ref c_StillHeld)))
    (x_StillHeld : PySem.W.excIn K c_StillHeld [.type "ValueError", .type "Exception", .type "BaseException", .type "object"] "ValueError.__new__" = true)
    (k_StillHeld : PySem.W.keepIn K (.ref c_StillHeld) = true)
    (b_StillHeld : PySem.W.subIn K (.ref c_StillHeld) (.type "BaseException") = some true)
    (t_StillHeld : PySem.W.typeIn K (.ref c_StillHeld) = some (.type "type"))
    (i_StillHeld : PySem.W.isClsIn K c_StillHeld = true)
    (g_NoDeed : PySem.W.nsIn K mainGlobals "NoDeed" = some (some (.ref c_NoDeed)))
    (x_NoDeed : PySem.W.excIn K c_NoDeed [.type "ValueError", .type "Exception", .type "BaseException", .type "object"] "ValueError.__new__" = true)
    (k_NoDeed : PySem.W.keepIn K (.ref c_NoDeed) = true)
    (b_NoDeed : PySem.W.subIn K (.ref c_NoDeed) (.type "BaseException") = some true)
    (t_NoDeed : PySem.W.typeIn K (.ref c_NoDeed) = some (.type "type"))
    (i_NoDeed : PySem.W.isClsIn K c_NoDeed = true)
    (u_NoCount_NoSum : PySem.W.subIn K (.ref c_NoCount) (.ref c_NoSum) = some false)
    (u_NoCount_NoCount : PySem.W.subIn K (.ref c_NoCount) (.ref c_NoCount) = some true)
    (u_NoCount_NoKind : PySem.W.subIn K (.ref c_NoCount) (.ref c_NoKind) = some false)
    (u_NoCount_TooLittle : PySem.W.subIn K (.ref c_NoCount) (.ref c_TooLittle) = some false)
    (u_NoCount_NoChange : PySem.W.subIn K (.ref c_NoCount) (.ref c_NoChange) = some false)
    (u_NoCount_TillError : PySem.W.subIn K (.ref c_NoCount) (.ref c_TillError) = some true)
    (u_NoCount_NoDeed : PySem.W.subIn K (.ref c_NoCount) (.ref c_NoDeed) = some false)
    (u_NoCount_NoTill : PySem.W.subIn K (.ref c_NoCount) (.ref c_NoTill) = some false)
    (u_NoCount_StillHeld : PySem.W.subIn K (.ref c_NoCount) (.ref c_StillHeld) = some false)
    (u_NoCount_TooFew : PySem.W.subIn K (.ref c_NoCount) (.ref c_TooFew) = some false)
    (u_NoCount_Twice : PySem.W.subIn K (.ref c_NoCount) (.ref c_Twice) = some false)
    (u_NoKind_NoSum : PySem.W.subIn K (.ref c_NoKind) (.ref c_NoSum) = some false)
    (u_NoKind_NoCount : PySem.W.subIn K (.ref c_NoKind) (.ref c_NoCount) = some false)
    (u_NoKind_NoKind : PySem.W.subIn K (.ref c_NoKind) (.ref c_NoKind) = some true)
    (u_NoKind_TooLittle : PySem.W.subIn K (.ref c_NoKind) (.ref c_TooLittle) = some false)
    (u_NoKind_NoChange : PySem.W.subIn K (.ref c_NoKind) (.ref c_NoChange) = some false)
    (u_NoKind_TillError : PySem.W.subIn K (.ref c_NoKind) (.ref c_TillError) = some true)
    (u_NoKind_NoDeed : PySem.W.subIn K (.ref c_NoKind) (.ref c_NoDeed) = some false)
    (u_NoKind_NoTill : PySem.W.subIn K (.ref c_NoKind) (.ref c_NoTill) = some false)
    (u_NoKind_StillHeld : PySem.W.subIn K (.ref c_NoKind) (.ref c_StillHeld) = some false)
    (u_NoKind_TooFew : PySem.W.subIn K (.ref c_NoKind) (.ref c_TooFew) = some false)
    (u_NoKind_Twice : PySem.W.subIn K (.ref c_NoKind) (.ref c_Twice) = some false)
    (u_NoSum_NoSum : PySem.W.subIn K (.ref c_NoSum) (.ref c_NoSum) = some true)
    (u_NoSum_NoCount : PySem.W.subIn K (.ref c_NoSum) (.ref c_NoCount) = some false)
    (u_NoSum_NoKind : PySem.W.subIn K (.ref c_NoSum) (.ref c_NoKind) = some false)
    (u_NoSum_TooLittle : PySem.W.subIn K (.ref c_NoSum) (.ref c_TooLittle) = some false)
    (u_NoSum_NoChange : PySem.W.subIn K (.ref c_NoSum) (.ref c_NoChange) = some false)
    (u_NoSum_TillError : PySem.W.subIn K (.ref c_NoSum) (.ref c_TillError) = some true)
    (u_NoSum_NoDeed : PySem.W.subIn K (.ref c_NoSum) (.ref c_NoDeed) = some false)
    (u_NoSum_NoTill : PySem.W.subIn K (.ref c_NoSum) (.ref c_NoTill) = some false)
    (u_NoSum_StillHeld : PySem.W.subIn K (.ref c_NoSum) (.ref c_StillHeld) = some false)
    (u_NoSum_TooFew : PySem.W.subIn K (.ref c_NoSum) (.ref c_TooFew) = some false)
    (u_NoSum_Twice : PySem.W.subIn K (.ref c_NoSum) (.ref c_Twice) = some false)
    (u_NoChange_NoSum : PySem.W.subIn K (.ref c_NoChange) (.ref c_NoSum) = some false)
    (u_NoChange_NoCount : PySem.W.subIn K (.ref c_NoChange) (.ref c_NoCount) = some false)
    (u_NoChange_NoKind : PySem.W.subIn K (.ref c_NoChange) (.ref c_NoKind) = some false)
    (u_NoChange_TooLittle : PySem.W.subIn K (.ref c_NoChange) (.ref c_TooLittle) = some false)
    (u_NoChange_NoChange : PySem.W.subIn K (.ref c_NoChange) (.ref c_NoChange) = some true)
    (u_NoChange_TillError : PySem.W.subIn K (.ref c_NoChange) (.ref c_TillError) = some true)
    (u_NoChange_NoDeed : PySem.W.subIn K (.ref c_NoChange) (.ref c_NoDeed) = some false)
    (u_NoChange_NoTill : PySem.W.subIn K (.ref c_NoChange) (.ref c_NoTill) = some false)
    (u_NoChange_StillHeld : PySem.W.subIn K (.ref c_NoChange) (.ref c_StillHeld) = some false)
    (u_NoChange_TooFew : PySem.W.subIn K (.ref c_NoChange) (.ref c_TooFew) = some false)
    (u_NoChange_Twice : PySem.W.subIn K (.ref c_NoChange) (.ref c_Twice) = some false)
    (u_TooLittle_NoSum : PySem.W.subIn K (.ref c_TooLittle) (.ref c_NoSum) = some false)
    (u_TooLittle_NoCount : PySem.W.subIn K (.ref c_TooLittle) (.ref c_NoCount) = some false)
    (u_TooLittle_NoKind : PySem.W.subIn K (.ref c_TooLittle) (.ref c_NoKind) = some false)
    (u_TooLittle_TooLittle : PySem.W.subIn K (.ref c_TooLittle) (.ref c_TooLittle) = some true)
    (u_TooLittle_NoChange : PySem.W.subIn K (.ref c_TooLittle) (.ref c_NoChange) = some false)
    (u_TooLittle_TillError : PySem.W.subIn K (.ref c_TooLittle) (.ref c_TillError) = some true)
    (u_TooLittle_NoDeed : PySem.W.subIn K (.ref c_TooLittle) (.ref c_NoDeed) = some false)
    (u_TooLittle_NoTill : PySem.W.subIn K (.ref c_TooLittle) (.ref c_NoTill) = some false)
    (u_TooLittle_StillHeld : PySem.W.subIn K (.ref c_TooLittle) (.ref c_StillHeld) = some false)
    (u_TooLittle_TooFew : PySem.W.subIn K (.ref c_TooLittle) (.ref c_TooFew) = some false)
    (u_TooLittle_Twice : PySem.W.subIn K (.ref c_TooLittle) (.ref c_Twice) = some false)
    (hg_NoCount : PySem.W.findIn K (.ref c_NoCount) "__getattribute__" = some (some (.builtin "BaseException.__getattribute__")))
    (hk_NoCount : PySem.W.findIn K (.ref c_NoCount) "__getattr__" = some none)
    (hd_NoCount : PySem.W.hasDictIn K c_NoCount = true)
    (ha_NoCount : PySem.W.findIn K (.ref c_NoCount) "__class__" = some (some (.builtin "object.__class__")))
    (hm_NoCount : PySem.W.mroIn K c_NoCount (.type "object") = some true)
    (z_NoCount : PySem.W.subIn K (.ref c_NoCount) (.type "ValueError") = some true)
    (n_NoCount_NoDeed : c_NoCount ≠ c_NoDeed)
    (n_NoCount_NoTill : c_NoCount ≠ c_NoTill)
    (n_NoCount_StillHeld : c_NoCount ≠ c_StillHeld)
    (n_NoCount_TooFew : c_NoCount ≠ c_TooFew)
    (n_NoCount_Twice : c_NoCount ≠ c_Twice)
    (hg_NoKind : PySem.W.findIn K (.ref c_NoKind) "__getattribute__" = some (some (.builtin "BaseException.__getattribute__")))
    (hk_NoKind : PySem.W.findIn K (.ref c_NoKind) "__getattr__" = some none)
    (hd_NoKind : PySem.W.hasDictIn K c_NoKind = true)
    (ha_NoKind : PySem.W.findIn K (.ref c_NoKind) "__class__" = some (some (.builtin "object.__class__")))
    (hm_NoKind : PySem.W.mroIn K c_NoKind (.type "object") = some true)
    (z_NoKind : PySem.W.subIn K (.ref c_NoKind) (.type "ValueError") = some true)
    (n_NoKind_NoDeed : c_NoKind ≠ c_NoDeed)
    (n_NoKind_NoTill : c_NoKind ≠ c_NoTill)
    (n_NoKind_StillHeld : c_NoKind ≠ c_StillHeld)
    (n_NoKind_TooFew : c_NoKind ≠ c_TooFew)
    (n_NoKind_Twice : c_NoKind ≠ c_Twice)
    (hg_NoSum : PySem.W.findIn K (.ref c_NoSum) "__getattribute__" = some (some (.builtin "BaseException.__getattribute__")))
    (hk_NoSum : PySem.W.findIn K (.ref c_NoSum) "__getattr__" = some none)
    (hd_NoSum : PySem.W.hasDictIn K c_NoSum = true)
    (ha_NoSum : PySem.W.findIn K (.ref c_NoSum) "__class__" = some (some (.builtin "object.__class__")))
    (hm_NoSum : PySem.W.mroIn K c_NoSum (.type "object") = some true)
    (z_NoSum : PySem.W.subIn K (.ref c_NoSum) (.type "ValueError") = some true)
    (n_NoSum_NoDeed : c_NoSum ≠ c_NoDeed)
    (n_NoSum_NoTill : c_NoSum ≠ c_NoTill)
    (n_NoSum_StillHeld : c_NoSum ≠ c_StillHeld)
    (n_NoSum_TooFew : c_NoSum ≠ c_TooFew)
    (n_NoSum_Twice : c_NoSum ≠ c_Twice)
    (hg_NoChange : PySem.W.findIn K (.ref c_NoChange) "__getattribute__" = some (some (.builtin "BaseException.__getattribute__")))
    (hk_NoChange : PySem.W.findIn K (.ref c_NoChange) "__getattr__" = some none)
    (hd_NoChange : PySem.W.hasDictIn K c_NoChange = true)
    (ha_NoChange : PySem.W.findIn K (.ref c_NoChange) "__class__" = some (some (.builtin "object.__class__")))
    (hm_NoChange : PySem.W.mroIn K c_NoChange (.type "object") = some true)
    (z_NoChange : PySem.W.subIn K (.ref c_NoChange) (.type "ValueError") = some true)
    (n_NoChange_NoDeed : c_NoChange ≠ c_NoDeed)
    (n_NoChange_NoTill : c_NoChange ≠ c_NoTill)
    (n_NoChange_StillHeld : c_NoChange ≠ c_StillHeld)
    (n_NoChange_TooFew : c_NoChange ≠ c_TooFew)
    (n_NoChange_Twice : c_NoChange ≠ c_Twice)
    (hg_TooLittle : PySem.W.findIn K (.ref c_TooLittle) "__getattribute__" = some (some (.builtin "BaseException.__getattribute__")))
    (hk_TooLittle : PySem.W.findIn K (.ref c_TooLittle) "__getattr__" = some none)
    (hd_TooLittle : PySem.W.hasDictIn K c_TooLittle = true)
    (ha_TooLittle : PySem.W.findIn K (.ref c_TooLittle) "__class__" = some (some (.builtin "object.__class__")))
    (hm_TooLittle : PySem.W.mroIn K c_TooLittle (.type "object") = some true)
    (z_TooLittle : PySem.W.subIn K (.ref c_TooLittle) (.type "ValueError") = some true)
    (n_TooLittle_NoDeed : c_TooLittle ≠ c_NoDeed)
    (n_TooLittle_NoTill : c_TooLittle ≠ c_NoTill)
    (n_TooLittle_StillHeld : c_TooLittle ≠ c_StillHeld)
    (n_TooLittle_TooFew : c_TooLittle ≠ c_TooFew)
    (n_TooLittle_Twice : c_TooLittle ≠ c_Twice)
    (hn : PySem.W.specialIn K (.builtin "object.__class__") "__get__" = some (some (.builtin "getset_descriptor.__get__")))
    (ht : PySem.W.takesIn K (.builtin "object.__class__") = some true)
    (g_check_count : PySem.W.nsIn K mainGlobals "check_count" = some (some (.ref a_check_count)))
    (l_check_count : K.lookup a_check_count = some ⟨oc_0, od_0, .func (PySem.W.fnOf "check_count" "check_count" (defArgs s_check_count) (defBody s_check_count) (defScope s_check_count) .none kV_0 dc_0 pm_0 an_0 cd_0 ct_0), sl_0⟩)
    (o_check_count : PySem.W.codeIn K cd_0 "check_count" = true)
    (k_check_count : PySem.W.keepIn K (.ref a_check_count) = true)
    (g_count_of : PySem.W.nsIn K mainGlobals "count_of" = some (some (.ref a_count_of)))
    (l_count_of : K.lookup a_count_of = some ⟨oc_1, od_1, .func (PySem.W.fnOf "count_of" "count_of" (defArgs s_count_of) (defBody s_count_of) (defScope s_count_of) .none kV_1 dc_1 pm_1 an_1 cd_1 ct_1), sl_1⟩)
    (o_count_of : PySem.W.codeIn K cd_1 "count_of" = true)
    (k_count_of : PySem.W.keepIn K (.ref a_count_of) = true)
    (g_check_sum : PySem.W.nsIn K mainGlobals "check_sum" = some (some (.ref a_check_sum)))
    (l_check_sum : K.lookup a_check_sum = some ⟨oc_2, od_2, .func (PySem.W.fnOf "check_sum" "check_sum" (defArgs s_check_sum) (defBody s_check_sum) (defScope s_check_sum) .none kV_2 dc_2 pm_2 an_2 cd_2 ct_2), sl_2⟩)
    (o_check_sum : PySem.W.codeIn K cd_2 "check_sum" = true)
    (k_check_sum : PySem.W.keepIn K (.ref a_check_sum) = true)
    (g_table : PySem.W.nsIn K mainGlobals "table" = some (some (.ref a_table)))
    (l_table : K.lookup a_table = some ⟨oc_3, od_3, .func (PySem.W.fnOf "table" "table" (defArgs s_table) (defBody s_table) (defScope s_table) .none kV_3 dc_3 pm_3 an_3 cd_3 ct_3), sl_3⟩)
    (o_table : PySem.W.codeIn K cd_3 "table" = true)
    (k_table : PySem.W.keepIn K (.ref a_table) = true)
    (g_fewest : PySem.W.nsIn K mainGlobals "fewest" = some (some (.ref a_fewest)))
    (l_fewest : K.lookup a_fewest = some ⟨oc_4, od_4, .func (PySem.W.fnOf "fewest" "fewest" (defArgs s_fewest) (defBody s_fewest) (defScope s_fewest) .none kV_4 dc_4 pm_4 an_4 cd_4 ct_4), sl_4⟩)
    (o_fewest : PySem.W.codeIn K cd_4 "fewest" = true)
    (k_fewest : PySem.W.keepIn K (.ref a_fewest) = true)
    (g_with_kind : PySem.W.nsIn K mainGlobals "with_kind" = some (some (.ref a_with_kind)))
    (l_with_kind : K.lookup a_with_kind = some ⟨oc_5, od_5, .func (PySem.W.fnOf "with_kind" "with_kind" (defArgs s_with_kind) (defBody s_with_kind) (defScope s_with_kind) .none kV_5 dc_5 pm_5 an_5 cd_5 ct_5), sl_5⟩)
    (o_with_kind : PySem.W.codeIn K cd_5 "with_kind" = true)
    (k_with_kind : PySem.W.keepIn K (.ref a_with_kind) = true)
    (g__bundles : PySem.W.nsIn K mainGlobals "_bundles" = some (some (.ref a__bundles)))
    (l__bundles : K.lookup a__bundles = some ⟨oc_6, od_6, .func (PySem.W.fnOf "_bundles" "_bundles" (defArgs s__bundles) (defBody s__bundles) (defScope s__bundles) .none kV_6 dc_6 pm_6 an_6 cd_6 ct_6), sl_6⟩)
    (o__bundles : PySem.W.codeIn K cd_6 "_bundles" = true)
    (k__bundles : PySem.W.keepIn K (.ref a__bundles) = true)
    (g__with_bundle : PySem.W.nsIn K mainGlobals "_with_bundle" = some (some (.ref a__with_bundle)))
    (l__with_bundle : K.lookup a__with_bundle = some ⟨oc_7, od_7, .func (PySem.W.fnOf "_with_bundle" "_with_bundle" (defArgs s__with_bundle) (defBody s__with_bundle) (defScope s__with_bundle) .none kV_7 dc_7 pm_7 an_7 cd_7 ct_7), sl_7⟩)
    (o__with_bundle : PySem.W.codeIn K cd_7 "_with_bundle" = true)
    (k__with_bundle : PySem.W.keepIn K (.ref a__with_bundle) = true)
    (g__most_given : PySem.W.nsIn K mainGlobals "_most_given" = some (some (.ref a__most_given)))
    (l__most_given : K.lookup a__most_given = some ⟨oc_8, od_8, .func (PySem.W.fnOf "_most_given" "_most_given" (defArgs s__most_given) (defBody s__most_given) (defScope s__most_given) .none kV_8 dc_8 pm_8 an_8 cd_8 ct_8), sl_8⟩)
    (o__most_given : PySem.W.codeIn K cd_8 "_most_given" = true)
    (k__most_given : PySem.W.keepIn K (.ref a__most_given) = true)
    (g_paid : PySem.W.nsIn K mainGlobals "paid" = some (some (.ref a_paid)))
    (l_paid : K.lookup a_paid = some ⟨oc_9, od_9, .func (PySem.W.fnOf "paid" "paid" (defArgs s_paid) (defBody s_paid) (defScope s_paid) .none kV_9 dc_9 pm_9 an_9 cd_9 ct_9), sl_9⟩)
    (o_paid : PySem.W.codeIn K cd_9 "paid" = true)
    (k_paid : PySem.W.keepIn K (.ref a_paid) = true)
    (g_brought : PySem.W.nsIn K mainGlobals "brought" = some (some (.ref a_brought)))
    (l_brought : K.lookup a_brought = some ⟨oc_10, od_10, .func (PySem.W.fnOf "brought" "brought" (defArgs s_brought) (defBody s_brought) (defScope s_brought) .none kV_10 dc_10 pm_10 an_10 cd_10 ct_10), sl_10⟩)
    (o_brought : PySem.W.codeIn K cd_10 "brought" = true)
    (k_brought : PySem.W.keepIn K (.ref a_brought) = true)
    (g__with_count : PySem.W.nsIn K mainGlobals "_with_count" = some (some (.ref a__with_count)))
    (l__with_count : K.lookup a__with_count = some ⟨oc_11, od_11, .func (PySem.W.fnOf "_with_count" "_with_count" (defArgs s__with_count) (defBody s__with_count) (defScope s__with_count) .none kV_11 dc_11 pm_11 an_11 cd_11 ct_11), sl_11⟩)
    (o__with_count : PySem.W.codeIn K cd_11 "_with_count" = true)
    (k__with_count : PySem.W.keepIn K (.ref a__with_count) = true)
    (g__law_cell_at : PySem.W.nsIn K mainGlobals "_law_cell_at" = some (some (.ref a__law_cell_at)))
    (l__law_cell_at : K.lookup a__law_cell_at = some ⟨oc_12, od_12, .func (PySem.W.fnOf "_law_cell_at" "_law_cell_at" (defArgs s__law_cell_at) (defBody s__law_cell_at) (defScope s__law_cell_at) .none kV_12 dc_12 pm_12 an_12 cd_12 ct_12), sl_12⟩)
    (o__law_cell_at : PySem.W.codeIn K cd_12 "_law_cell_at" = true)
    (k__law_cell_at : PySem.W.keepIn K (.ref a__law_cell_at) = true)
    (g__law_whole : PySem.W.nsIn K mainGlobals "_law_whole" = some (some (.ref a__law_whole)))
    (l__law_whole : K.lookup a__law_whole = some ⟨oc_13, od_13, .func (PySem.W.fnOf "_law_whole" "_law_whole" (defArgs s__law_whole) (defBody s__law_whole) (defScope s__law_whole) .none kV_13 dc_13 pm_13 an_13 cd_13 ct_13), sl_13⟩)
    (o__law_whole : PySem.W.codeIn K cd_13 "_law_whole" = true)
    (k__law_whole : PySem.W.keepIn K (.ref a__law_whole) = true)
    (g__law_mixed : PySem.W.nsIn K mainGlobals "_law_mixed" = some (some (.ref a__law_mixed)))
    (l__law_mixed : K.lookup a__law_mixed = some ⟨oc_14, od_14, .func (PySem.W.fnOf "_law_mixed" "_law_mixed" (defArgs s__law_mixed) (defBody s__law_mixed) (defScope s__law_mixed) .none kV_14 dc_14 pm_14 an_14 cd_14 ct_14), sl_14⟩)
    (o__law_mixed : PySem.W.codeIn K cd_14 "_law_mixed" = true)
    (k__law_mixed : PySem.W.keepIn K (.ref a__law_mixed) = true)
    (g__law_value : PySem.W.nsIn K mainGlobals "_law_value" = some (some (.ref a__law_value)))
    (l__law_value : K.lookup a__law_value = some ⟨oc_15, od_15, .func (PySem.W.fnOf "_law_value" "_law_value" (defArgs s__law_value) (defBody s__law_value) (defScope s__law_value) .none kV_15 dc_15 pm_15 an_15 cd_15 ct_15), sl_15⟩)
    (o__law_value : PySem.W.codeIn K cd_15 "_law_value" = true)
    (k__law_value : PySem.W.keepIn K (.ref a__law_value) = true)
    (g__law_count : PySem.W.nsIn K mainGlobals "_law_count" = some (some (.ref a__law_count)))
    (l__law_count : K.lookup a__law_count = some ⟨oc_16, od_16, .func (PySem.W.fnOf "_law_count" "_law_count" (defArgs s__law_count) (defBody s__law_count) (defScope s__law_count) .none kV_16 dc_16 pm_16 an_16 cd_16 ct_16), sl_16⟩)
    (o__law_count : PySem.W.codeIn K cd_16 "_law_count" = true)
    (k__law_count : PySem.W.keepIn K (.ref a__law_count) = true)
    (g__law_pairs : PySem.W.nsIn K mainGlobals "_law_pairs" = some (some (.ref a__law_pairs)))
    (l__law_pairs : K.lookup a__law_pairs = some ⟨oc_17, od_17, .func (PySem.W.fnOf "_law_pairs" "_law_pairs" (defArgs s__law_pairs) (defBody s__law_pairs) (defScope s__law_pairs) .none kV_17 dc_17 pm_17 an_17 cd_17 ct_17), sl_17⟩)
    (o__law_pairs : PySem.W.codeIn K cd_17 "_law_pairs" = true)
    (k__law_pairs : PySem.W.keepIn K (.ref a__law_pairs) = true)
    (g__law_alike : PySem.W.nsIn K mainGlobals "_law_alike" = some (some (.ref a__law_alike)))
    (l__law_alike : K.lookup a__law_alike = some ⟨oc_18, od_18, .func (PySem.W.fnOf "_law_alike" "_law_alike" (defArgs s__law_alike) (defBody s__law_alike) (defScope s__law_alike) .none kV_18 dc_18 pm_18 an_18 cd_18 ct_18), sl_18⟩)
    (o__law_alike : PySem.W.codeIn K cd_18 "_law_alike" = true)
    (k__law_alike : PySem.W.keepIn K (.ref a__law_alike) = true)
    (g__law_least : PySem.W.nsIn K mainGlobals "_law_least" = some (some (.ref a__law_least)))
    (l__law_least : K.lookup a__law_least = some ⟨oc_19, od_19, .func (PySem.W.fnOf "_law_least" "_law_least" (defArgs s__law_least) (defBody s__law_least) (defScope s__law_least) .none kV_19 dc_19 pm_19 an_19 cd_19 ct_19), sl_19⟩)
    (o__law_least : PySem.W.codeIn K cd_19 "_law_least" = true)
    (k__law_least : PySem.W.keepIn K (.ref a__law_least) = true)
    (g__law_row : PySem.W.nsIn K mainGlobals "_law_row" = some (some (.ref a__law_row)))
    (l__law_row : K.lookup a__law_row = some ⟨oc_20, od_20, .func (PySem.W.fnOf "_law_row" "_law_row" (defArgs s__law_row) (defBody s__law_row) (defScope s__law_row) .none kV_20 dc_20 pm_20 an_20 cd_20 ct_20), sl_20⟩)
    (o__law_row : PySem.W.codeIn K cd_20 "_law_row" = true)
    (k__law_row : PySem.W.keepIn K (.ref a__law_row) = true)
    (g__law_walked : PySem.W.nsIn K mainGlobals "_law_walked" = some (some (.ref a__law_walked)))
    (l__law_walked : K.lookup a__law_walked = some ⟨oc_21, od_21, .func (PySem.W.fnOf "_law_walked" "_law_walked" (defArgs s__law_walked) (defBody s__law_walked) (defScope s__law_walked) .none kV_21 dc_21 pm_21 an_21 cd_21 ct_21), sl_21⟩)
    (o__law_walked : PySem.W.codeIn K cd_21 "_law_walked" = true)
    (k__law_walked : PySem.W.keepIn K (.ref a__law_walked) = true)
    (g__law_change : PySem.W.nsIn K mainGlobals "_law_change" = some (some (.ref a__law_change)))
    (l__law_change : K.lookup a__law_change = some ⟨oc_22, od_22, .func (PySem.W.fnOf "_law_change" "_law_change" (defArgs s__law_change) (defBody s__law_change) (defScope s__law_change) .none kV_22 dc_22 pm_22 an_22 cd_22 ct_22), sl_22⟩)
    (o__law_change : PySem.W.codeIn K cd_22 "_law_change" = true)
    (k__law_change : PySem.W.keepIn K (.ref a__law_change) = true)
    (g__law_values : PySem.W.nsIn K mainGlobals "_law_values" = some (some (.ref a__law_values)))
    (l__law_values : K.lookup a__law_values = some ⟨oc_23, od_23, .func (PySem.W.fnOf "_law_values" "_law_values" (defArgs s__law_values) (defBody s__law_values) (defScope s__law_values) .none kV_23 dc_23 pm_23 an_23 cd_23 ct_23), sl_23⟩)
    (o__law_values : PySem.W.codeIn K cd_23 "_law_values" = true)
    (k__law_values : PySem.W.keepIn K (.ref a__law_values) = true)
    (g__law_full : PySem.W.nsIn K mainGlobals "_law_full" = some (some (.ref a__law_full)))
    (l__law_full : K.lookup a__law_full = some ⟨oc_24, od_24, .func (PySem.W.fnOf "_law_full" "_law_full" (defArgs s__law_full) (defBody s__law_full) (defScope s__law_full) .none kV_24 dc_24 pm_24 an_24 cd_24 ct_24), sl_24⟩)
    (o__law_full : PySem.W.codeIn K cd_24 "_law_full" = true)
    (k__law_full : PySem.W.keepIn K (.ref a__law_full) = true)
    (g__law_due : PySem.W.nsIn K mainGlobals "_law_due" = some (some (.ref a__law_due)))
    (l__law_due : K.lookup a__law_due = some ⟨oc_25, od_25, .func (PySem.W.fnOf "_law_due" "_law_due" (defArgs s__law_due) (defBody s__law_due) (defScope s__law_due) .none kV_25 dc_25 pm_25 an_25 cd_25 ct_25), sl_25⟩)
    (o__law_due : PySem.W.codeIn K cd_25 "_law_due" = true)
    (k__law_due : PySem.W.keepIn K (.ref a__law_due) = true)
    (g__law_tried : PySem.W.nsIn K mainGlobals "_law_tried" = some (some (.ref a__law_tried)))
    (l__law_tried : K.lookup a__law_tried = some ⟨oc_26, od_26, .func (PySem.W.fnOf "_law_tried" "_law_tried" (defArgs s__law_tried) (defBody s__law_tried) (defScope s__law_tried) .none kV_26 dc_26 pm_26 an_26 cd_26 ct_26), sl_26⟩)
    (o__law_tried : PySem.W.codeIn K cd_26 "_law_tried" = true)
    (k__law_tried : PySem.W.keepIn K (.ref a__law_tried) = true)
    (g__law_any : PySem.W.nsIn K mainGlobals "_law_any" = some (some (.ref a__law_any)))
    (l__law_any : K.lookup a__law_any = some ⟨oc_27, od_27, .func (PySem.W.fnOf "_law_any" "_law_any" (defArgs s__law_any) (defBody s__law_any) (defScope s__law_any) .none kV_27 dc_27 pm_27 an_27 cd_27 ct_27), sl_27⟩)
    (o__law_any : PySem.W.codeIn K cd_27 "_law_any" = true)
    (k__law_any : PySem.W.keepIn K (.ref a__law_any) = true)
    (g__law_exact : PySem.W.nsIn K mainGlobals "_law_exact" = some (some (.ref a__law_exact)))
    (l__law_exact : K.lookup a__law_exact = some ⟨oc_28, od_28, .func (PySem.W.fnOf "_law_exact" "_law_exact" (defArgs s__law_exact) (defBody s__law_exact) (defScope s__law_exact) .none kV_28 dc_28 pm_28 an_28 cd_28 ct_28), sl_28⟩)
    (o__law_exact : PySem.W.codeIn K cd_28 "_law_exact" = true)
    (k__law_exact : PySem.W.keepIn K (.ref a__law_exact) = true)
    (g__law_given : PySem.W.nsIn K mainGlobals "_law_given" = some (some (.ref a__law_given)))
    (l__law_given : K.lookup a__law_given = some ⟨oc_29, od_29, .func (PySem.W.fnOf "_law_given" "_law_given" (defArgs s__law_given) (defBody s__law_given) (defScope s__law_given) .none kV_29 dc_29 pm_29 an_29 cd_29 ct_29), sl_29⟩)
    (o__law_given : PySem.W.codeIn K cd_29 "_law_given" = true)
    (k__law_given : PySem.W.keepIn K (.ref a__law_given) = true)
    (g__law_within : PySem.W.nsIn K mainGlobals "_law_within" = some (some (.ref a__law_within)))
    (l__law_within : K.lookup a__law_within = some ⟨oc_30, od_30, .func (PySem.W.fnOf "_law_within" "_law_within" (defArgs s__law_within) (defBody s__law_within) (defScope s__law_within) .none kV_30 dc_30 pm_30 an_30 cd_30 ct_30), sl_30⟩)
    (o__law_within : PySem.W.codeIn K cd_30 "_law_within" = true)
    (k__law_within : PySem.W.keepIn K (.ref a__law_within) = true)
    (g__law_near : PySem.W.nsIn K mainGlobals "_law_near" = some (some (.ref a__law_near)))
    (l__law_near : K.lookup a__law_near = some ⟨oc_31, od_31, .func (PySem.W.fnOf "_law_near" "_law_near" (defArgs s__law_near) (defBody s__law_near) (defScope s__law_near) .none kV_31 dc_31 pm_31 an_31 cd_31 ct_31), sl_31⟩)
    (o__law_near : PySem.W.codeIn K cd_31 "_law_near" = true)
    (k__law_near : PySem.W.keepIn K (.ref a__law_near) = true)
    (g_law : PySem.W.nsIn K mainGlobals "law" = some (some (.ref a_law)))
    (l_law : K.lookup a_law = some ⟨oc_32, od_32, .func (PySem.W.fnOf "law" "law" (defArgs s_law) (defBody s_law) (defScope s_law) .none kV_32 dc_32 pm_32 an_32 cd_32 ct_32), sl_32⟩)
    (o_law : PySem.W.codeIn K cd_32 "law" = true)
    (k_law : PySem.W.keepIn K (.ref a_law) = true)
    (w_MOST_COUNT : PySem.W.nsIn K mainGlobals "MOST_COUNT" = some (some (.int 1000000000 tk_MOST_COUNT)))
    (w_MOST_SUM : PySem.W.nsIn K mainGlobals "MOST_SUM" = some (some (.int 1000 tk_MOST_SUM)))
    (w_MOST_PAID : PySem.W.nsIn K mainGlobals "MOST_PAID" = some (some (.int 60 tk_MOST_PAID)))
    (m_ValueError : PySem.W.nsIn K mainGlobals "ValueError" = some none)
    (m_bool : PySem.W.nsIn K mainGlobals "bool" = some none)
    (m_dict : PySem.W.nsIn K mainGlobals "dict" = some none)
    (m_int : PySem.W.nsIn K mainGlobals "int" = some none)
    (m_isinstance : PySem.W.nsIn K mainGlobals "isinstance" = some none)
    (m_len : PySem.W.nsIn K mainGlobals "len" = some none)
    (m_list : PySem.W.nsIn K mainGlobals "list" = some none)
    (m_max : PySem.W.nsIn K mainGlobals "max" = some none)
    (m_min : PySem.W.nsIn K mainGlobals "min" = some none)
    (m_range : PySem.W.nsIn K mainGlobals "range" = some none)
    (m_reversed : PySem.W.nsIn K mainGlobals "reversed" = some none)
    (m_sorted : PySem.W.nsIn K mainGlobals "sorted" = some none)
    (m_sum : PySem.W.nsIn K mainGlobals "sum" = some none)
    (m_tuple : PySem.W.nsIn K mainGlobals "tuple" = some none)
    : ∃ T : Tx K mg, T.a_law = a_law ∧ (∀ (s : Shared) (v : Value), BindsTo s T.d_law ⟨[v], []⟩ [("_law_script", v)]) := by
  have F_check_count := fun_mk (st := s_check_count) l_check_count o_check_count k_check_count
  have B_check_count := F_check_count.binds (ps := P_check_count) fun _ _ _ _ _ _ us hl => match us, hl with | [_], _ => rfl
  have F_count_of := fun_mk (st := s_count_of) l_count_of o_count_of k_count_of
  have B_count_of := F_count_of.binds (ps := P_count_of) fun _ _ _ _ _ _ us hl => match us, hl with | [_, _], _ => rfl
  have F_check_sum := fun_mk (st := s_check_sum) l_check_sum o_check_sum k_check_sum
  have B_check_sum := F_check_sum.binds (ps := P_check_sum) fun _ _ _ _ _ _ us hl => match us, hl with | [_], _ => rfl
  have F_table := fun_mk (st := s_table) l_table o_table k_table
  have B_table := F_table.binds (ps := P_table) fun _ _ _ _ _ _ us hl => match us, hl with | [_, _], _ => rfl
  have F_fewest := fun_mk (st := s_fewest) l_fewest o_fewest k_fewest
  have B_fewest := F_fewest.binds (ps := P_fewest) fun _ _ _ _ _ _ us hl => match us, hl with | [_, _], _ => rfl
  have F_with_kind := fun_mk (st := s_with_kind) l_with_kind o_with_kind k_with_kind
  have B_with_kind := F_with_kind.binds (ps := P_with_kind) fun _ _ _ _ _ _ us hl => match us, hl with | [_, _, _], _ => rfl
  have F__bundles := fun_mk (st := s__bundles) l__bundles o__bundles k__bundles
  have B__bundles := F__bundles.binds (ps := P__bundles) fun _ _ _ _ _ _ us hl => match us, hl with | [_], _ => rfl
  have F__with_bundle := fun_mk (st := s__with_bundle) l__with_bundle o__with_bundle k__with_bundle
  have B__with_bundle := F__with_bundle.binds (ps := P__with_bundle) fun _ _ _ _ _ _ us hl => match us, hl with | [_, _, _], _ => rfl
  have F__most_given := fun_mk (st := s__most_given) l__most_given o__most_given k__most_given
  have B__most_given := F__most_given.binds (ps := P__most_given) fun _ _ _ _ _ _ us hl => match us, hl with | [_, _, _, _, _], _ => rfl
  have F_paid := fun_mk (st := s_paid) l_paid o_paid k_paid
  have B_paid := F_paid.binds (ps := P_paid) fun _ _ _ _ _ _ us hl => match us, hl with | [_, _, _], _ => rfl
  have F_brought := fun_mk (st := s_brought) l_brought o_brought k_brought
  have B_brought := F_brought.binds (ps := P_brought) fun _ _ _ _ _ _ us hl => match us, hl with | [_, _, _], _ => rfl
  have F__with_count := fun_mk (st := s__with_count) l__with_count o__with_count k__with_count
  have B__with_count := F__with_count.binds (ps := P__with_count) fun _ _ _ _ _ _ us hl => match us, hl with | [_, _, _], _ => rfl
  have F__law_cell_at := fun_mk (st := s__law_cell_at) l__law_cell_at o__law_cell_at k__law_cell_at
  have B__law_cell_at := F__law_cell_at.binds (ps := P__law_cell_at) fun _ _ _ _ _ _ us hl => match us, hl with | [_, _], _ => rfl
  have F__law_whole := fun_mk (st := s__law_whole) l__law_whole o__law_whole k__law_whole
  have B__law_whole := F__law_whole.binds (ps := P__law_whole) fun _ _ _ _ _ _ us hl => match us, hl with | [_], _ => rfl
  have F__law_mixed := fun_mk (st := s__law_mixed) l__law_mixed o__law_mixed k__law_mixed
  have B__law_mixed := F__law_mixed.binds (ps := P__law_mixed) fun _ _ _ _ _ _ us hl => match us, hl with | [_, _], _ => rfl
  have F__law_value := fun_mk (st := s__law_value) l__law_value o__law_value k__law_value
  have B__law_value := F__law_value.binds (ps := P__law_value) fun _ _ _ _ _ _ us hl => match us, hl with | [_, _], _ => rfl
  have F__law_count := fun_mk (st := s__law_count) l__law_count o__law_count k__law_count
  have B__law_count := F__law_count.binds (ps := P__law_count) fun _ _ _ _ _ _ us hl => match us, hl with | [_, _], _ => rfl
  have F__law_pairs := fun_mk (st := s__law_pairs) l__law_pairs o__law_pairs k__law_pairs
  have B__law_pairs := F__law_pairs.binds (ps := P__law_pairs) fun _ _ _ _ _ _ us hl => match us, hl with | [_], _ => rfl
  have F__law_alike := fun_mk (st := s__law_alike) l__law_alike o__law_alike k__law_alike
  have B__law_alike := F__law_alike.binds (ps := P__law_alike) fun _ _ _ _ _ _ us hl => match us, hl with | [_, _], _ => rfl
  have F__law_least := fun_mk (st := s__law_least) l__law_least o__law_least k__law_least
  have B__law_least := F__law_least.binds (ps := P__law_least) fun _ _ _ _ _ _ us hl => match us, hl with | [_, _, _, _], _ => rfl
  have F__law_row := fun_mk (st := s__law_row) l__law_row o__law_row k__law_row
  have B__law_row := F__law_row.binds (ps := P__law_row) fun _ _ _ _ _ _ us hl => match us, hl with | [_, _], _ => rfl
  have F__law_walked := fun_mk (st := s__law_walked) l__law_walked o__law_walked k__law_walked
  have B__law_walked := F__law_walked.binds (ps := P__law_walked) fun _ _ _ _ _ _ us hl => match us, hl with | [_, _, _], _ => rfl
  have F__law_change := fun_mk (st := s__law_change) l__law_change o__law_change k__law_change
  have B__law_change := F__law_change.binds (ps := P__law_change) fun _ _ _ _ _ _ us hl => match us, hl with | [_, _, _], _ => rfl
  have F__law_values := fun_mk (st := s__law_values) l__law_values o__law_values k__law_values
  have B__law_values := F__law_values.binds (ps := P__law_values) fun _ _ _ _ _ _ us hl => match us, hl with | [_, _, _], _ => rfl
  have F__law_full := fun_mk (st := s__law_full) l__law_full o__law_full k__law_full
  have B__law_full := F__law_full.binds (ps := P__law_full) fun _ _ _ _ _ _ us hl => match us, hl with | [_, _], _ => rfl
  have F__law_due := fun_mk (st := s__law_due) l__law_due o__law_due k__law_due
  have B__law_due := F__law_due.binds (ps := P__law_due) fun _ _ _ _ _ _ us hl => match us, hl with | [_, _, _], _ => rfl
  have F__law_tried := fun_mk (st := s__law_tried) l__law_tried o__law_tried k__law_tried
  have B__law_tried := F__law_tried.binds (ps := P__law_tried) fun _ _ _ _ _ _ us hl => match us, hl with | [_, _, _], _ => rfl
  have F__law_any := fun_mk (st := s__law_any) l__law_any o__law_any k__law_any
  have B__law_any := F__law_any.binds (ps := P__law_any) fun _ _ _ _ _ _ us hl => match us, hl with | [_, _, _], _ => rfl
  have F__law_exact := fun_mk (st := s__law_exact) l__law_exact o__law_exact k__law_exact
  have B__law_exact := F__law_exact.binds (ps := P__law_exact) fun _ _ _ _ _ _ us hl => match us, hl with | [_, _, _], _ => rfl
  have F__law_given := fun_mk (st := s__law_given) l__law_given o__law_given k__law_given
  have B__law_given := F__law_given.binds (ps := P__law_given) fun _ _ _ _ _ _ us hl => match us, hl with | [_, _, _, _], _ => rfl
  have F__law_within := fun_mk (st := s__law_within) l__law_within o__law_within k__law_within
  have B__law_within := F__law_within.binds (ps := P__law_within) fun _ _ _ _ _ _ us hl => match us, hl with | [_, _], _ => rfl
  have F__law_near := fun_mk (st := s__law_near) l__law_near o__law_near k__law_near
  have B__law_near := F__law_near.binds (ps := P__law_near) fun _ _ _ _ _ _ us hl => match us, hl with | [_, _, _], _ => rfl
  have F_law := fun_mk (st := s_law) l_law o_law k_law
  have B_law := F_law.binds (ps := P_law) fun _ _ _ _ _ _ us hl => match us, hl with | [_], _ => rfl
  exact ⟨{
    c_TillError := c_TillError,
    c_NoTill := c_NoTill,
    c_NoKind := c_NoKind,
    c_Twice := c_Twice,
    c_NoCount := c_NoCount,
    c_NoSum := c_NoSum,
    c_TooLittle := c_TooLittle,
    c_NoChange := c_NoChange,
    c_TooFew := c_TooFew,
    c_StillHeld := c_StillHeld,
    c_NoDeed := c_NoDeed,
    a_check_count := a_check_count, d_check_count := _,
    a_count_of := a_count_of, d_count_of := _,
    a_check_sum := a_check_sum, d_check_sum := _,
    a_table := a_table, d_table := _,
    a_fewest := a_fewest, d_fewest := _,
    a_with_kind := a_with_kind, d_with_kind := _,
    a__bundles := a__bundles, d__bundles := _,
    a__with_bundle := a__with_bundle, d__with_bundle := _,
    a__most_given := a__most_given, d__most_given := _,
    a_paid := a_paid, d_paid := _,
    a_brought := a_brought, d_brought := _,
    a__with_count := a__with_count, d__with_count := _,
    a__law_cell_at := a__law_cell_at, d__law_cell_at := _,
    a__law_whole := a__law_whole, d__law_whole := _,
    a__law_mixed := a__law_mixed, d__law_mixed := _,
    a__law_value := a__law_value, d__law_value := _,
    a__law_count := a__law_count, d__law_count := _,
    a__law_pairs := a__law_pairs, d__law_pairs := _,
    a__law_alike := a__law_alike, d__law_alike := _,
    a__law_least := a__law_least, d__law_least := _,
    a__law_row := a__law_row, d__law_row := _,
    a__law_walked := a__law_walked, d__law_walked := _,
    a__law_change := a__law_change, d__law_change := _,
    a__law_values := a__law_values, d__law_values := _,
    a__law_full := a__law_full, d__law_full := _,
    a__law_due := a__law_due, d__law_due := _,
    a__law_tried := a__law_tried, d__law_tried := _,
    a__law_any := a__law_any, d__law_any := _,
    a__law_exact := a__law_exact, d__law_exact := _,
    a__law_given := a__law_given, d__law_given := _,
    a__law_within := a__law_within, d__law_within := _,
    a__law_near := a__law_near, d__law_near := _,
    a_law := a_law, d_law := _,
    g_TillError := PySem.W.mg_of X G g_TillError, x_TillError := x_TillError, k_TillError := k_TillError, b_TillError := b_TillError, t_TillError := t_TillError, i_TillError := i_TillError,
    g_NoTill := PySem.W.mg_of X G g_NoTill, x_NoTill := x_NoTill, k_NoTill := k_NoTill, b_NoTill := b_NoTill, t_NoTill := t_NoTill, i_NoTill := i_NoTill,
    g_NoKind := PySem.W.mg_of X G g_NoKind, x_NoKind := x_NoKind, k_NoKind := k_NoKind, b_NoKind := b_NoKind, t_NoKind := t_NoKind, i_NoKind := i_NoKind,
    g_Twice := PySem.W.mg_of X G g_Twice, x_Twice := x_Twice, k_Twice := k_Twice, b_Twice := b_Twice, t_Twice := t_Twice, i_Twice := i_Twice,
    g_NoCount := PySem.W.mg_of X G g_NoCount, x_NoCount := x_NoCount, k_NoCount := k_NoCount, b_NoCount := b_NoCount, t_NoCount := t_NoCount, i_NoCount := i_NoCount,
    g_NoSum := PySem.W.mg_of X G g_NoSum, x_NoSum := x_NoSum, k_NoSum := k_NoSum, b_NoSum := b_NoSum, t_NoSum := t_NoSum, i_NoSum := i_NoSum,
    g_TooLittle := PySem.W.mg_of X G g_TooLittle, x_TooLittle := x_TooLittle, k_TooLittle := k_TooLittle, b_TooLittle := b_TooLittle, t_TooLittle := t_TooLittle, i_TooLittle := i_TooLittle,
    g_NoChange := PySem.W.mg_of X G g_NoChange, x_NoChange := x_NoChange, k_NoChange := k_NoChange, b_NoChange := b_NoChange, t_NoChange := t_NoChange, i_NoChange := i_NoChange,
    g_TooFew := PySem.W.mg_of X G g_TooFew, x_TooFew := x_TooFew, k_TooFew := k_TooFew, b_TooFew := b_TooFew, t_TooFew := t_TooFew, i_TooFew := i_TooFew,
    g_StillHeld := PySem.W.mg_of X G g_StillHeld, x_StillHeld := x_StillHeld, k_StillHeld := k_StillHeld, b_StillHeld := b_StillHeld, t_StillHeld := t_StillHeld, i_StillHeld := i_StillHeld,
    g_NoDeed := PySem.W.mg_of X G g_NoDeed, x_NoDeed := x_NoDeed, k_NoDeed := k_NoDeed, b_NoDeed := b_NoDeed, t_NoDeed := t_NoDeed, i_NoDeed := i_NoDeed,
    u_NoCount_NoSum := u_NoCount_NoSum,
    u_NoCount_NoCount := u_NoCount_NoCount,
    u_NoCount_NoKind := u_NoCount_NoKind,
    u_NoCount_TooLittle := u_NoCount_TooLittle,
    u_NoCount_NoChange := u_NoCount_NoChange,
    u_NoCount_TillError := u_NoCount_TillError,
    u_NoCount_NoDeed := u_NoCount_NoDeed,
    u_NoCount_NoTill := u_NoCount_NoTill,
    u_NoCount_StillHeld := u_NoCount_StillHeld,
    u_NoCount_TooFew := u_NoCount_TooFew,
    u_NoCount_Twice := u_NoCount_Twice,
    u_NoKind_NoSum := u_NoKind_NoSum,
    u_NoKind_NoCount := u_NoKind_NoCount,
    u_NoKind_NoKind := u_NoKind_NoKind,
    u_NoKind_TooLittle := u_NoKind_TooLittle,
    u_NoKind_NoChange := u_NoKind_NoChange,
    u_NoKind_TillError := u_NoKind_TillError,
    u_NoKind_NoDeed := u_NoKind_NoDeed,
    u_NoKind_NoTill := u_NoKind_NoTill,
    u_NoKind_StillHeld := u_NoKind_StillHeld,
    u_NoKind_TooFew := u_NoKind_TooFew,
    u_NoKind_Twice := u_NoKind_Twice,
    u_NoSum_NoSum := u_NoSum_NoSum,
    u_NoSum_NoCount := u_NoSum_NoCount,
    u_NoSum_NoKind := u_NoSum_NoKind,
    u_NoSum_TooLittle := u_NoSum_TooLittle,
    u_NoSum_NoChange := u_NoSum_NoChange,
    u_NoSum_TillError := u_NoSum_TillError,
    u_NoSum_NoDeed := u_NoSum_NoDeed,
    u_NoSum_NoTill := u_NoSum_NoTill,
    u_NoSum_StillHeld := u_NoSum_StillHeld,
    u_NoSum_TooFew := u_NoSum_TooFew,
    u_NoSum_Twice := u_NoSum_Twice,
    u_NoChange_NoSum := u_NoChange_NoSum,
    u_NoChange_NoCount := u_NoChange_NoCount,
    u_NoChange_NoKind := u_NoChange_NoKind,
    u_NoChange_TooLittle := u_NoChange_TooLittle,
    u_NoChange_NoChange := u_NoChange_NoChange,
    u_NoChange_TillError := u_NoChange_TillError,
    u_NoChange_NoDeed := u_NoChange_NoDeed,
    u_NoChange_NoTill := u_NoChange_NoTill,
    u_NoChange_StillHeld := u_NoChange_StillHeld,
    u_NoChange_TooFew := u_NoChange_TooFew,
    u_NoChange_Twice := u_NoChange_Twice,
    u_TooLittle_NoSum := u_TooLittle_NoSum,
    u_TooLittle_NoCount := u_TooLittle_NoCount,
    u_TooLittle_NoKind := u_TooLittle_NoKind,
    u_TooLittle_TooLittle := u_TooLittle_TooLittle,
    u_TooLittle_NoChange := u_TooLittle_NoChange,
    u_TooLittle_TillError := u_TooLittle_TillError,
    u_TooLittle_NoDeed := u_TooLittle_NoDeed,
    u_TooLittle_NoTill := u_TooLittle_NoTill,
    u_TooLittle_StillHeld := u_TooLittle_StillHeld,
    u_TooLittle_TooFew := u_TooLittle_TooFew,
    u_TooLittle_Twice := u_TooLittle_Twice,
    e_NoCount := ⟨hg_NoCount, hk_NoCount, b_NoCount, hd_NoCount, ha_NoCount, hn, ht, hm_NoCount⟩, z_NoCount := kone_ty z_NoCount, y_NoCount := (kany_f (kone_own n_NoCount_NoDeed i_NoDeed t_NoDeed u_NoCount_NoDeed) (kany_f (kone_own n_NoCount_NoTill i_NoTill t_NoTill u_NoCount_NoTill) (kany_f (kone_own n_NoCount_StillHeld i_StillHeld t_StillHeld u_NoCount_StillHeld) (kany_f (kone_own n_NoCount_TooFew i_TooFew t_TooFew u_NoCount_TooFew) (kany_f (kone_own n_NoCount_Twice i_Twice t_Twice u_NoCount_Twice) kitAny_nil))))),
    e_NoKind := ⟨hg_NoKind, hk_NoKind, b_NoKind, hd_NoKind, ha_NoKind, hn, ht, hm_NoKind⟩, z_NoKind := kone_ty z_NoKind, y_NoKind := (kany_f (kone_own n_NoKind_NoDeed i_NoDeed t_NoDeed u_NoKind_NoDeed) (kany_f (kone_own n_NoKind_NoTill i_NoTill t_NoTill u_NoKind_NoTill) (kany_f (kone_own n_NoKind_StillHeld i_StillHeld t_StillHeld u_NoKind_StillHeld) (kany_f (kone_own n_NoKind_TooFew i_TooFew t_TooFew u_NoKind_TooFew) (kany_f (kone_own n_NoKind_Twice i_Twice t_Twice u_NoKind_Twice) kitAny_nil))))),
    e_NoSum := ⟨hg_NoSum, hk_NoSum, b_NoSum, hd_NoSum, ha_NoSum, hn, ht, hm_NoSum⟩, z_NoSum := kone_ty z_NoSum, y_NoSum := (kany_f (kone_own n_NoSum_NoDeed i_NoDeed t_NoDeed u_NoSum_NoDeed) (kany_f (kone_own n_NoSum_NoTill i_NoTill t_NoTill u_NoSum_NoTill) (kany_f (kone_own n_NoSum_StillHeld i_StillHeld t_StillHeld u_NoSum_StillHeld) (kany_f (kone_own n_NoSum_TooFew i_TooFew t_TooFew u_NoSum_TooFew) (kany_f (kone_own n_NoSum_Twice i_Twice t_Twice u_NoSum_Twice) kitAny_nil))))),
    e_NoChange := ⟨hg_NoChange, hk_NoChange, b_NoChange, hd_NoChange, ha_NoChange, hn, ht, hm_NoChange⟩, z_NoChange := kone_ty z_NoChange, y_NoChange := (kany_f (kone_own n_NoChange_NoDeed i_NoDeed t_NoDeed u_NoChange_NoDeed) (kany_f (kone_own n_NoChange_NoTill i_NoTill t_NoTill u_NoChange_NoTill) (kany_f (kone_own n_NoChange_StillHeld i_StillHeld t_StillHeld u_NoChange_StillHeld) (kany_f (kone_own n_NoChange_TooFew i_TooFew t_TooFew u_NoChange_TooFew) (kany_f (kone_own n_NoChange_Twice i_Twice t_Twice u_NoChange_Twice) kitAny_nil))))),
    e_TooLittle := ⟨hg_TooLittle, hk_TooLittle, b_TooLittle, hd_TooLittle, ha_TooLittle, hn, ht, hm_TooLittle⟩, z_TooLittle := kone_ty z_TooLittle, y_TooLittle := (kany_f (kone_own n_TooLittle_NoDeed i_NoDeed t_NoDeed u_TooLittle_NoDeed) (kany_f (kone_own n_TooLittle_NoTill i_NoTill t_NoTill u_TooLittle_NoTill) (kany_f (kone_own n_TooLittle_StillHeld i_StillHeld t_StillHeld u_TooLittle_StillHeld) (kany_f (kone_own n_TooLittle_TooFew i_TooFew t_TooFew u_TooLittle_TooFew) (kany_f (kone_own n_TooLittle_Twice i_Twice t_Twice u_TooLittle_Twice) kitAny_nil))))),
    f_check_count := F_check_count, p_check_count := B_check_count, g_check_count := PySem.W.mg_of X G g_check_count,
    f_count_of := F_count_of, p_count_of := B_count_of, g_count_of := PySem.W.mg_of X G g_count_of,
    f_check_sum := F_check_sum, p_check_sum := B_check_sum, g_check_sum := PySem.W.mg_of X G g_check_sum,
    f_table := F_table, p_table := B_table, g_table := PySem.W.mg_of X G g_table,
    f_fewest := F_fewest, p_fewest := B_fewest, g_fewest := PySem.W.mg_of X G g_fewest,
    f_with_kind := F_with_kind, p_with_kind := B_with_kind, g_with_kind := PySem.W.mg_of X G g_with_kind,
    f__bundles := F__bundles, p__bundles := B__bundles, g__bundles := PySem.W.mg_of X G g__bundles,
    f__with_bundle := F__with_bundle, p__with_bundle := B__with_bundle, g__with_bundle := PySem.W.mg_of X G g__with_bundle,
    f__most_given := F__most_given, p__most_given := B__most_given, g__most_given := PySem.W.mg_of X G g__most_given,
    f_paid := F_paid, p_paid := B_paid, g_paid := PySem.W.mg_of X G g_paid,
    f_brought := F_brought, p_brought := B_brought, g_brought := PySem.W.mg_of X G g_brought,
    f__with_count := F__with_count, p__with_count := B__with_count, g__with_count := PySem.W.mg_of X G g__with_count,
    f__law_cell_at := F__law_cell_at, p__law_cell_at := B__law_cell_at, g__law_cell_at := PySem.W.mg_of X G g__law_cell_at,
    f__law_whole := F__law_whole, p__law_whole := B__law_whole, g__law_whole := PySem.W.mg_of X G g__law_whole,
    f__law_mixed := F__law_mixed, p__law_mixed := B__law_mixed, g__law_mixed := PySem.W.mg_of X G g__law_mixed,
    f__law_value := F__law_value, p__law_value := B__law_value, g__law_value := PySem.W.mg_of X G g__law_value,
    f__law_count := F__law_count, p__law_count := B__law_count, g__law_count := PySem.W.mg_of X G g__law_count,
    f__law_pairs := F__law_pairs, p__law_pairs := B__law_pairs, g__law_pairs := PySem.W.mg_of X G g__law_pairs,
    f__law_alike := F__law_alike, p__law_alike := B__law_alike, g__law_alike := PySem.W.mg_of X G g__law_alike,
    f__law_least := F__law_least, p__law_least := B__law_least, g__law_least := PySem.W.mg_of X G g__law_least,
    f__law_row := F__law_row, p__law_row := B__law_row, g__law_row := PySem.W.mg_of X G g__law_row,
    f__law_walked := F__law_walked, p__law_walked := B__law_walked, g__law_walked := PySem.W.mg_of X G g__law_walked,
    f__law_change := F__law_change, p__law_change := B__law_change, g__law_change := PySem.W.mg_of X G g__law_change,
    f__law_values := F__law_values, p__law_values := B__law_values, g__law_values := PySem.W.mg_of X G g__law_values,
    f__law_full := F__law_full, p__law_full := B__law_full, g__law_full := PySem.W.mg_of X G g__law_full,
    f__law_due := F__law_due, p__law_due := B__law_due, g__law_due := PySem.W.mg_of X G g__law_due,
    f__law_tried := F__law_tried, p__law_tried := B__law_tried, g__law_tried := PySem.W.mg_of X G g__law_tried,
    f__law_any := F__law_any, p__law_any := B__law_any, g__law_any := PySem.W.mg_of X G g__law_any,
    f__law_exact := F__law_exact, p__law_exact := B__law_exact, g__law_exact := PySem.W.mg_of X G g__law_exact,
    f__law_given := F__law_given, p__law_given := B__law_given, g__law_given := PySem.W.mg_of X G g__law_given,
    f__law_within := F__law_within, p__law_within := B__law_within, g__law_within := PySem.W.mg_of X G g__law_within,
    f__law_near := F__law_near, p__law_near := B__law_near, g__law_near := PySem.W.mg_of X G g__law_near,
    f_law := F_law, p_law := B_law, g_law := PySem.W.mg_of X G g_law,
    w_MOST_COUNT := ⟨_, PySem.W.mg_of X G w_MOST_COUNT⟩,
    w_MOST_SUM := ⟨_, PySem.W.mg_of X G w_MOST_SUM⟩,
    w_MOST_PAID := ⟨_, PySem.W.mg_of X G w_MOST_PAID⟩,
    m_ValueError := PySem.W.mg_none_of X G m_ValueError,
    m_bool := PySem.W.mg_none_of X G m_bool,
    m_dict := PySem.W.mg_none_of X G m_dict,
    m_int := PySem.W.mg_none_of X G m_int,
    m_isinstance := PySem.W.mg_none_of X G m_isinstance,
    m_len := PySem.W.mg_none_of X G m_len,
    m_list := PySem.W.mg_none_of X G m_list,
    m_max := PySem.W.mg_none_of X G m_max,
    m_min := PySem.W.mg_none_of X G m_min,
    m_range := PySem.W.mg_none_of X G m_range,
    m_reversed := PySem.W.mg_none_of X G m_reversed,
    m_sorted := PySem.W.mg_none_of X G m_sorted,
    m_sum := PySem.W.mg_none_of X G m_sum,
    m_tuple := PySem.W.mg_none_of X G m_tuple }, rfl, fun s v => .of_eq rfl⟩

theorem fin {l : PySem.W.OpenLaw} {w : World} {K : PySem.W.Frag} {h : Heap} {mg : Str → Option Value} {fa a_law : Addr} (X : K.In h) (G : h.Ns mainGlobals mg) (hfa : mg "law" = some (.ref fa))
    (x : ∃ T : Tx K mg, T.a_law = a_law ∧ (∀ (s : Shared) (v : Value), BindsTo s T.d_law ⟨[v], []⟩ [("_law_script", v)])) :
    ∃ fd : FuncData, (∀ (s : Shared) (v : Value), BindsTo s fd ⟨[v], []⟩ [("_law_script", v)]) ∧ ∀ base : Heap, K.In base → base.Ns mainGlobals mg → FnOk l.prog w K mg base CX0 7 fa fd ["_law_script"] (spLaw K) := by
  obtain ⟨T, _, hb⟩ := x
  have e := hfa.symm.trans T.g_law
  cases e
  exact ⟨T.d_law, hb, fun base _ _ => ok_law T⟩

end K08
open PySem PySem.W PyProof.Rows
set_option maxRecDepth 100000 in
set_option maxHeartbeats 0 in
theorem PySem.Challenge.cw_tilldrawer_k08_a_price_paid_holds : PySem.Challenge.rw_tilldrawer_k08_a_price_paid.Holds := by
  w_on; o_law; k_head; (case hw => w_witness2)
  k_fill
  refine L2.walk_ofK (l := PySem.Challenge.rw_tilldrawer_k08_a_price_paid) (n := 63) (k := 7) (x := "_law_script") (CX := L2.CX0) (sp := K08.spLaw) rfl (by decide) rfl ⟨rfl, by decide, by decide⟩ (fun w h Y => PySem.W.kIn_of Y) ?F (fun K H a ns hl hO hS => K08.law_start hl hO hS) (fun _ _ _ _ h => h)
  case F =>
    intro w mg fa h KX G hmg
    refine' K08.fin KX G hmg (K08.tx_mk KX G ?g_TillError ?x_TillError ?k_TillError ?b_TillError ?t_TillError ?i_TillError ?g_NoTill ?x_NoTill ?k_NoTill ?b_NoTill ?t_NoTill ?i_NoTill ?g_NoKind ?x_NoKind ?k_NoKind ?b_NoKind ?t_NoKind ?i_NoKind ?g_Twice ?x_Twice ?k_Twice ?b_Twice ?t_Twice ?i_Twice ?g_NoCount ?x_NoCount ?k_NoCount ?b_NoCount ?t_NoCount ?i_NoCount ?g_NoSum ?x_NoSum ?k_NoSum ?b_NoSum ?t_NoSum ?i_NoSum ?g_TooLittle ?x_TooLittle ?k_TooLittle ?b_TooLittle ?t_TooLittle ?i_TooLittle ?g_NoChange ?x_NoChange ?k_NoChange ?b_NoChange ?t_NoChange ?i_NoChange ?g_TooFew ?x_TooFew ?k_TooFew ?b_TooFew ?t_TooFew ?i_TooFew ?g_StillHeld ?x_StillHeld ?k_StillHeld ?b_StillHeld ?t_StillHeld ?i_StillHeld ?g_NoDeed ?x_NoDeed ?k_NoDeed ?b_NoDeed ?t_NoDeed ?i_NoDeed ?u_NoCount_NoSum ?u_NoCount_NoCount ?u_NoCount_NoKind ?u_NoCount_TooLittle ?u_NoCount_NoChange ?u_NoCount_TillError ?u_NoCount_NoDeed ?u_NoCount_NoTill ?u_NoCount_StillHeld ?u_NoCount_TooFew ?u_NoCount_Twice ?u_NoKind_NoSum ?u_NoKind_NoCount ?u_NoKind_NoKind ?u_NoKind_TooLittle ?u_NoKind_NoChange ?u_NoKind_TillError ?u_NoKind_NoDeed ?u_NoKind_NoTill ?u_NoKind_StillHeld ?u_NoKind_TooFew ?u_NoKind_Twice ?u_NoSum_NoSum ?u_NoSum_NoCount ?u_NoSum_NoKind ?u_NoSum_TooLittle ?u_NoSum_NoChange ?u_NoSum_TillError ?u_NoSum_NoDeed ?u_NoSum_NoTill ?u_NoSum_StillHeld ?u_NoSum_TooFew ?u_NoSum_Twice ?u_NoChange_NoSum ?u_NoChange_NoCount ?u_NoChange_NoKind ?u_NoChange_TooLittle ?u_NoChange_NoChange ?u_NoChange_TillError ?u_NoChange_NoDeed ?u_NoChange_NoTill ?u_NoChange_StillHeld ?u_NoChange_TooFew ?u_NoChange_Twice ?u_TooLittle_NoSum ?u_TooLittle_NoCount ?u_TooLittle_NoKind ?u_TooLittle_TooLittle ?u_TooLittle_NoChange ?u_TooLittle_TillError ?u_TooLittle_NoDeed ?u_TooLittle_NoTill ?u_TooLittle_StillHeld ?u_TooLittle_TooFew ?u_TooLittle_Twice ?hg_NoCount ?hk_NoCount ?hd_NoCount ?ha_NoCount ?hm_NoCount ?z_NoCount ?n_NoCount_NoDeed ?n_NoCount_NoTill ?n_NoCount_StillHeld ?n_NoCount_TooFew ?n_NoCount_Twice ?hg_NoKind ?hk_NoKind ?hd_NoKind ?ha_NoKind ?hm_NoKind ?z_NoKind ?n_NoKind_NoDeed ?n_NoKind_NoTill ?n_NoKind_StillHeld ?n_NoKind_TooFew ?n_NoKind_Twice ?hg_NoSum ?hk_NoSum ?hd_NoSum ?ha_NoSum ?hm_NoSum ?z_NoSum ?n_NoSum_NoDeed ?n_NoSum_NoTill ?n_NoSum_StillHeld ?n_NoSum_TooFew ?n_NoSum_Twice ?hg_NoChange ?hk_NoChange ?hd_NoChange ?ha_NoChange ?hm_NoChange ?z_NoChange ?n_NoChange_NoDeed ?n_NoChange_NoTill ?n_NoChange_StillHeld ?n_NoChange_TooFew ?n_NoChange_Twice ?hg_TooLittle ?hk_TooLittle ?hd_TooLittle ?ha_TooLittle ?hm_TooLittle ?z_TooLittle ?n_TooLittle_NoDeed ?n_TooLittle_NoTill ?n_TooLittle_StillHeld ?n_TooLittle_TooFew ?n_TooLittle_Twice ?hn ?ht ?g_check_count ?l_check_count ?o_check_count ?k_check_count ?g_count_of ?l_count_of ?o_count_of ?k_count_of ?g_check_sum ?l_check_sum ?o_check_sum ?k_check_sum ?g_table ?l_table ?o_table ?k_table ?g_fewest ?l_fewest ?o_fewest ?k_fewest ?g_with_kind ?l_with_kind ?o_with_kind ?k_with_kind ?g__bundles ?l__bundles ?o__bundles ?k__bundles ?g__with_bundle ?l__with_bundle ?o__with_bundle ?k__with_bundle ?g__most_given ?l__most_given ?o__most_given ?k__most_given ?g_paid ?l_paid ?o_paid ?k_paid ?g_brought ?l_brought ?o_brought ?k_brought ?g__with_count ?l__with_count ?o__with_count ?k__with_count ?g__law_cell_at ?l__law_cell_at ?o__law_cell_at ?k__law_cell_at ?g__law_whole ?l__law_whole ?o__law_whole ?k__law_whole ?g__law_mixed ?l__law_mixed ?o__law_mixed ?k__law_mixed ?g__law_value ?l__law_value ?o__law_value ?k__law_value ?g__law_count ?l__law_count ?o__law_count ?k__law_count ?g__law_pairs ?l__law_pairs ?o__law_pairs ?k__law_pairs ?g__law_alike ?l__law_alike ?o__law_alike ?k__law_alike ?g__law_least ?l__law_least ?o__law_least ?k__law_least ?g__law_row ?l__law_row ?o__law_row ?k__law_row ?g__law_walked ?l__law_walked ?o__law_walked ?k__law_walked ?g__law_change ?l__law_change ?o__law_change ?k__law_change ?g__law_values ?l__law_values ?o__law_values ?k__law_values ?g__law_full ?l__law_full ?o__law_full ?k__law_full ?g__law_due ?l__law_due ?o__law_due ?k__law_due ?g__law_tried ?l__law_tried ?o__law_tried ?k__law_tried ?g__law_any ?l__law_any ?o__law_any ?k__law_any ?g__law_exact ?l__law_exact ?o__law_exact ?k__law_exact ?g__law_given ?l__law_given ?o__law_given ?k__law_given ?g__law_within ?l__law_within ?o__law_within ?k__law_within ?g__law_near ?l__law_near ?o__law_near ?k__law_near ?g_law ?l_law ?o_law ?k_law ?w_MOST_COUNT ?w_MOST_SUM ?w_MOST_PAID ?m_ValueError ?m_bool ?m_dict ?m_int ?m_isinstance ?m_len ?m_list ?m_max ?m_min ?m_range ?m_reversed ?m_sorted ?m_sum ?m_tuple)
    (case g_TillError => k_is)
    (case x_TillError => k_exc)
    (case k_TillError => k_is)
    (case b_TillError => k_is)
    (case t_TillError => k_is)
    (case i_TillError => k_is)
    (case g_NoTill => k_is)
    (case x_NoTill => k_exc)
    (case k_NoTill => k_is)
    (case b_NoTill => k_is)
    (case t_NoTill => k_is)
    (case i_NoTill => k_is)
    (case g_NoKind => k_is)
    (case x_NoKind => k_exc)
    (case k_NoKind => k_is)
    (case b_NoKind => k_is)
    (case t_NoKind => k_is)
    (case i_NoKind => k_is)
    (case g_Twice => k_is)
    (case x_Twice => k_exc)
    (case k_Twice => k_is)
    (case b_Twice => k_is)
    (case t_Twice => k_is)
    (case i_Twice => k_is)
    (case g_NoCount => k_is)
    (case x_NoCount => k_exc)
    (case k_NoCount => k_is)
    (case b_NoCount => k_is)
    (case t_NoCount => k_is)
    (case i_NoCount => k_is)
    (case g_NoSum => k_is)
    (case x_NoSum => k_exc)
    (case k_NoSum => k_is)
    (case b_NoSum => k_is)
    (case t_NoSum => k_is)
    (case i_NoSum => k_is)
    (case g_TooLittle => k_is)
    (case x_TooLittle => k_exc)
    (case k_TooLittle => k_is)
    (case b_TooLittle => k_is)
    (case t_TooLittle => k_is)
    (case i_TooLittle => k_is)
    (case g_NoChange => k_is)
    (case x_NoChange => k_exc)
    (case k_NoChange => k_is)
    (case b_NoChange => k_is)
    (case t_NoChange => k_is)
    (case i_NoChange => k_is)
    (case g_TooFew => k_is)
    (case x_TooFew => k_exc)
    (case k_TooFew => k_is)
    (case b_TooFew => k_is)
    (case t_TooFew => k_is)
    (case i_TooFew => k_is)
    (case g_StillHeld => k_is)
    (case x_StillHeld => k_exc)
    (case k_StillHeld => k_is)
    (case b_StillHeld => k_is)
    (case t_StillHeld => k_is)
    (case i_StillHeld => k_is)
    (case g_NoDeed => k_is)
    (case x_NoDeed => k_exc)
    (case k_NoDeed => k_is)
    (case b_NoDeed => k_is)
    (case t_NoDeed => k_is)
    (case i_NoDeed => k_is)
    (case u_NoCount_NoSum => first | rfl | k_is)
    (case u_NoCount_NoCount => first | rfl | k_is)
    (case u_NoCount_NoKind => first | rfl | k_is)
    (case u_NoCount_TooLittle => first | rfl | k_is)
    (case u_NoCount_NoChange => first | rfl | k_is)
    (case u_NoCount_TillError => first | rfl | k_is)
    (case u_NoCount_NoDeed => first | rfl | k_is)
    (case u_NoCount_NoTill => first | rfl | k_is)
    (case u_NoCount_StillHeld => first | rfl | k_is)
    (case u_NoCount_TooFew => first | rfl | k_is)
    (case u_NoCount_Twice => first | rfl | k_is)
    (case u_NoKind_NoSum => first | rfl | k_is)
    (case u_NoKind_NoCount => first | rfl | k_is)
    (case u_NoKind_NoKind => first | rfl | k_is)
    (case u_NoKind_TooLittle => first | rfl | k_is)
    (case u_NoKind_NoChange => first | rfl | k_is)
    (case u_NoKind_TillError => first | rfl | k_is)
    (case u_NoKind_NoDeed => first | rfl | k_is)
    (case u_NoKind_NoTill => first | rfl | k_is)
    (case u_NoKind_StillHeld => first | rfl | k_is)
    (case u_NoKind_TooFew => first | rfl | k_is)
    (case u_NoKind_Twice => first | rfl | k_is)
    (case u_NoSum_NoSum => first | rfl | k_is)
    (case u_NoSum_NoCount => first | rfl | k_is)
    (case u_NoSum_NoKind => first | rfl | k_is)
    (case u_NoSum_TooLittle => first | rfl | k_is)
    (case u_NoSum_NoChange => first | rfl | k_is)
    (case u_NoSum_TillError => first | rfl | k_is)
    (case u_NoSum_NoDeed => first | rfl | k_is)
    (case u_NoSum_NoTill => first | rfl | k_is)
    (case u_NoSum_StillHeld => first | rfl | k_is)
    (case u_NoSum_TooFew => first | rfl | k_is)
    (case u_NoSum_Twice => first | rfl | k_is)
    (case u_NoChange_NoSum => first | rfl | k_is)
    (case u_NoChange_NoCount => first | rfl | k_is)
    (case u_NoChange_NoKind => first | rfl | k_is)
    (case u_NoChange_TooLittle => first | rfl | k_is)
    (case u_NoChange_NoChange => first | rfl | k_is)
    (case u_NoChange_TillError => first | rfl | k_is)
    (case u_NoChange_NoDeed => first | rfl | k_is)
    (case u_NoChange_NoTill => first | rfl | k_is)
    (case u_NoChange_StillHeld => first | rfl | k_is)
    (case u_NoChange_TooFew => first | rfl | k_is)
    (case u_NoChange_Twice => first | rfl | k_is)
    (case u_TooLittle_NoSum => first | rfl | k_is)
    (case u_TooLittle_NoCount => first | rfl | k_is)
    (case u_TooLittle_NoKind => first | rfl | k_is)
    (case u_TooLittle_TooLittle => first | rfl | k_is)
    (case u_TooLittle_NoChange => first | rfl | k_is)
    (case u_TooLittle_TillError => first | rfl | k_is)
    (case u_TooLittle_NoDeed => first | rfl | k_is)
    (case u_TooLittle_NoTill => first | rfl | k_is)
    (case u_TooLittle_StillHeld => first | rfl | k_is)
    (case u_TooLittle_TooFew => first | rfl | k_is)
    (case u_TooLittle_Twice => first | rfl | k_is)
    (case hg_NoCount => k_is)
    (case hk_NoCount => k_is)
    (case hd_NoCount => k_is)
    (case ha_NoCount => k_is)
    (case hm_NoCount => k_is)
    (case z_NoCount => k_is)
    (case n_NoCount_NoDeed => decide)
    (case n_NoCount_NoTill => decide)
    (case n_NoCount_StillHeld => decide)
    (case n_NoCount_TooFew => decide)
    (case n_NoCount_Twice => decide)
    (case hg_NoKind => k_is)
    (case hk_NoKind => k_is)
    (case hd_NoKind => k_is)
    (case ha_NoKind => k_is)
    (case hm_NoKind => k_is)
    (case z_NoKind => k_is)
    (case n_NoKind_NoDeed => decide)
    (case n_NoKind_NoTill => decide)
    (case n_NoKind_StillHeld => decide)
    (case n_NoKind_TooFew => decide)
    (case n_NoKind_Twice => decide)
    (case hg_NoSum => k_is)
    (case hk_NoSum => k_is)
    (case hd_NoSum => k_is)
    (case ha_NoSum => k_is)
    (case hm_NoSum => k_is)
    (case z_NoSum => k_is)
    (case n_NoSum_NoDeed => decide)
    (case n_NoSum_NoTill => decide)
    (case n_NoSum_StillHeld => decide)
    (case n_NoSum_TooFew => decide)
    (case n_NoSum_Twice => decide)
    (case hg_NoChange => k_is)
    (case hk_NoChange => k_is)
    (case hd_NoChange => k_is)
    (case ha_NoChange => k_is)
    (case hm_NoChange => k_is)
    (case z_NoChange => k_is)
    (case n_NoChange_NoDeed => decide)
    (case n_NoChange_NoTill => decide)
    (case n_NoChange_StillHeld => decide)
    (case n_NoChange_TooFew => decide)
    (case n_NoChange_Twice => decide)
    (case hg_TooLittle => k_is)
    (case hk_TooLittle => k_is)
    (case hd_TooLittle => k_is)
    (case ha_TooLittle => k_is)
    (case hm_TooLittle => k_is)
    (case z_TooLittle => k_is)
    (case n_TooLittle_NoDeed => decide)
    (case n_TooLittle_NoTill => decide)
    (case n_TooLittle_StillHeld => decide)
    (case n_TooLittle_TooFew => decide)
    (case n_TooLittle_Twice => decide)
    (case hn => k_is)
    (case ht => k_is)
    (case g_check_count => k_is)
    (case l_check_count => k_is)
    (case o_check_count => k_is)
    (case k_check_count => k_is)
    (case g_count_of => k_is)
    (case l_count_of => k_is)
    (case o_count_of => k_is)
    (case k_count_of => k_is)
    (case g_check_sum => k_is)
    (case l_check_sum => k_is)
    (case o_check_sum => k_is)
    (case k_check_sum => k_is)
    (case g_table => k_is)
    (case l_table => k_is)
    (case o_table => k_is)
    (case k_table => k_is)
    (case g_fewest => k_is)
    (case l_fewest => k_is)
    (case o_fewest => k_is)
    (case k_fewest => k_is)
    (case g_with_kind => k_is)
    (case l_with_kind => k_is)
    (case o_with_kind => k_is)
    (case k_with_kind => k_is)
    (case g__bundles => k_is)
    (case l__bundles => k_is)
    (case o__bundles => k_is)
    (case k__bundles => k_is)
    (case g__with_bundle => k_is)
    (case l__with_bundle => k_is)
    (case o__with_bundle => k_is)
    (case k__with_bundle => k_is)
    (case g__most_given => k_is)
    (case l__most_given => k_is)
    (case o__most_given => k_is)
    (case k__most_given => k_is)
    (case g_paid => k_is)
    (case l_paid => k_is)
    (case o_paid => k_is)
    (case k_paid => k_is)
    (case g_brought => k_is)
    (case l_brought => k_is)
    (case o_brought => k_is)
    (case k_brought => k_is)
    (case g__with_count => k_is)
    (case l__with_count => k_is)
    (case o__with_count => k_is)
    (case k__with_count => k_is)
    (case g__law_cell_at => k_is)
    (case l__law_cell_at => k_is)
    (case o__law_cell_at => k_is)
    (case k__law_cell_at => k_is)
    (case g__law_whole => k_is)
    (case l__law_whole => k_is)
    (case o__law_whole => k_is)
    (case k__law_whole => k_is)
    (case g__law_mixed => k_is)
    (case l__law_mixed => k_is)
    (case o__law_mixed => k_is)
    (case k__law_mixed => k_is)
    (case g__law_value => k_is)
    (case l__law_value => k_is)
    (case o__law_value => k_is)
    (case k__law_value => k_is)
    (case g__law_count => k_is)
    (case l__law_count => k_is)
    (case o__law_count => k_is)
    (case k__law_count => k_is)
    (case g__law_pairs => k_is)
    (case l__law_pairs => k_is)
    (case o__law_pairs => k_is)
    (case k__law_pairs => k_is)
    (case g__law_alike => k_is)
    (case l__law_alike => k_is)
    (case o__law_alike => k_is)
    (case k__law_alike => k_is)
    (case g__law_least => k_is)
    (case l__law_least => k_is)
    (case o__law_least => k_is)
    (case k__law_least => k_is)
    (case g__law_row => k_is)
    (case l__law_row => k_is)
    (case o__law_row => k_is)
    (case k__law_row => k_is)
    (case g__law_walked => k_is)
    (case l__law_walked => k_is)
    (case o__law_walked => k_is)
    (case k__law_walked => k_is)
    (case g__law_change => k_is)
    (case l__law_change => k_is)
    (case o__law_change => k_is)
    (case k__law_change => k_is)
    (case g__law_values => k_is)
    (case l__law_values => k_is)
    (case o__law_values => k_is)
    (case k__law_values => k_is)
    (case g__law_full => k_is)
    (case l__law_full => k_is)
    (case o__law_full => k_is)
    (case k__law_full => k_is)
    (case g__law_due => k_is)
    (case l__law_due => k_is)
    (case o__law_due => k_is)
    (case k__law_due => k_is)
    (case g__law_tried => k_is)
    (case l__law_tried => k_is)
    (case o__law_tried => k_is)
    (case k__law_tried => k_is)
    (case g__law_any => k_is)
    (case l__law_any => k_is)
    (case o__law_any => k_is)
    (case k__law_any => k_is)
    (case g__law_exact => k_is)
    (case l__law_exact => k_is)
    (case o__law_exact => k_is)
    (case k__law_exact => k_is)
    (case g__law_given => k_is)
    (case l__law_given => k_is)
    (case o__law_given => k_is)
    (case k__law_given => k_is)
    (case g__law_within => k_is)
    (case l__law_within => k_is)
    (case o__law_within => k_is)
    (case k__law_within => k_is)
    (case g__law_near => k_is)
    (case l__law_near => k_is)
    (case o__law_near => k_is)
    (case k__law_near => k_is)
    (case g_law => k_is)
    (case l_law => k_is)
    (case o_law => k_is)
    (case k_law => k_is)
    (case w_MOST_COUNT => k_is)
    (case w_MOST_SUM => k_is)
    (case w_MOST_PAID => k_is)
    (case m_ValueError => k_is)
    (case m_bool => k_is)
    (case m_dict => k_is)
    (case m_int => k_is)
    (case m_isinstance => k_is)
    (case m_len => k_is)
    (case m_list => k_is)
    (case m_max => k_is)
    (case m_min => k_is)
    (case m_range => k_is)
    (case m_reversed => k_is)
    (case m_sorted => k_is)
    (case m_sum => k_is)
    (case m_tuple => k_is)

