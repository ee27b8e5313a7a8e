import PyProof.Rows.All
import Wide.All
import OpenK.AllK
import Wide.FinOn
import PyProof.EqAt
import PyProof.EqKinds
import PyProof.TupleCall
import HandS.ForMost
import HandS.ForExc
import HandS.TryMany
import HandS.Sort
import HandS.SortRule
import HandS.IsInst
import HandS.ExcIs
import HandS.Evl
import HandS.Walk
import HandS.Strs
import HandS.SetFor
import HandS.RevRange
import HandS.Conv
import HandS.Style
import HandS.Zip
import PySem.Challenge.RW_tilldrawer_k11_whole_deals
set_option Elab.async false
set_option linter.all false
set_option maxRecDepth 100000
set_option maxHeartbeats 4000000
namespace K11
open PySem PySem.Spec PyProof.Rows L2
def topS (i : Nat) : Stmt := PySem.Challenge.pw_tilldrawer_k11_whole_deals.main.body.getD i (.Pass ⟨0, 0, 0, 0⟩)
abbrev s_check_count : Stmt := topS 14
abbrev N_check_count : List Str := ["count"]
abbrev P_check_count : List Str := ["count"]
theorem sc_check_count : FnScope N_check_count P_check_count (defScope s_check_count) := ⟨rfl, rfl, rfl, by decide +kernel, rfl, by decide +kernel, by decide +kernel⟩
abbrev s_worth : Stmt := topS 15
abbrev N_worth : List Str := ["till", "value", "count"]
abbrev P_worth : List Str := ["till"]
theorem sc_worth : FnScope N_worth P_worth (defScope s_worth) := ⟨rfl, rfl, rfl, by decide +kernel, rfl, by decide +kernel, by decide +kernel⟩
abbrev s_count_of : Stmt := topS 16
abbrev N_count_of : List Str := ["till", "value", "held", "count"]
abbrev P_count_of : List Str := ["till", "value"]
theorem sc_count_of : FnScope N_count_of P_count_of (defScope s_count_of) := ⟨rfl, rfl, rfl, by decide +kernel, rfl, by decide +kernel, by decide +kernel⟩
abbrev s_check_sum : Stmt := topS 19
abbrev N_check_sum : List Str := ["due"]
abbrev P_check_sum : List Str := ["due"]
theorem sc_check_sum : FnScope N_check_sum P_check_sum (defScope s_check_sum) := ⟨rfl, rfl, rfl, by decide +kernel, rfl, by decide +kernel, by decide +kernel⟩
abbrev s_table : Stmt := topS 20
abbrev N_table : List Str := ["till", "most", "row", "rows", "value", "count"]
abbrev P_table : List Str := ["till", "most"]
theorem sc_table : FnScope N_table P_table (defScope s_table) := ⟨rfl, rfl, rfl, by decide +kernel, rfl, by decide +kernel, by decide +kernel⟩
abbrev s_fewest : Stmt := topS 21
abbrev N_fewest : List Str := ["till", "due", "rows", "change", "left", "at", "value", "count", "given"]
abbrev P_fewest : List Str := ["till", "due"]
theorem sc_fewest : FnScope N_fewest P_fewest (defScope s_fewest) := ⟨rfl, rfl, rfl, by decide +kernel, rfl, by decide +kernel, by decide +kernel⟩
abbrev s_with_kind : Stmt := topS 22
abbrev N_with_kind : List Str := ["row", "value", "count", "out", "usable", "size"]
abbrev P_with_kind : List Str := ["row", "value", "count"]
theorem sc_with_kind : FnScope N_with_kind P_with_kind (defScope s_with_kind) := ⟨rfl, rfl, rfl, by decide +kernel, rfl, by decide +kernel, by decide +kernel⟩
abbrev s__bundles : Stmt := topS 23
abbrev N__bundles : List Str := ["count", "sizes", "size", "taken"]
abbrev P__bundles : List Str := ["count"]
theorem sc__bundles : FnScope N__bundles P__bundles (defScope s__bundles) := ⟨rfl, rfl, rfl, by decide +kernel, rfl, by decide +kernel, by decide +kernel⟩
abbrev s__with_bundle : Stmt := topS 24
abbrev N__with_bundle : List Str := ["row", "value", "size", "out", "due", "rest"]
abbrev P__with_bundle : List Str := ["row", "value", "size"]
theorem sc__with_bundle : FnScope N__with_bundle P__with_bundle (defScope s__with_bundle) := ⟨rfl, rfl, rfl, by decide +kernel, rfl, by decide +kernel, by decide +kernel⟩
abbrev s__most_given : Stmt := topS 25
abbrev N__most_given : List Str := ["row", "due", "least", "value", "count", "given"]
abbrev P__most_given : List Str := ["row", "due", "least", "value", "count"]
theorem sc__most_given : FnScope N__most_given P__most_given (defScope s__most_given) := ⟨rfl, rfl, rfl, by decide +kernel, rfl, by decide +kernel, by decide +kernel⟩
abbrev s_scales : Stmt := topS 28
abbrev N_scales : List Str := ["till", "purse", "below", "above", "held", "row", "rows", "value", "lies"]
abbrev P_scales : List Str := ["till", "purse"]
theorem sc_scales : FnScope N_scales P_scales (defScope s_scales) := ⟨rfl, rfl, rfl, by decide +kernel, rfl, by decide +kernel, by decide +kernel⟩
abbrev s_deal : Stmt := topS 29
abbrev N_deal : List Str := ["till", "purse", "price", "rows", "place", "way", "handed", "back", "value", "number"]
abbrev P_deal : List Str := ["till", "purse", "price"]
theorem sc_deal : FnScope N_deal P_deal (defScope s_deal) := ⟨rfl, rfl, rfl, by decide +kernel, rfl, by decide +kernel, by decide +kernel⟩
abbrev s__check_purse : Stmt := topS 30
abbrev N__check_purse : List Str := ["till", "purse", "there", "value", "_"]
abbrev P__check_purse : List Str := ["till", "purse"]
theorem sc__check_purse : FnScope N__check_purse P__check_purse (defScope s__check_purse) := ⟨rfl, rfl, rfl, by decide +kernel, rfl, by decide +kernel, by decide +kernel⟩
abbrev s__with_numbers : Stmt := topS 31
abbrev N__with_numbers : List Str := ["row", "value", "lies", "held", "paying"]
abbrev P__with_numbers : List Str := ["row", "value", "lies", "held"]
theorem sc__with_numbers : FnScope N__with_numbers P__with_numbers (defScope s__with_numbers) := ⟨rfl, rfl, rfl, by decide +kernel, rfl, by decide +kernel, by decide +kernel⟩
abbrev s__best_way : Stmt := topS 32
abbrev N__best_way : List Str := ["rows", "till", "purse", "place", "held", "way", "at", "value", "lies", "number"]
abbrev P__best_way : List Str := ["rows", "till", "purse", "place"]
theorem sc__best_way : FnScope N__best_way P__best_way (defScope s__best_way) := ⟨rfl, rfl, rfl, by decide +kernel, rfl, by decide +kernel, by decide +kernel⟩
abbrev s__greatest_number : Stmt := topS 33
abbrev N__greatest_number : List Str := ["row", "least", "place", "value", "lies", "held", "lowest", "highest", "number"]
abbrev P__greatest_number : List Str := ["row", "least", "place", "value", "lies", "held"]
theorem sc__greatest_number : FnScope N__greatest_number P__greatest_number (defScope s__greatest_number) := ⟨rfl, rfl, rfl, by decide +kernel, rfl, by decide +kernel, by decide +kernel⟩
abbrev s_paid : Stmt := topS 36
abbrev N_paid : List Str := ["till", "price", "values", "filled", "value", "over", "change", "given", "behind", "count"]
abbrev P_paid : List Str := ["till", "price", "values"]
theorem sc_paid : FnScope N_paid P_paid (defScope s_paid) := ⟨rfl, rfl, rfl, by decide +kernel, rfl, by decide +kernel, by decide +kernel⟩
abbrev s_brought : Stmt := topS 37
abbrev N_brought : List Str := ["till", "value", "count", "lies"]
abbrev P_brought : List Str := ["till", "value", "count"]
theorem sc_brought : FnScope N_brought P_brought (defScope s_brought) := ⟨rfl, rfl, rfl, by decide +kernel, rfl, by decide +kernel, by decide +kernel⟩
abbrev s__with_count : Stmt := topS 38
abbrev N__with_count : List Str := ["till", "value", "count", "held", "lies"]
abbrev P__with_count : List Str := ["till", "value", "count"]
theorem sc__with_count : FnScope N__with_count P__with_count (defScope s__with_count) := ⟨rfl, rfl, rfl, by decide +kernel, rfl, by decide +kernel, by decide +kernel⟩
abbrev s__law_cell_at : Stmt := topS 40
abbrev N__law_cell_at : List Str := ["_law_script", "_law_k"]
abbrev P__law_cell_at : List Str := ["_law_script", "_law_k"]
theorem sc__law_cell_at : FnScope N__law_cell_at P__law_cell_at (defScope s__law_cell_at) := ⟨rfl, rfl, rfl, by decide +kernel, rfl, by decide +kernel, by decide +kernel⟩
abbrev s__law_whole : Stmt := topS 41
abbrev N__law_whole : List Str := ["_law_found"]
abbrev P__law_whole : List Str := ["_law_found"]
theorem sc__law_whole : FnScope N__law_whole P__law_whole (defScope s__law_whole) := ⟨rfl, rfl, rfl, by decide +kernel, rfl, by decide +kernel, by decide +kernel⟩
abbrev s__law_mixed : Stmt := topS 42
abbrev N__law_mixed : List Str := ["_law_cell", "_law_k"]
abbrev P__law_mixed : List Str := ["_law_cell", "_law_k"]
theorem sc__law_mixed : FnScope N__law_mixed P__law_mixed (defScope s__law_mixed) := ⟨rfl, rfl, rfl, by decide +kernel, rfl, by decide +kernel, by decide +kernel⟩
abbrev s__law_value : Stmt := topS 43
abbrev N__law_value : List Str := ["_law_cell", "_law_k", "_law_drawn"]
abbrev P__law_value : List Str := ["_law_cell", "_law_k"]
theorem sc__law_value : FnScope N__law_value P__law_value (defScope s__law_value) := ⟨rfl, rfl, rfl, by decide +kernel, rfl, by decide +kernel, by decide +kernel⟩
abbrev s__law_till_and_purse : Stmt := topS 44
abbrev N__law_till_and_purse : List Str := ["_law_script", "_law_most", "_law_many", "_law_till", "_law_purse", "_law_seen", "_law_low", "_law_k", "_law_value_here", "_law_drawn", "_law_count", "_law_own_here"]
abbrev P__law_till_and_purse : List Str := ["_law_script", "_law_most"]
theorem sc__law_till_and_purse : FnScope N__law_till_and_purse P__law_till_and_purse (defScope s__law_till_and_purse) := ⟨rfl, rfl, rfl, by decide +kernel, rfl, by decide +kernel, by decide +kernel⟩
abbrev s__law_own : Stmt := topS 45
abbrev N__law_own : List Str := ["_law_purse", "_law_value_here", "_law_pair"]
abbrev P__law_own : List Str := ["_law_purse", "_law_value_here"]
theorem sc__law_own : FnScope N__law_own P__law_own (defScope s__law_own) := ⟨rfl, rfl, rfl, by decide +kernel, rfl, by decide +kernel, by decide +kernel⟩
abbrev s__law_total : Stmt := topS 46
abbrev N__law_total : List Str := ["_law_pairs", "_law_total_here", "_law_pair"]
abbrev P__law_total : List Str := ["_law_pairs"]
theorem sc__law_total : FnScope N__law_total P__law_total (defScope s__law_total) := ⟨rfl, rfl, rfl, by decide +kernel, rfl, by decide +kernel, by decide +kernel⟩
abbrev s__law_lightest : Stmt := topS 47
abbrev N__law_lightest : List Str := ["_law_ahead", "_law_at", "_law_pair", "_law_own_here", "_law_found", "_law_many", "_law_before", "_law_few"]
abbrev P__law_lightest : List Str := ["_law_ahead", "_law_at", "_law_pair", "_law_own_here"]
theorem sc__law_lightest : FnScope N__law_lightest P__law_lightest (defScope s__law_lightest) := ⟨rfl, rfl, rfl, by decide +kernel, rfl, by decide +kernel, by decide +kernel⟩
abbrev s__law_row : Stmt := topS 48
abbrev N__law_row : List Str := ["_law_row_here", "_law_size", "_law_few"]
abbrev P__law_row : List Str := ["_law_row_here", "_law_size"]
theorem sc__law_row : FnScope N__law_row P__law_row (defScope s__law_row) := ⟨rfl, rfl, rfl, by decide +kernel, rfl, by decide +kernel, by decide +kernel⟩
abbrev s__law_scaled : Stmt := topS 49
abbrev N__law_scaled : List Str := ["_law_rows", "_law_till", "_law_purse", "_law_low", "_law_size", "_law_k", "_law_own_here", "_law_at"]
abbrev P__law_scaled : List Str := ["_law_rows", "_law_till", "_law_purse"]
theorem sc__law_scaled : FnScope N__law_scaled P__law_scaled (defScope s__law_scaled) := ⟨rfl, rfl, rfl, by decide +kernel, rfl, by decide +kernel, by decide +kernel⟩
abbrev s__law_part : Stmt := topS 50
abbrev N__law_part : List Str := ["_law_found", "_law_most", "_law_last", "_law_total_here", "_law_pair"]
abbrev P__law_part : List Str := ["_law_found", "_law_most"]
theorem sc__law_part : FnScope N__law_part P__law_part (defScope s__law_part) := ⟨rfl, rfl, rfl, by decide +kernel, rfl, by decide +kernel, by decide +kernel⟩
abbrev s__law_pieces : Stmt := topS 51
abbrev N__law_pieces : List Str := ["_law_pairs", "_law_pair"]
abbrev P__law_pieces : List Str := ["_law_pairs"]
theorem sc__law_pieces : FnScope N__law_pieces P__law_pieces (defScope s__law_pieces) := ⟨rfl, rfl, rfl, by decide +kernel, rfl, by decide +kernel, by decide +kernel⟩
abbrev s__law_deal : Stmt := topS 52
abbrev N__law_deal : List Str := ["_law_till", "_law_purse", "_law_price_here"]
abbrev P__law_deal : List Str := ["_law_till", "_law_purse", "_law_price_here"]
theorem sc__law_deal : FnScope N__law_deal P__law_deal (defScope s__law_deal) := ⟨rfl, rfl, rfl, by decide +kernel, rfl, by decide +kernel, by decide +kernel⟩
abbrev s__law_any : Stmt := topS 53
abbrev N__law_any : List Str := ["_law_till", "_law_purse", "_law_price_here", "e", "_law_kinds"]
abbrev P__law_any : List Str := ["_law_till", "_law_purse", "_law_price_here"]
theorem sc__law_any : FnScope N__law_any P__law_any (defScope s__law_any) := ⟨rfl, rfl, rfl, by decide +kernel, rfl, by decide +kernel, by decide +kernel⟩
abbrev s__law_great : Stmt := topS 54
abbrev N__law_great : List Str := ["_law_till", "_law_purse", "_law_cell", "_law_rest", "_law_one", "_law_values", "_law_many", "_law_pair"]
abbrev P__law_great : List Str := ["_law_till", "_law_purse", "_law_cell"]
theorem sc__law_great : FnScope N__law_great P__law_great (defScope s__law_great) := ⟨rfl, rfl, rfl, by decide +kernel, rfl, by decide +kernel, by decide +kernel⟩
abbrev s__law_price : Stmt := topS 55
abbrev N__law_price : List Str := ["_law_till", "_law_purse", "_law_cell", "_law_price_here", "_law_k"]
abbrev P__law_price : List Str := ["_law_till", "_law_purse", "_law_cell"]
theorem sc__law_price : FnScope N__law_price P__law_price (defScope s__law_price) := ⟨rfl, rfl, rfl, by decide +kernel, rfl, by decide +kernel, by decide +kernel⟩
abbrev s__law_pays_back : Stmt := topS 56
abbrev N__law_pays_back : List Str := ["_law_till", "_law_found", "_law_price_here", "_law_values", "_law_pair"]
abbrev P__law_pays_back : List Str := ["_law_till", "_law_found", "_law_price_here"]
theorem sc__law_pays_back : FnScope N__law_pays_back P__law_pays_back (defScope s__law_pays_back) := ⟨rfl, rfl, rfl, by decide +kernel, rfl, by decide +kernel, by decide +kernel⟩
abbrev s__law_makes : Stmt := topS 57
abbrev N__law_makes : List Str := ["_law_row_here", "_law_at", "_law_few"]
abbrev P__law_makes : List Str := ["_law_row_here", "_law_at", "_law_few"]
theorem sc__law_makes : FnScope N__law_makes P__law_makes (defScope s__law_makes) := ⟨rfl, rfl, rfl, by decide +kernel, rfl, by decide +kernel, by decide +kernel⟩
abbrev s__law_exact : Stmt := topS 58
abbrev N__law_exact : List Str := ["_law_rows", "_law_till", "_law_purse", "_law_place", "_law_paying", "_law_giving", "_law_at", "_law_k", "_law_value_here", "_law_many"]
abbrev P__law_exact : List Str := ["_law_rows", "_law_till", "_law_purse", "_law_place"]
theorem sc__law_exact : FnScope N__law_exact P__law_exact (defScope s__law_exact) := ⟨rfl, rfl, rfl, by decide +kernel, rfl, by decide +kernel, by decide +kernel⟩
abbrev s__law_good : Stmt := topS 59
abbrev N__law_good : List Str := ["_law_till", "_law_purse", "_law_price_here", "_law_found", "_law_few", "_law_one", "_law_other", "_law_pair"]
abbrev P__law_good : List Str := ["_law_till", "_law_purse", "_law_price_here", "_law_found", "_law_few"]
theorem sc__law_good : FnScope N__law_good P__law_good (defScope s__law_good) := ⟨rfl, rfl, rfl, by decide +kernel, rfl, by decide +kernel, by decide +kernel⟩
abbrev s__law_walks : Stmt := topS 60
abbrev N__law_walks : List Str := ["_law_till", "_law_purse", "_law_price_here", "_law_handed", "_law_found", "_law_rows", "_law_at", "_law_few", "_law_kept", "_law_again"]
abbrev P__law_walks : List Str := ["_law_till", "_law_purse", "_law_price_here", "_law_handed", "_law_found"]
theorem sc__law_walks : FnScope N__law_walks P__law_walks (defScope s__law_walks) := ⟨rfl, rfl, rfl, by decide +kernel, rfl, by decide +kernel, by decide +kernel⟩
abbrev s_law : Stmt := topS 61
abbrev N_law : List Str := ["_law_script", "_law_drawn", "_law_till", "_law_purse", "_law_cell", "_law_price_here", "_law_far", "_law_strange", "_law_handed", "_law_found", "_law_pair"]
abbrev P_law : List Str := ["_law_script"]
theorem sc_law : FnScope N_law P_law (defScope s_law) := ⟨rfl, rfl, rfl, by decide +kernel, rfl, by decide +kernel, by decide +kernel⟩
/-- what the top has written -/
structure Tx (K : PySem.W.Frag) (mg : Str → Option Value) : Type where
  c_TillError : Addr
  c_NoTill : Addr
  c_NoKind : Addr
  c_Twice : Addr
  c_NoCount : Addr
  c_NoSum : Addr
  c_TooLittle : Addr
  c_NoChange : Addr
  c_TooFew : Addr
  c_StillHeld : Addr
  c_NoDeed : Addr
  a_check_count : Addr
  d_check_count : FuncData
  a_worth : Addr
  d_worth : FuncData
  a_count_of : Addr
  d_count_of : FuncData
  a_check_sum : Addr
  d_check_sum : FuncData
  a_table : Addr
  d_table : FuncData
  a_fewest : Addr
  d_fewest : FuncData
  a_with_kind : Addr
  d_with_kind : FuncData
  a__bundles : Addr
  d__bundles : FuncData
  a__with_bundle : Addr
  d__with_bundle : FuncData
  a__most_given : Addr
  d__most_given : FuncData
  a_scales : Addr
  d_scales : FuncData
  a_deal : Addr
  d_deal : FuncData
  a__check_purse : Addr
  d__check_purse : FuncData
  a__with_numbers : Addr
  d__with_numbers : FuncData
  a__best_way : Addr
  d__best_way : FuncData
  a__greatest_number : Addr
  d__greatest_number : FuncData
  a_paid : Addr
  d_paid : FuncData
  a_brought : Addr
  d_brought : FuncData
  a__with_count : Addr
  d__with_count : FuncData
  a__law_cell_at : Addr
  d__law_cell_at : FuncData
  a__law_whole : Addr
  d__law_whole : FuncData
  a__law_mixed : Addr
  d__law_mixed : FuncData
  a__law_value : Addr
  d__law_value : FuncData
  a__law_till_and_purse : Addr
  d__law_till_and_purse : FuncData
  a__law_own : Addr
  d__law_own : FuncData
  a__law_total : Addr
  d__law_total : FuncData
  a__law_lightest : Addr
  d__law_lightest : FuncData
  a__law_row : Addr
  d__law_row : FuncData
  a__law_scaled : Addr
  d__law_scaled : FuncData
  a__law_part : Addr
  d__law_part : FuncData
  a__law_pieces : Addr
  d__law_pieces : FuncData
  a__law_deal : Addr
  d__law_deal : FuncData
  a__law_any : Addr
  d__law_any : FuncData
  a__law_great : Addr
  d__law_great : FuncData
  a__law_price : Addr
  d__law_price : FuncData
  a__law_pays_back : Addr
  d__law_pays_back : FuncData
  a__law_makes : Addr
  d__law_makes : FuncData
  a__law_exact : Addr
  d__law_exact : FuncData
  a__law_good : Addr
  d__law_good : FuncData
  a__law_walks : Addr
  d__law_walks : FuncData
  a_law : Addr
  d_law : FuncData
  g_TillError : mg "TillError" = some (.ref c_TillError)
  x_TillError : PySem.W.excIn K c_TillError [.type "ValueError", .type "Exception", .type "BaseException", .type "object"] "ValueError.__new__" = true
  k_TillError : PySem.W.keepIn K (.ref c_TillError) = true
  b_TillError : PySem.W.subIn K (.ref c_TillError) (.type "BaseException") = some true
  t_TillError : PySem.W.typeIn K (.ref c_TillError) = some (.type "type")
  i_TillError : PySem.W.isClsIn K c_TillError = true
  g_NoTill : mg "NoTill" = some (.ref c_NoTill)
  x_NoTill : PySem.W.excIn K c_NoTill [.type "ValueError", .type "Exception", .type "BaseException", .type "object"] "ValueError.__new__" = true
  k_NoTill : PySem.W.keepIn K (.ref c_NoTill) = true
  b_NoTill : PySem.W.subIn K (.ref c_NoTill) (.type "BaseException") = some true
  t_NoTill : PySem.W.typeIn K (.ref c_NoTill) = some (.type "type")
  i_NoTill : PySem.W.isClsIn K c_NoTill = true
  g_NoKind : mg "NoKind" = some (.ref c_NoKind)
  x_NoKind : PySem.W.excIn K c_NoKind [.type "ValueError", .type "Exception", .type "BaseException", .type "object"] "ValueError.__new__" = true
  k_NoKind : PySem.W.keepIn K (.ref c_NoKind) = true
  b_NoKind : PySem.W.subIn K (.ref c_NoKind) (.type "BaseException") = some true
  t_NoKind : PySem.W.typeIn K (.ref c_NoKind) = some (.type "type")
  i_NoKind : PySem.W.isClsIn K c_NoKind = true
  g_Twice : mg "Twice" = some (.ref c_Twice)
  x_Twice : PySem.W.excIn K c_Twice [.type "ValueError", .type "Exception", .type "BaseException", .type "object"] "ValueError.__new__" = true
  k_Twice : PySem.W.keepIn K (.ref c_Twice) = true
  b_Twice : PySem.W.subIn K (.ref c_Twice) (.type "BaseException") = some true
  t_Twice : PySem.W.typeIn K (.ref c_Twice) = some (.type "type")
  i_Twice : PySem.W.isClsIn K c_Twice = true
  g_NoCount : mg "NoCount" = some (.ref c_NoCount)
  x_NoCount : PySem.W.excIn K c_NoCount [.type "ValueError", .type "Exception", .type "BaseException", .type "object"] "ValueError.__new__" = true
  k_NoCount : PySem.W.keepIn K (.ref c_NoCount) = true
  b_NoCount : PySem.W.subIn K (.ref c_NoCount) (.type "BaseException") = some true
  t_NoCount : PySem.W.typeIn K (.ref c_NoCount) = some (.type "type")
  i_NoCount : PySem.W.isClsIn K c_NoCount = true
  g_NoSum : mg "NoSum" = some (.ref c_NoSum)
  x_NoSum : PySem.W.excIn K c_NoSum [.type "ValueError", .type "Exception", .type "BaseException", .type "object"] "ValueError.__new__" = true
  k_NoSum : PySem.W.keepIn K (.ref c_NoSum) = true
  b_NoSum : PySem.W.subIn K (.ref c_NoSum) (.type "BaseException") = some true
  t_NoSum : PySem.W.typeIn K (.ref c_NoSum) = some (.type "type")
  i_NoSum : PySem.W.isClsIn K c_NoSum = true
  g_TooLittle : mg "TooLittle" = some (.ref c_TooLittle)
  x_TooLittle : PySem.W.excIn K c_TooLittle [.type "ValueError", .type "Exception", .type "BaseException", .type "object"] "ValueError.__new__" = true
  k_TooLittle : PySem.W.keepIn K (.ref c_TooLittle) = true
  b_TooLittle : PySem.W.subIn K (.ref c_TooLittle) (.type "BaseException") = some true
  t_TooLittle : PySem.W.typeIn K (.ref c_TooLittle) = some (.type "type")
  i_TooLittle : PySem.W.isClsIn K c_TooLittle = true
  g_NoChange : mg "NoChange" = some (.ref c_NoChange)
  x_NoChange : PySem.W.excIn K c_NoChange [.type "ValueError", .type "Exception", .type "BaseException", .type "object"] "ValueError.__new__" = true
  k_NoChange : PySem.W.keepIn K (.ref c_NoChange) = true
  b_NoChange : PySem.W.subIn K (.ref c_NoChange) (.type "BaseException") = some true
  t_NoChange : PySem.W.typeIn K (.ref c_NoChange) = some (.type "type")
  i_NoChange : PySem.W.isClsIn K c_NoChange = true
  g_TooFew : mg "TooFew" = some (.ref c_TooFew)
  x_TooFew : PySem.W.excIn K c_TooFew [.type "ValueError", .type "Exception", .type "BaseException", .type "object"] "ValueError.__new__" = true
  k_TooFew : PySem.W.keepIn K (.ref c_TooFew) = true
  b_TooFew : PySem.W.subIn K (.ref c_TooFew) (.type "BaseException") = some true
  t_TooFew : PySem.W.typeIn K (.ref c_TooFew) = some (.type "type")
  i_TooFew : PySem.W.isClsIn K c_TooFew = true
  g_StillHeld : mg "StillHeld" = some (.ref c_StillHeld)
  x_StillHeld : PySem.W.excIn K c_StillHeld [.type "ValueError", .type "Exception", .type "BaseException", .type "object"] "ValueError.__new__" = true
  k_StillHeld : PySem.W.keepIn K (.ref c_StillHeld) = true
  b_StillHeld : PySem.W.subIn K (.ref c_StillHeld) (.type "BaseException") = some true
  t_StillHeld : PySem.W.typeIn K (.ref c_StillHeld) = some (.type "type")
  i_StillHeld : PySem.W.isClsIn K c_StillHeld = true
  g_NoDeed : mg "NoDeed" = some (.ref c_NoDeed)
  x_NoDeed : PySem.W.excIn K c_NoDeed [.type "ValueError", .type "Exception", .type "BaseException", .type "object"] "ValueError.__new__" = true
  k_NoDeed : PySem.W.keepIn K (.ref c_NoDeed) = true
  b_NoDeed : PySem.W.subIn K (.ref c_NoDeed) (.type "BaseException") = some true
  t_NoDeed : PySem.W.typeIn K (.ref c_NoDeed) = some (.type "type")
  i_NoDeed : PySem.W.isClsIn K c_NoDeed = true
  u_NoCount_NoKind : PySem.W.subIn K (.ref c_NoCount) (.ref c_NoKind) = some false
  u_NoCount_NoSum : PySem.W.subIn K (.ref c_NoCount) (.ref c_NoSum) = some false
  u_NoCount_NoChange : PySem.W.subIn K (.ref c_NoCount) (.ref c_NoChange) = some false
  u_NoCount_TillError : PySem.W.subIn K (.ref c_NoCount) (.ref c_TillError) = some true
  u_NoCount_NoCount : PySem.W.subIn K (.ref c_NoCount) (.ref c_NoCount) = some true
  u_NoCount_NoDeed : PySem.W.subIn K (.ref c_NoCount) (.ref c_NoDeed) = some false
  u_NoCount_NoTill : PySem.W.subIn K (.ref c_NoCount) (.ref c_NoTill) = some false
  u_NoCount_StillHeld : PySem.W.subIn K (.ref c_NoCount) (.ref c_StillHeld) = some false
  u_NoCount_TooFew : PySem.W.subIn K (.ref c_NoCount) (.ref c_TooFew) = some false
  u_NoCount_TooLittle : PySem.W.subIn K (.ref c_NoCount) (.ref c_TooLittle) = some false
  u_NoCount_Twice : PySem.W.subIn K (.ref c_NoCount) (.ref c_Twice) = some false
  u_NoKind_NoKind : PySem.W.subIn K (.ref c_NoKind) (.ref c_NoKind) = some true
  u_NoKind_NoSum : PySem.W.subIn K (.ref c_NoKind) (.ref c_NoSum) = some false
  u_NoKind_NoChange : PySem.W.subIn K (.ref c_NoKind) (.ref c_NoChange) = some false
  u_NoKind_TillError : PySem.W.subIn K (.ref c_NoKind) (.ref c_TillError) = some true
  u_NoKind_NoCount : PySem.W.subIn K (.ref c_NoKind) (.ref c_NoCount) = some false
  u_NoKind_NoDeed : PySem.W.subIn K (.ref c_NoKind) (.ref c_NoDeed) = some false
  u_NoKind_NoTill : PySem.W.subIn K (.ref c_NoKind) (.ref c_NoTill) = some false
  u_NoKind_StillHeld : PySem.W.subIn K (.ref c_NoKind) (.ref c_StillHeld) = some false
  u_NoKind_TooFew : PySem.W.subIn K (.ref c_NoKind) (.ref c_TooFew) = some false
  u_NoKind_TooLittle : PySem.W.subIn K (.ref c_NoKind) (.ref c_TooLittle) = some false
  u_NoKind_Twice : PySem.W.subIn K (.ref c_NoKind) (.ref c_Twice) = some false
  u_NoSum_NoKind : PySem.W.subIn K (.ref c_NoSum) (.ref c_NoKind) = some false
  u_NoSum_NoSum : PySem.W.subIn K (.ref c_NoSum) (.ref c_NoSum) = some true
  u_NoSum_NoChange : PySem.W.subIn K (.ref c_NoSum) (.ref c_NoChange) = some false
  u_NoSum_TillError : PySem.W.subIn K (.ref c_NoSum) (.ref c_TillError) = some true
  u_NoSum_NoCount : PySem.W.subIn K (.ref c_NoSum) (.ref c_NoCount) = some false
  u_NoSum_NoDeed : PySem.W.subIn K (.ref c_NoSum) (.ref c_NoDeed) = some false
  u_NoSum_NoTill : PySem.W.subIn K (.ref c_NoSum) (.ref c_NoTill) = some false
  u_NoSum_StillHeld : PySem.W.subIn K (.ref c_NoSum) (.ref c_StillHeld) = some false
  u_NoSum_TooFew : PySem.W.subIn K (.ref c_NoSum) (.ref c_TooFew) = some false
  u_NoSum_TooLittle : PySem.W.subIn K (.ref c_NoSum) (.ref c_TooLittle) = some false
  u_NoSum_Twice : PySem.W.subIn K (.ref c_NoSum) (.ref c_Twice) = some false
  u_NoChange_NoKind : PySem.W.subIn K (.ref c_NoChange) (.ref c_NoKind) = some false
  u_NoChange_NoSum : PySem.W.subIn K (.ref c_NoChange) (.ref c_NoSum) = some false
  u_NoChange_NoChange : PySem.W.subIn K (.ref c_NoChange) (.ref c_NoChange) = some true
  u_NoChange_TillError : PySem.W.subIn K (.ref c_NoChange) (.ref c_TillError) = some true
  u_NoChange_NoCount : PySem.W.subIn K (.ref c_NoChange) (.ref c_NoCount) = some false
  u_NoChange_NoDeed : PySem.W.subIn K (.ref c_NoChange) (.ref c_NoDeed) = some false
  u_NoChange_NoTill : PySem.W.subIn K (.ref c_NoChange) (.ref c_NoTill) = some false
  u_NoChange_StillHeld : PySem.W.subIn K (.ref c_NoChange) (.ref c_StillHeld) = some false
  u_NoChange_TooFew : PySem.W.subIn K (.ref c_NoChange) (.ref c_TooFew) = some false
  u_NoChange_TooLittle : PySem.W.subIn K (.ref c_NoChange) (.ref c_TooLittle) = some false
  u_NoChange_Twice : PySem.W.subIn K (.ref c_NoChange) (.ref c_Twice) = some false
  u_TooLittle_NoKind : PySem.W.subIn K (.ref c_TooLittle) (.ref c_NoKind) = some false
  u_TooLittle_NoSum : PySem.W.subIn K (.ref c_TooLittle) (.ref c_NoSum) = some false
  u_TooLittle_NoChange : PySem.W.subIn K (.ref c_TooLittle) (.ref c_NoChange) = some false
  u_TooLittle_TillError : PySem.W.subIn K (.ref c_TooLittle) (.ref c_TillError) = some true
  u_TooLittle_NoCount : PySem.W.subIn K (.ref c_TooLittle) (.ref c_NoCount) = some false
  u_TooLittle_NoDeed : PySem.W.subIn K (.ref c_TooLittle) (.ref c_NoDeed) = some false
  u_TooLittle_NoTill : PySem.W.subIn K (.ref c_TooLittle) (.ref c_NoTill) = some false
  u_TooLittle_StillHeld : PySem.W.subIn K (.ref c_TooLittle) (.ref c_StillHeld) = some false
  u_TooLittle_TooFew : PySem.W.subIn K (.ref c_TooLittle) (.ref c_TooFew) = some false
  u_TooLittle_TooLittle : PySem.W.subIn K (.ref c_TooLittle) (.ref c_TooLittle) = some true
  u_TooLittle_Twice : PySem.W.subIn K (.ref c_TooLittle) (.ref c_Twice) = some false
  e_NoCount : ExcC K c_NoCount
  z_NoCount : PySem.W.kitOne K (.ref c_NoCount) (.type "ValueError") = some true
  y_NoCount : PySem.W.kitAny K (.ref c_NoCount) [.ref c_NoCount, .ref c_NoDeed, .ref c_NoTill, .ref c_StillHeld, .ref c_TooFew, .ref c_TooLittle, .ref c_Twice] = some true
  e_NoKind : ExcC K c_NoKind
  z_NoKind : PySem.W.kitOne K (.ref c_NoKind) (.type "ValueError") = some true
  y_NoKind : PySem.W.kitAny K (.ref c_NoKind) [.ref c_NoCount, .ref c_NoDeed, .ref c_NoTill, .ref c_StillHeld, .ref c_TooFew, .ref c_TooLittle, .ref c_Twice] = some false
  e_NoSum : ExcC K c_NoSum
  z_NoSum : PySem.W.kitOne K (.ref c_NoSum) (.type "ValueError") = some true
  y_NoSum : PySem.W.kitAny K (.ref c_NoSum) [.ref c_NoCount, .ref c_NoDeed, .ref c_NoTill, .ref c_StillHeld, .ref c_TooFew, .ref c_TooLittle, .ref c_Twice] = some false
  e_NoChange : ExcC K c_NoChange
  z_NoChange : PySem.W.kitOne K (.ref c_NoChange) (.type "ValueError") = some true
  y_NoChange : PySem.W.kitAny K (.ref c_NoChange) [.ref c_NoCount, .ref c_NoDeed, .ref c_NoTill, .ref c_StillHeld, .ref c_TooFew, .ref c_TooLittle, .ref c_Twice] = some false
  e_TooLittle : ExcC K c_TooLittle
  z_TooLittle : PySem.W.kitOne K (.ref c_TooLittle) (.type "ValueError") = some true
  y_TooLittle : PySem.W.kitAny K (.ref c_TooLittle) [.ref c_NoCount, .ref c_NoDeed, .ref c_NoTill, .ref c_StillHeld, .ref c_TooFew, .ref c_TooLittle, .ref c_Twice] = some true
  f_check_count : Fun K "check_count" "check_count" s_check_count a_check_count d_check_count
  p_check_count : Binds K d_check_count P_check_count []
  g_check_count : mg "check_count" = some (.ref a_check_count)
  f_worth : Fun K "worth" "worth" s_worth a_worth d_worth
  p_worth : Binds K d_worth P_worth []
  g_worth : mg "worth" = some (.ref a_worth)
  f_count_of : Fun K "count_of" "count_of" s_count_of a_count_of d_count_of
  p_count_of : Binds K d_count_of P_count_of []
  g_count_of : mg "count_of" = some (.ref a_count_of)
  f_check_sum : Fun K "check_sum" "check_sum" s_check_sum a_check_sum d_check_sum
  p_check_sum : Binds K d_check_sum P_check_sum []
  g_check_sum : mg "check_sum" = some (.ref a_check_sum)
  f_table : Fun K "table" "table" s_table a_table d_table
  p_table : Binds K d_table P_table []
  g_table : mg "table" = some (.ref a_table)
  f_fewest : Fun K "fewest" "fewest" s_fewest a_fewest d_fewest
  p_fewest : Binds K d_fewest P_fewest []
  g_fewest : mg "fewest" = some (.ref a_fewest)
  f_with_kind : Fun K "with_kind" "with_kind" s_with_kind a_with_kind d_with_kind
  p_with_kind : Binds K d_with_kind P_with_kind []
  g_with_kind : mg "with_kind" = some (.ref a_with_kind)
  f__bundles : Fun K "_bundles" "_bundles" s__bundles a__bundles d__bundles
  p__bundles : Binds K d__bundles P__bundles []
  g__bundles : mg "_bundles" = some (.ref a__bundles)
  f__with_bundle : Fun K "_with_bundle" "_with_bundle" s__with_bundle a__with_bundle d__with_bundle
  p__with_bundle : Binds K d__with_bundle P__with_bundle []
  g__with_bundle : mg "_with_bundle" = some (.ref a__with_bundle)
  f__most_given : Fun K "_most_given" "_most_given" s__most_given a__most_given d__most_given
  p__most_given : Binds K d__most_given P__most_given []
  g__most_given : mg "_most_given" = some (.ref a__most_given)
  f_scales : Fun K "scales" "scales" s_scales a_scales d_scales
  p_scales : Binds K d_scales P_scales []
  g_scales : mg "scales" = some (.ref a_scales)
  f_deal : Fun K "deal" "deal" s_deal a_deal d_deal
  p_deal : Binds K d_deal P_deal []
  g_deal : mg "deal" = some (.ref a_deal)
  f__check_purse : Fun K "_check_purse" "_check_purse" s__check_purse a__check_purse d__check_purse
  p__check_purse : Binds K d__check_purse P__check_purse []
  g__check_purse : mg "_check_purse" = some (.ref a__check_purse)
  f__with_numbers : Fun K "_with_numbers" "_with_numbers" s__with_numbers a__with_numbers d__with_numbers
  p__with_numbers : Binds K d__with_numbers P__with_numbers []
  g__with_numbers : mg "_with_numbers" = some (.ref a__with_numbers)
  f__best_way : Fun K "_best_way" "_best_way" s__best_way a__best_way d__best_way
  p__best_way : Binds K d__best_way P__best_way []
  g__best_way : mg "_best_way" = some (.ref a__best_way)
  f__greatest_number : Fun K "_greatest_number" "_greatest_number" s__greatest_number a__greatest_number d__greatest_number
  p__greatest_number : Binds K d__greatest_number P__greatest_number []
  g__greatest_number : mg "_greatest_number" = some (.ref a__greatest_number)
  f_paid : Fun K "paid" "paid" s_paid a_paid d_paid
  p_paid : Binds K d_paid P_paid []
  g_paid : mg "paid" = some (.ref a_paid)
  f_brought : Fun K "brought" "brought" s_brought a_brought d_brought
  p_brought : Binds K d_brought P_brought []
  g_brought : mg "brought" = some (.ref a_brought)
  f__with_count : Fun K "_with_count" "_with_count" s__with_count a__with_count d__with_count
  p__with_count : Binds K d__with_count P__with_count []
  g__with_count : mg "_with_count" = some (.ref a__with_count)
  f__law_cell_at : Fun K "_law_cell_at" "_law_cell_at" s__law_cell_at a__law_cell_at d__law_cell_at
  p__law_cell_at : Binds K d__law_cell_at P__law_cell_at []
  g__law_cell_at : mg "_law_cell_at" = some (.ref a__law_cell_at)
  f__law_whole : Fun K "_law_whole" "_law_whole" s__law_whole a__law_whole d__law_whole
  p__law_whole : Binds K d__law_whole P__law_whole []
  g__law_whole : mg "_law_whole" = some (.ref a__law_whole)
  f__law_mixed : Fun K "_law_mixed" "_law_mixed" s__law_mixed a__law_mixed d__law_mixed
  p__law_mixed : Binds K d__law_mixed P__law_mixed []
  g__law_mixed : mg "_law_mixed" = some (.ref a__law_mixed)
  f__law_value : Fun K "_law_value" "_law_value" s__law_value a__law_value d__law_value
  p__law_value : Binds K d__law_value P__law_value []
  g__law_value : mg "_law_value" = some (.ref a__law_value)
  f__law_till_and_purse : Fun K "_law_till_and_purse" "_law_till_and_purse" s__law_till_and_purse a__law_till_and_purse d__law_till_and_purse
  p__law_till_and_purse : Binds K d__law_till_and_purse P__law_till_and_purse []
  g__law_till_and_purse : mg "_law_till_and_purse" = some (.ref a__law_till_and_purse)
  f__law_own : Fun K "_law_own" "_law_own" s__law_own a__law_own d__law_own
  p__law_own : Binds K d__law_own P__law_own []
  g__law_own : mg "_law_own" = some (.ref a__law_own)
  f__law_total : Fun K "_law_total" "_law_total" s__law_total a__law_total d__law_total
  p__law_total : Binds K d__law_total P__law_total []
  g__law_total : mg "_law_total" = some (.ref a__law_total)
  f__law_lightest : Fun K "_law_lightest" "_law_lightest" s__law_lightest a__law_lightest d__law_lightest
  p__law_lightest : Binds K d__law_lightest P__law_lightest []
  g__law_lightest : mg "_law_lightest" = some (.ref a__law_lightest)
  f__law_row : Fun K "_law_row" "_law_row" s__law_row a__law_row d__law_row
  p__law_row : Binds K d__law_row P__law_row []
  g__law_row : mg "_law_row" = some (.ref a__law_row)
  f__law_scaled : Fun K "_law_scaled" "_law_scaled" s__law_scaled a__law_scaled d__law_scaled
  p__law_scaled : Binds K d__law_scaled P__law_scaled []
  g__law_scaled : mg "_law_scaled" = some (.ref a__law_scaled)
  f__law_part : Fun K "_law_part" "_law_part" s__law_part a__law_part d__law_part
  p__law_part : Binds K d__law_part P__law_part []
  g__law_part : mg "_law_part" = some (.ref a__law_part)
  f__law_pieces : Fun K "_law_pieces" "_law_pieces" s__law_pieces a__law_pieces d__law_pieces
  p__law_pieces : Binds K d__law_pieces P__law_pieces []
  g__law_pieces : mg "_law_pieces" = some (.ref a__law_pieces)
  f__law_deal : Fun K "_law_deal" "_law_deal" s__law_deal a__law_deal d__law_deal
  p__law_deal : Binds K d__law_deal P__law_deal []
  g__law_deal : mg "_law_deal" = some (.ref a__law_deal)
  f__law_any : Fun K "_law_any" "_law_any" s__law_any a__law_any d__law_any
  p__law_any : Binds K d__law_any P__law_any []
  g__law_any : mg "_law_any" = some (.ref a__law_any)
  f__law_great : Fun K "_law_great" "_law_great" s__law_great a__law_great d__law_great
  p__law_great : Binds K d__law_great P__law_great []
  g__law_great : mg "_law_great" = some (.ref a__law_great)
  f__law_price : Fun K "_law_price" "_law_price" s__law_price a__law_price d__law_price
  p__law_price : Binds K d__law_price P__law_price []
  g__law_price : mg "_law_price" = some (.ref a__law_price)
  f__law_pays_back : Fun K "_law_pays_back" "_law_pays_back" s__law_pays_back a__law_pays_back d__law_pays_back
  p__law_pays_back : Binds K d__law_pays_back P__law_pays_back []
  g__law_pays_back : mg "_law_pays_back" = some (.ref a__law_pays_back)
  f__law_makes : Fun K "_law_makes" "_law_makes" s__law_makes a__law_makes d__law_makes
  p__law_makes : Binds K d__law_makes P__law_makes []
  g__law_makes : mg "_law_makes" = some (.ref a__law_makes)
  f__law_exact : Fun K "_law_exact" "_law_exact" s__law_exact a__law_exact d__law_exact
  p__law_exact : Binds K d__law_exact P__law_exact []
  g__law_exact : mg "_law_exact" = some (.ref a__law_exact)
  f__law_good : Fun K "_law_good" "_law_good" s__law_good a__law_good d__law_good
  p__law_good : Binds K d__law_good P__law_good []
  g__law_good : mg "_law_good" = some (.ref a__law_good)
  f__law_walks : Fun K "_law_walks" "_law_walks" s__law_walks a__law_walks d__law_walks
  p__law_walks : Binds K d__law_walks P__law_walks []
  g__law_walks : mg "_law_walks" = some (.ref a__law_walks)
  f_law : Fun K "law" "law" s_law a_law d_law
  p_law : Binds K d_law P_law []
  g_law : mg "law" = some (.ref a_law)
  w_MOST_COUNT : ∃ t, mg "MOST_COUNT" = some (.int 1000000000 t)
  w_MOST_SUM : ∃ t, mg "MOST_SUM" = some (.int 1000 t)
  w_MOST_WORTH : ∃ t, mg "MOST_WORTH" = some (.int 1500 t)
  w_MOST_PAID : ∃ t, mg "MOST_PAID" = some (.int 60 t)
  m_ValueError : mg "ValueError" = none
  m_abs : mg "abs" = none
  m_bool : mg "bool" = none
  m_dict : mg "dict" = none
  m_int : mg "int" = none
  m_isinstance : mg "isinstance" = none
  m_len : mg "len" = none
  m_list : mg "list" = none
  m_max : mg "max" = none
  m_min : mg "min" = none
  m_range : mg "range" = none
  m_reversed : mg "reversed" = none
  m_sorted : mg "sorted" = none
  m_sum : mg "sum" = none
  m_tuple : mg "tuple" = none
section
variable {P : Program} {w : World} {K : PySem.W.Frag} {mg : Str → Option Value} {base : Heap}
/-! ### small things over the layer -/
abbrev CXR (P : Program) (w : World) : CXT := L2.CX P w
abbrev Ex := Evl.Ex
theorem Ex.rfl' {H : Hp} : Ex H H := fun _ _ h => h
theorem Ex.tr {H H1 H2 : Hp} (a : Ex H H1) (b : Ex H1 H2) : Ex H H2 := Evl.Ex.trans a b
theorem Ex.nw {H : Hp} {p : Addr} {o : HO} (h : H p = none) : Ex H (upd H p o) := Evl.Ex.new h
theorem Ex.seq {K : PySem.W.Frag} {H H' : Hp} {a : Addr} {xs : List V} (e : Ex H H') (h : SqL K H a xs) : SqL K H' a xs := Evl.ex_l e h
theorem ipR {X : Cx} {op : Operator} {r : R2} (ho : OpR X (inplaceOp op) r) : PIp X op r := fun pins s σ H x y v u Q I rx ry h => ho pins s σ H x y v u Q I rx ry h
theorem ip_mulR {X : Cx} : PIp X .Mult (rI CMul fun i j => .int (i * j)) := ipR iop_mul
/-- isinstance of the caught error: a class, a tuple of classes just laid; the error's class is told in the reading -/
def rIsE1 (K : PySem.W.Frag) (cls : Value) (d : Option Addr) (a : Addr) : List V → Hp → VK → Prop := fun xs H Q => ∃ (D : Addr) (c : V) (cv : Value) (b : Bool), cls = .ref D ∧ d = none ∧ ExcC K D ∧ xs = [.ref a, c] ∧ (∀ u, RelV c u → u = cv) ∧ PySem.W.kitOne K (.ref D) cv = some b ∧ Q (.bl b) H
theorem call_isE1 {X : Cx} {a : Addr} {cls : Value} {d : Option Addr} {oe : Obj} {pn : List (Addr × Obj)} (hz : Zc cls d oe) (hf : ∃ vs, oe.data = .fields vs) : CallR (X.suite a ((a, oe) :: pn)) (.builtin "isinstance") (rIsE1 X.K cls d a) := by
  intro pins s σ H xs us Q I r h
  obtain ⟨D, c, cv, b, rfl, rfl, C, rfl, hcv, e, q⟩ := h
  exact call_isE C hz hf pins s σ H _ us Q I r ⟨c, cv, b, rfl, hcv, e, q⟩
def rIsET (K : PySem.W.Frag) (cls : Value) (d : Option Addr) (a : Addr) : List V → Hp → VK → Prop := fun xs H Q => ∃ (D tp : Addr) (cs : List V) (us : List Value) (b : Bool), cls = .ref D ∧ d = none ∧ ExcC K D ∧ xs = [.ref a, .ref tp] ∧ H tp = some (.tup cs) ∧ Paired ClsV cs us ∧ PySem.W.kitAny K (.ref D) us = some b ∧ Q (.bl b) H
theorem call_isET {X : Cx} {a : Addr} {cls : Value} {d : Option Addr} {oe : Obj} {pn : List (Addr × Obj)} (hz : Zc cls d oe) (hf : ∃ fs, oe.data = .fields fs) : CallR (X.suite a ((a, oe) :: pn)) (.builtin "isinstance") (rIsET X.K cls d a) := by
  intro pins s σ H xs us Q I r h
  obtain ⟨D, tp, cs, ws, b, rfl, rfl, C, rfl, hT, k, e, q⟩ := h
  obtain ⟨w1, w2, rfl, p1, p2⟩ := vals2 r
  cases (show w2 = Value.ref tp from p2)
  cases (show w1 = Value.ref a from p1)
  obtain ⟨hgt, _⟩ := I.pin (a, oe) (List.mem_append.mpr (.inl List.mem_cons_self))
  obtain ⟨fs, hv⟩ := hf
  have J : PySem.W.InstAt s.heap a oe D none := by
    obtain ⟨oc, od, odt, oss⟩ := oe
    obtain ⟨k1, k2⟩ := hz
    dsimp only at k1 k2 hv
    subst k1 k2 hv
    exact ⟨hgt, rfl, rfl, trivial⟩
  obtain ⟨_, zs, rv, o, k1, k2, n, k3⟩ := (show ObjOk X.prog X.w H s.heap tp (.tup cs) from I.hok tp _ hT)
  have e3 := ClsV.all k rv
  subst e3
  obtain ⟨oc, od, dt, sl⟩ := o
  simp only at k2 k3
  subst k2 k3
  exact PySem.W.kia_tup (PySem.W.handS_kitx_exc C.hg C.hk C.hs C.hd C.ha C.hn C.ht C.hm) I.kIn J k1 e (fun z => nomatch z) fun tk => ⟨.bl b, H, I.tok tk, rfl, q⟩
/-- len, list(x), told by a K that is named -/
abbrev rLenK (K : PySem.W.Frag) : List V → Hp → VK → Prop := fun zs H Q => ∃ p ys, zs = [.ref p] ∧ (SqL K H p ys ∨ SqT K H p ys) ∧ Q (.int ys.length) H
abbrev rListK (K : PySem.W.Frag) : List V → Hp → VK → Prop := fun zs H Q => ∃ p ys, zs = [.ref p] ∧ (SqL K H p ys ∨ SqT K H p ys) ∧ ∀ l, H l = none → Q (.ref l) (upd H l (.lst ys))
/-- pairs of ints, each a tracked tuple -/
def Prs (H : Hp) : List V → List (Int × Int) → Prop := Paired fun x p => ∃ t, x = .ref t ∧ H t = some (.tup [.int p.1, .int p.2])
theorem Prs.ex {H H' : Hp} (e : Ex H H') : ∀ {xs : List V} {ps : List (Int × Int)}, Prs H xs ps → Prs H' xs ps
  | _, _, .nil => .nil
  | _, _, .cons ⟨t, h1, h2⟩ r => .cons ⟨t, h1, e _ _ h2⟩ (Prs.ex e r)
theorem Prs.len {H : Hp} {xs : List V} {ps : List (Int × Int)} (h : Prs H xs ps) : xs.length = ps.length := Paired.length h
theorem Prs.snoc {H : Hp} : ∀ {xs : List V} {ps : List (Int × Int)} {x : V} {p : Int × Int}, Prs H xs ps → (∃ t, x = .ref t ∧ H t = some (.tup [.int p.1, .int p.2])) → Prs H (xs ++ [x]) (ps ++ [p])
  | _, _, _, _, .nil, h => .cons h .nil
  | _, _, _, _, .cons a r, h => .cons a (Prs.snoc r h)
theorem Prs.get {H : Hp} : ∀ {xs : List V} {ps : List (Int × Int)} {i : Nat} {x : V}, Prs H xs ps → xs[i]? = some x → ∃ p t, ps[i]? = some p ∧ x = .ref t ∧ H t = some (.tup [.int p.1, .int p.2])
  | _, _, _, _, .nil, e => by simp at e
  | _, _, 0, _, .cons (b := p) ⟨t, h1, h2⟩ _, e => by simp at e; subst e; exact ⟨p, t, by simp, h1, h2⟩
  | _, _, i + 1, x, .cons _ r, e => by
    obtain ⟨p, t, h1, h2⟩ := Prs.get (i := i) (x := x) r (by simpa using e)
    exact ⟨p, t, by simpa using h1, h2⟩
theorem Prs.getL {H : Hp} : ∀ {xs : List V} {ps : List (Int × Int)} {i : Nat} {p : Int × Int}, Prs H xs ps → ps[i]? = some p → ∃ t, xs[i]? = some (.ref t) ∧ H t = some (.tup [.int p.1, .int p.2])
  | _, _, _, _, .nil, e => by simp at e
  | _, _, 0, _, .cons ⟨t, h1, h2⟩ _, e => by simp at e; subst e; exact ⟨t, by simpa using h1, h2⟩
  | _, _, i + 1, p, .cons _ r, e => by
    obtain ⟨t, h1, h2⟩ := Prs.getL (i := i) (p := p) r (by simpa using e)
    exact ⟨t, by simpa using h1, h2⟩
/-- a till (or purse): a list of such pairs -/
def Till (K : PySem.W.Frag) (H : Hp) (a : Addr) (ps : List (Int × Int)) : Prop := ∃ xs, SqL K H a xs ∧ Prs H xs ps
theorem Till.ex {K : PySem.W.Frag} {H H' : Hp} {a : Addr} {ps : List (Int × Int)} (e : Ex H H') (h : Till K H a ps) : Till K H' a ps :=
  let ⟨xs, h1, h2⟩ := h; ⟨xs, Ex.seq e h1, h2.ex e⟩
/-- what a def that gives no new list answers -/
def Ret (v : V) (H : Hp) (Q : VK) : Prop := ∀ H2, Ex H H2 → Q v H2
theorem Ret.at {v : V} {H H' : Hp} {Q : VK} (k : Ret v H Q) (e : Ex H H') : Q v H' := k H' e
theorem len63 {n : Nat} (h : n ≤ 1000000) : n ≤ sizeLine := Nat.le_trans h (by decide)
theorem len63' {n : Nat} (h : n < 1000000) : n < sizeLine := Nat.lt_of_lt_of_le h (by decide)
theorem iteD {c A B : Prop} [Decidable c] (h1 : c → A) (h2 : ¬ c → B) : if decide c = true then A else B := by
  by_cases h : c
  · rw [if_pos (decide_eq_true h)]; exact h1 h
  · rw [if_neg (by simpa using h)]; exact h2 h
theorem iteDN {c A B : Prop} [Decidable c] (h1 : ¬ c → A) (h2 : c → B) : if (!decide c) = true then A else B := by
  by_cases h : c
  · rw [if_neg (by simpa using h)]; exact h2 h
  · rw [if_pos (by simpa using h)]; exact h1 h
theorem iteVI {i j : Int} {A B : Prop} (h1 : i = j → A) (h2 : ¬ i = j → B) : if decide (V.int i = V.int j) = true then A else B :=
  iteD (fun e => h1 (V.int.inj e)) fun e => h2 fun z => e (congrArg V.int z)
theorem iteVN {i j : Int} {A B : Prop} (h1 : ¬ i = j → A) (h2 : i = j → B) : if (!decide (V.int i = V.int j)) = true then A else B :=
  iteDN (fun e => h1 fun z => e (congrArg V.int z)) fun e => h2 (V.int.inj e)
theorem iteB {b : Bool} {A B : Prop} (h1 : b = true → A) (h2 : b = false → B) : if b = true then A else B := by
  cases b with
  | true => exact iteT (h1 rfl)
  | false => exact iteF (h2 rfl)
/-- what «except D» says of an error of the class C -/
theorem exm_mk {K : PySem.W.Frag} {C D : Addr} {b : Bool} (h1 : PySem.W.subIn K (.ref D) (.type "BaseException") = some true) (h2 : PySem.W.isClsIn K D = true) (h3 : PySem.W.typeIn K (.ref D) = some (.type "type")) (h4 : PySem.W.subIn K (.ref C) (.ref D) = some b) :
    PySem.W.exmOne K (.ref C) (.ref D) = some b := by
  have e1 : (PySem.W.subIn K (.ref D) (.type "BaseException") == some true) = true := by rw [h1] <;> rfl
  have e2 : ((PySem.W.clsIn K D).isSome && PySem.W.typeIn K (.ref D) == some (.type "type")) = true := by
    have h2' : (PySem.W.clsIn K D).isSome = true := h2
    rw [h2', h3] <;> rfl
  show (if (PySem.W.subIn K (.ref D) (.type "BaseException") == some true) = true then (if ((PySem.W.clsIn K D).isSome && PySem.W.typeIn K (.ref D) == some (.type "type")) = true then PySem.W.subIn K (.ref C) (.ref D) else none) else none) = some b
  rw [if_pos e1, if_pos e2]
  exact h4
theorem Ex.mu {H H' : Hp} {p : Addr} {o : HO} (e : Ex H H') (h : H p = none) : Ex H (upd H' p o) := Evl.Ex.mut e h
theorem Prs.up {H : Hp} {f : Addr} {o : HO} (hf : ∀ ys, H f ≠ some (.tup ys)) : ∀ {xs : List V} {ps : List (Int × Int)}, Prs H xs ps → Prs (upd H f o) xs ps
  | _, _, .nil => .nil
  | _, _, .cons ⟨t, h1, h2⟩ r => .cons ⟨t, h1, by rw [upd_ne fun e => hf _ (e ▸ h2)]; exact h2⟩ (Prs.up hf r)
/-- the pair that stands at an address -/
def pairAt (H : Hp) : V → Int × Int
  | .ref t => match H t with
    | some (.tup [.int i, .int j]) => (i, j)
    | _ => (0, 0)
  | _ => (0, 0)
theorem pairAt_eq {H : Hp} {t : Addr} {i j : Int} (h : H t = some (.tup [.int i, .int j])) : pairAt H (.ref t) = (i, j) := by
  show (match H t with | some (.tup [.int i, .int j]) => (i, j) | _ => (0, 0)) = (i, j)
  rw [h]
theorem Prs.map {H : Hp} : ∀ {xs : List V} {ps : List (Int × Int)}, Prs H xs ps → ps = xs.map (pairAt H)
  | _, _, .nil => rfl
  | _, _, .cons ⟨t, h1, h2⟩ r => by rw [List.map_cons, ← Prs.map r, h1, pairAt_eq h2]
theorem Prs.all {H : Hp} {xs : List V} {ps : List (Int × Int)} (h : Prs H xs ps) : ∀ x ∈ xs, ∃ t, x = V.ref t ∧ H t = some (.tup [.int (pairAt H x).1, .int (pairAt H x).2]) := by
  intro x hx
  obtain ⟨i, hi, e⟩ := List.getElem_of_mem hx
  obtain ⟨p, t, h1, h2, h3⟩ := Prs.get h (by rw [List.getElem?_eq_getElem hi, e])
  refine ⟨t, h2, ?_⟩
  rw [h2, pairAt_eq h3]
  exact h3
theorem Prs.of {H : Hp} : ∀ {xs : List V}, (∀ x ∈ xs, ∃ t, x = V.ref t ∧ H t = some (.tup [.int (pairAt H x).1, .int (pairAt H x).2])) → Prs H xs (xs.map (pairAt H))
  | [], _ => .nil
  | x :: xs, h => .cons (h x List.mem_cons_self) (Prs.of fun y hy => h y (List.mem_cons_of_mem _ hy))
/-- the pairs rise by value and are apart -/
def Rising (ps : List (Int × Int)) : Prop := ps.Pairwise fun p q => p.1 < q.1
theorem rising_of {H : Hp} {ys : List V} (hs : SrtO.Srtd (ltP (pairAt H)) ys) (nd : ((ys.map (pairAt H)).map (·.1)).Nodup) : Rising (ys.map (pairAt H)) := by
  unfold Rising
  rw [List.pairwise_map]
  rw [List.map_map, List.Nodup, List.pairwise_map] at nd
  refine (hs.and nd).imp ?_
  intro a b h
  have h1 := SrtO.lexB_no.mp h.1
  have h2 : (pairAt H a).1 ≠ (pairAt H b).1 := h.2
  omega
/-- sorted of such pairs -/
theorem sorted_prs {H : Hp} {xs ys : List V} {ps : List (Int × Int)} (hp : Prs H xs ps) (nd : (ps.map (·.1)).Nodup) (h1 : SrtO.Srtd (ltP (pairAt H)) ys) (h2 : SrtO.Stb (ltP (pairAt H)) ys xs) :
    ∃ qs, Prs H ys qs ∧ qs.Perm ps ∧ Rising qs := by
  have hpm : (ys.map (pairAt H)).Perm ps := by
    rw [hp.map]
    exact h2.perm.map _
  exact ⟨ys.map (pairAt H), Prs.of fun y hy => hp.all y (h2.perm.mem_iff.mp hy), hpm, rising_of h1 ((hpm.map _).nodup_iff.mpr nd)⟩
/-- what a till drawn here is: 1 to 10 kinds, apart, in bounds -/
structure Drawn (ps : List (Int × Int)) : Prop where
  nd : (ps.map (·.1)).Nodup
  val : ∀ p ∈ ps, 1 ≤ p.1 ∧ p.1 ≤ 1000
  cnt : ∀ p ∈ ps, 0 ≤ p.2 ∧ p.2 ≤ 1000000000
theorem Drawn.perm {ps qs : List (Int × Int)} (d : Drawn ps) (h : qs.Perm ps) : Drawn qs :=
  ⟨(h.map _).nodup_iff.mpr d.nd, fun p hp => d.val p (h.mem_iff.mp hp), fun p hp => d.cnt p (h.mem_iff.mp hp)⟩
/-- a till as data -/
def dP (p : Int × Int) : PyData := .tuple [.int p.1, .int p.2]
theorem prs_dp {K : PySem.W.Frag} {H : Hp} : ∀ {xs : List V} {ps : List (Int × Int)}, Prs H xs ps → DpAll K H xs (ps.map dP)
  | _, _, .nil => .nil
  | _, _, .cons ⟨t, h1, h2⟩ r => .cons (h1 ▸ .tup (.of h2) (.cons (.int _) (.cons (.int _) .nil))) (prs_dp r)
theorem till_dp {K : PySem.W.Frag} {H : Hp} {a : Addr} {ps : List (Int × Int)} (h : Till K H a ps) : Dp K H (.ref a) (.list (ps.map dP)) :=
  let ⟨_, h1, h2⟩ := h; .lst h1 (prs_dp h2)
theorem canLay_dPs : ∀ ps : List (Int × Int), PyData.canLayAll0 (ps.map dP) = true
  | [] => rfl
  | p :: r => by
    rw [List.map_cons]
    show (PyData.canLay0 (dP p) && PyData.canLayAll0 (r.map dP)) = true
    rw [canLay_dPs r]
    rfl
theorem depth_dPs : ∀ ps : List (Int × Int), PyData.depthAll (ps.map dP) ≤ 3
  | [] => by decide
  | p :: r => by
    have h := depth_dPs r
    rw [List.map_cons]
    show max (PyData.depth (dP p)) (PyData.depthAll (r.map dP)) ≤ 3
    have : PyData.depth (dP p) ≤ 3 := by
      show PyData.depth (.tuple [.int p.1, .int p.2]) ≤ 3
      simp [PyData.depth, PyData.depthAll]
    omega
theorem shaped_till (ps : List (Int × Int)) : SeqAt.shaped (.list (ps.map dP)) = true := by
  unfold SeqAt.shaped
  have h1 : PyData.canLay0 (.list (ps.map dP)) = true := canLay_dPs ps
  have h2 : PyData.depth (.list (ps.map dP)) ≤ 64 := by
    have := depth_dPs ps
    simp only [PyData.depth]
    omega
  rw [h1, decide_eq_true h2]
  rfl
theorem eqv_of_shaped {d : PyData} (h : SeqAt.shaped d = true) : PyData.eqv d d = true := PySem.SeqAt.eqv_refl d (SeqAt.canLay_of_shaped h)
theorem t_yes {A B : Hp → Prop} {σ : L2.St} {H : Hp} (h : A H) : tYes σ H (fun b H3 => if b = true then A H3 else B H3) := by
  show if true = true then A H else B H
  rw [if_pos rfl]
  exact h
theorem canLay_ints : ∀ l : List Int, PyData.canLayAll0 (l.map PyData.int) = true
  | [] => rfl
  | p :: r => by
    rw [List.map_cons]
    show (PyData.canLay0 (.int p) && PyData.canLayAll0 (r.map PyData.int)) = true
    rw [canLay_ints r]
    rfl
theorem depth_ints : ∀ l : List Int, PyData.depthAll (l.map PyData.int) ≤ 3
  | [] => by decide
  | p :: r => by
    have h := depth_ints r
    rw [List.map_cons]
    show max (PyData.depth (.int p)) (PyData.depthAll (r.map PyData.int)) ≤ 3
    have : PyData.depth (.int p) ≤ 3 := by simp [PyData.depth]
    omega
theorem shaped_ints (l : List Int) : SeqAt.shaped (.list (l.map PyData.int)) = true := by
  unfold SeqAt.shaped
  have h1 : PyData.canLay0 (.list (l.map PyData.int)) = true := canLay_ints l
  have h2 : PyData.depth (.list (l.map PyData.int)) ≤ 64 := by
    have := depth_ints l
    simp only [PyData.depth]
    omega
  rw [h1, decide_eq_true h2]
  rfl
theorem kone_own {K : PySem.W.Frag} {D C : Addr} {b : Bool} (hn : D ≠ C) (h2 : PySem.W.isClsIn K C = true) (h3 : PySem.W.typeIn K (.ref C) = some (.type "type")) (h4 : PySem.W.subIn K (.ref D) (.ref C) = some b) : PySem.W.kitOne K (.ref D) (.ref C) = some b := by
  have e1 : ¬ (Value.ref D == Value.ref C) = true := fun z => hn (Value.ref.inj (beq_iff_eq.mp z))
  have e2 : ((PySem.W.clsIn K C).isSome && PySem.W.typeIn K (.ref C) == some (.type "type")) = true := by
    have h2' : (PySem.W.clsIn K C).isSome = true := h2
    rw [h2', h3] <;> rfl
  unfold PySem.W.kitOne
  rw [if_neg e1]
  show (if ((PySem.W.clsIn K C).isSome && PySem.W.typeIn K (.ref C) == some (.type "type")) = true then PySem.W.subIn K (.ref D) (.ref C) else none) = some b
  rw [if_pos e2]
  exact h4
theorem kone_self {K : PySem.W.Frag} {D : Addr} : PySem.W.kitOne K (.ref D) (.ref D) = some true := by
  unfold PySem.W.kitOne
  rw [if_pos (beq_self_eq_true _)]
theorem kone_ty {K : PySem.W.Frag} {D : Addr} (h : PySem.W.subIn K (.ref D) (.type "ValueError") = some true) : PySem.W.kitOne K (.ref D) (.type "ValueError") = some true := by
  have e1 : ¬ (Value.ref D == Value.type "ValueError") = true := fun z => by cases beq_iff_eq.mp z
  unfold PySem.W.kitOne
  rw [if_neg e1]
  show (if PySem.W.kitMeta "ValueError" = true then PySem.W.subIn K (.ref D) (.type "ValueError") else none) = some true
  rw [if_pos (by decide +kernel)]
  exact h
theorem kany_f {K : PySem.W.Frag} {t c : Value} {cs : List Value} {r : Bool} (h : PySem.W.kitOne K t c = some false) (hr : PySem.W.kitAny K t cs = some r) : PySem.W.kitAny K t (c :: cs) = some r :=
  kitAny_cons h (fun _ => hr) fun z => nomatch z
theorem kany_t {K : PySem.W.Frag} {t c : Value} {cs : List Value} (h : PySem.W.kitOne K t c = some true) : PySem.W.kitAny K t (c :: cs) = some true :=
  kitAny_cons h (fun z => nomatch z) fun _ => rfl
theorem take_snoc {α : Type} {l : List α} {i : Nat} {x : α} (h : l[i]? = some x) : l.take (i + 1) = l.take i ++ [x] := by
  rw [List.take_add_one, h]
  rfl
theorem drop_at {α : Type} {l : List α} {i : Nat} {x : α} (h : l[i]? = some x) : l.drop i = x :: l.drop (i + 1) := by
  obtain ⟨hi, e⟩ := List.getElem?_eq_some_iff.mp h
  rw [List.drop_eq_getElem_cons hi, e]
theorem none_back {H H' : Hp} {p : Addr} (ex : Ex H H') (h : H' p = none) : H p = none := by
  cases z : H p with
  | none => rfl
  | some o => rw [ex _ _ z] at h; cases h
theorem Prs.take {H : Hp} : ∀ {xs : List V} {ps : List (Int × Int)} (n : Nat), Prs H xs ps → Prs H (xs.take n) (ps.take n)
  | _, _, 0, _ => .nil
  | _, _, _ + 1, .nil => .nil
  | _, _, n + 1, .cons h r => .cons h (Prs.take n r)
theorem Prs.drop {H : Hp} : ∀ {xs : List V} {ps : List (Int × Int)} (n : Nat), Prs H xs ps → Prs H (xs.drop n) (ps.drop n)
  | _, _, 0, h => h
  | _, _, _ + 1, .nil => .nil
  | _, _, n + 1, .cons h r => Prs.drop n r
theorem Prs.app {H : Hp} : ∀ {xs ys : List V} {ps qs : List (Int × Int)}, Prs H xs ps → Prs H ys qs → Prs H (xs ++ ys) (ps ++ qs)
  | _, _, _, _, .nil, h => h
  | _, _, _, _, .cons a r, h => .cons a (Prs.app r h)
theorem cut_take (xs : List V) (k : Nat) (h : k ≤ xs.length) : cutV xs none (some (k : Int)) = xs.take k := by
  unfold cutV
  rw [HT.sIx_none, HT.sIx_nat, List.drop_zero, Nat.sub_zero, Nat.min_eq_left h]
theorem cut_drop (xs : List V) (k : Nat) (h : k ≤ xs.length) : cutV xs (some (k : Int)) none = xs.drop k := by
  unfold cutV
  rw [HT.sIx_none, HT.sIx_nat, Nat.min_eq_left h, List.take_of_length_le (by rw [List.length_drop]; exact Nat.le_refl _)]
theorem seq_at {i : Int} {n : Nat} (h0 : 0 ≤ i) (h1 : i < n) : seqIndex? i n = some i.toNat := by
  have h2 : ¬ i < 0 := by omega
  simp [seqIndex?, h2, h0, h1]
theorem nodup_at {α : Type} {l : List α} {i j : Nat} {x : α} (h : l.Nodup) (hi : l[i]? = some x) (hj : l[j]? = some x) : i = j := by
  obtain ⟨h1, e1⟩ := List.getElem?_eq_some_iff.mp hi
  obtain ⟨h2, e2⟩ := List.getElem?_eq_some_iff.mp hj
  rcases Nat.lt_trichotomy i j with z | z | z
  · exact absurd (e1.trans e2.symm) (List.pairwise_iff_getElem.mp h i j h1 h2 z)
  · exact z
  · exact absurd (e2.trans e1.symm) (List.pairwise_iff_getElem.mp h j i h2 h1 z)
theorem Prs.keep {H H' : Hp} : ∀ {xs : List V} {ps : List (Int × Int)}, Prs H xs ps → (∀ t zs, H t = some (.tup zs) → H' t = some (.tup zs)) → Prs H' xs ps
  | _, _, .nil, _ => .nil
  | _, _, .cons ⟨t, h1, h2⟩ r, k => .cons ⟨t, h1, k _ _ h2⟩ (Prs.keep r k)
theorem take_succ_map {α β : Type} {l : List α} {i : Nat} {x : α} (f : α → β) (h : l[i]? = some x) : (l.take (i + 1)).map f = (l.take i).map f ++ [f x] := by
  rw [List.take_add_one, h, List.map_append]
  rfl
theorem rising_nd {ps : List (Int × Int)} (h : Rising ps) : (ps.map (·.1)).Nodup := by
  rw [List.Nodup, List.pairwise_map]
  exact h.imp fun z e => by omega
/-! ### what the law draws -/
def cell (ns : List Int) (k : Nat) : Int := ns.getD k 0
def mixed (c k : Int) : Int := (c + 7919 * k) * 48271 % 2147483647
theorem mixed_nn (c k : Int) : 0 ≤ mixed c k := Int.emod_nonneg _ (by decide)
theorem mixed_lt (c k : Int) : mixed c k < 2147483647 := Int.emod_lt_of_pos _ (by decide)
def spCellAt (K : PySem.W.Frag) : Sp := fun vs H Q _ => ∃ (a : Addr) (ns : List Int) (k : Nat), vs = [.ref a, .int k] ∧ SqL K H a (ns.map V.int) ∧ Q (.int (cell ns k)) H
theorem ok_cell_at (T : Tx K mg) : FnOk P w K mg base CX0 1 T.a__law_cell_at T.d__law_cell_at P__law_cell_at (spCellAt K) := by
  refine T.f__law_cell_at.ok sc__law_cell_at (fun vs H Q E h => ?_) (fun cdv A outer s H vs Q E hr h => ?_)
  · obtain ⟨a, ns, k, rfl, _⟩ := h
    rfl
  · obtain ⟨a, ns, k, rfl, hS, q⟩ := h
    refine ⟨_, (pss_cons (ps_if (pt_cmpR op_lt (pv 1) (pe_callB call_len_seq (by rfl) T.m_len (by decide +kernel) (pa_cons (pv 0) pa_nil)) (nomark _))
      (pss_one (ps_ret (pe_ix ix_list (pv 0) (pv 1) (fun _ _ => rfl))))
      pss_nil)
    (pss_one (ps_ret pe_int))), ?_⟩
    refine ⟨_, rfl, _, rfl, a, _, rfl, .inl hS, _, _, rfl, rfl, _, rfl, ite2 (fun e => ?_) (fun e => ?_)⟩
    · have e1 : (k : Int) < ((ns.map V.int).length : Int) := of_decide_eq_true e
      rw [List.length_map] at e1
      have e2 : k < ns.length := by omega
      refine ⟨_, rfl, _, rfl, a, _, _, .int (cell ns k), rfl, rfl, hS, atI_nat ?_, q⟩
      rw [List.getElem?_map, List.getElem?_eq_getElem e2]
      show some (V.int ns[k]) = _
      unfold cell
      rw [List.getD_eq_getElem?_getD, List.getElem?_eq_getElem e2]
      rfl
    · have e1 : ¬ (k : Int) < ((ns.map V.int).length : Int) := fun z => e (decide_eq_true z)
      rw [List.length_map] at e1
      have e2 : cell ns k = 0 := by
        unfold cell
        rw [List.getD_eq_getElem?_getD, List.getElem?_eq_none (by omega)]
        rfl
      rw [e2] at q
      exact q
def spMixed : Sp := fun vs H Q _ => ∃ c k, vs = [.int c, .int k] ∧ (-(2 ^ 64) < k ∧ k < 2 ^ 64) ∧ Q (.int (mixed c k)) H
theorem ok_mixed (T : Tx K mg) : FnOk P w K mg base CX0 1 T.a__law_mixed T.d__law_mixed P__law_mixed spMixed := by
  refine T.f__law_mixed.ok sc__law_mixed (fun vs H Q E h => ?_) (fun cdv A outer s H vs Q E hr h => ?_)
  · obtain ⟨c, k, rfl, _⟩ := h
    rfl
  · obtain ⟨c, k, rfl, hk, q⟩ := h
    refine ⟨_, (pss_one (ps_ret (pe_op op_mod (pe_op op_mul (pe_op op_add (pv 0) (pe_op op_mul pe_int (pv 1))) pe_int) pe_int))), ?_⟩
    repeat (first | refine ⟨_, rfl, ?_⟩ | refine ⟨(by show (0 : Int) < _; decide), ?_⟩ | refine ⟨⟨by decide, by decide⟩, ?_⟩ | refine ⟨.inr ⟨by decide, by decide⟩, ?_⟩ | refine ⟨.inl ⟨by decide, by decide⟩, ?_⟩ | refine ⟨⟨by decide, by decide, by decide⟩, ?_⟩ | refine ⟨_, _, rfl, rfl, ?_⟩ | refine ⟨rfl, _, rfl, ?_⟩)
    exact q
def menu : List Int := [1, 2, 5, 10, 20, 50, 100, 200, 500, 1000]
theorem menu_in : ∀ i : Nat, i < 10 → 1 ≤ menu.getD i 0 ∧ menu.getD i 0 ≤ 1000 := by decide
theorem menu_at {ms : List Int} {i : Int} {n : Nat} (hl : ms.length = n) (h0 : 0 ≤ i) (h1 : i < n) : atI (ms.map V.int) i = some (.int (ms.getD i.toNat 0)) := by
  have hn : ((i.toNat : Nat) : Int) = i := Int.toNat_of_nonneg h0
  have hlt : i.toNat < ms.length := by omega
  refine at_of hn.symm ?_
  rw [List.getElem?_map, List.getElem?_eq_getElem hlt, List.getD_eq_getElem?_getD, List.getElem?_eq_getElem hlt]
  rfl
/-! the kinds: a value that stands already is moved on -/
def nxt (v : Int) : Int := v % 1000 + 1
def itn (v : Int) (j : Nat) : Int := (v - 1 + j) % 1000 + 1
theorem itn_zero {v : Int} (h1 : 1 ≤ v) (h2 : v ≤ 1000) : itn v 0 = v := by unfold itn; omega
theorem itn_succ (v : Int) (j : Nat) : itn v (j + 1) = nxt (itn v j) := by unfold itn nxt; omega
theorem itn_in (v : Int) (j : Nat) : 1 ≤ itn v j ∧ itn v j ≤ 1000 := by unfold itn; omega
theorem itn_inj {v : Int} {i j : Nat} (hi : i < 1000) (hj : j < 1000) (h : itn v i = itn v j) : i = j := by unfold itn at h; omega
theorem escape : ∀ (n : Nat) (ks : List Int) (f : Nat → Int), ks.length = n → (∀ i j, i ≤ n → j ≤ n → f i = f j → i = j) → ∃ j, j ≤ n ∧ f j ∉ ks
  | 0, ks, f, hl, _ => ⟨0, Nat.le_refl _, by rw [List.length_eq_zero_iff.mp hl]; simp⟩
  | n + 1, ks, f, hl, hf => by
    by_cases h : f 0 ∈ ks
    · obtain ⟨j, hj, hn⟩ := escape n (ks.erase (f 0)) (fun i => f (i + 1)) (by rw [List.length_erase_of_mem h]; omega) fun i j hi hj e => by
        have := hf (i + 1) (j + 1) (by omega) (by omega) e
        omega
      refine ⟨j + 1, by omega, fun z => hn ?_⟩
      refine (List.mem_erase_of_ne fun e => ?_).mpr z
      have := hf (j + 1) 0 (by omega) (by omega) e
      omega
    · exact ⟨0, Nat.zero_le _, h⟩
theorem free_at {ks : List Int} (v : Int) (h : ks.length < 1000) : ∃ j, itn v j ∉ ks := by
  obtain ⟨j, _, hn⟩ := escape ks.length ks (itn v) rfl fun i j hi hj e => itn_inj (by omega) (by omega) e
  exact ⟨j, hn⟩
theorem least {p : Nat → Prop} (h : ∃ j, p j) : ∃ j, p j ∧ ∀ i, i < j → ¬ p i := by
  obtain ⟨j, hj⟩ := h
  induction j using Nat.strongRecOn with
  | _ j ih =>
    by_cases z : ∃ i, i < j ∧ p i
    · obtain ⟨i, hi, hp⟩ := z
      exact ih i hi hp
    · exact ⟨j, hj, fun i hi hp => z ⟨i, hi, hp⟩⟩
def dkv (ks : List Int) : List (Key × V) := ks.map fun k => (Sum.inl k, V.bl true)
theorem dkv_none {ks : List Int} {k : Int} (h : k ∉ ks) : valV (dkv ks) (Sum.inl k) = none := by
  cases e : valV (dkv ks) (Sum.inl k) with
  | none => rfl
  | some v =>
    have := valV_in e
    unfold dkv at this
    rw [List.map_map] at this
    obtain ⟨x, hx, ex⟩ := List.mem_map.mp this
    cases ex
    exact absurd hx h
theorem dkv_some {ks : List Int} {k : Int} (h : k ∈ ks) : ∃ v, valV (dkv ks) (Sum.inl k) = some v := by
  cases e : valV (dkv ks) (Sum.inl k) with
  | some v => exact ⟨v, rfl⟩
  | none =>
    refine absurd ?_ (valV_not e)
    unfold dkv
    rw [List.map_map]
    exact List.mem_map.mpr ⟨k, h, rfl⟩
theorem dkv_put {ks : List Int} {k : Int} (h : k ∉ ks) : putK (dkv ks) (Sum.inl k) (V.bl true) = dkv (ks ++ [k]) := by
  rw [putK_new _ (dkv_none h)]
  unfold dkv
  rw [List.map_append]
  rfl
/-! ### list.count of a truth value -/
theorem vals_bl : ∀ {bs : List Bool} {us : List Value}, Vals (bs.map V.bl) us → us = bs.map Value.bool
  | [], _, .nil => rfl
  | b :: bs, _, .cons h r => by
    have e := vals_bl r
    rw [List.map_cons, e, show _ = Value.bool b from h]
def isB (k : Bool) : Value → Bool := fun v => decide (v = .bool k)
theorem isB_count (k : Bool) : ∀ bs : List Bool, (bs.map Value.bool).countP (isB k) = bs.count k
  | [] => rfl
  | b :: bs => by
    have ih := isB_count k bs
    rw [List.map_cons, List.countP_cons, List.count_cons, ih]
    cases b <;> cases k <;> rfl
def rCntB (K : PySem.W.Frag) : V → List V → Hp → VK → Prop := fun x xs H Q => ∃ (p : Addr) (bs : List Bool) (k : Bool), x = .ref p ∧ xs = [.bl k] ∧ SqL K H p (bs.map V.bl) ∧ Q (.int (bs.count k : Nat)) H
theorem mt_bcount {X : Cx} : MtR X "list.count" (rCntB X.K) := by
  intro pins s σ H x xs v us Q I ra ras h
  obtain ⟨p, bs, k, rfl, rfl, hs, q⟩ := h
  cases ra
  obtain ⟨u, rfl, re⟩ := ras.one
  cases (show u = Value.bool k from re)
  obtain ⟨zs, rz, ⟨⟨c0, d0, da, s0⟩, n, ho, hc, hn, hd⟩, hz⟩ := I.list hs
  simp only at hc hd
  subst hc hd
  cases vals_bl rz
  refine call_meets PySem.F.slot_list_count ⟨_, ho, rfl⟩ PySem.F.entry_list_count (PySem.F.args_list_count_2 _ _)
    (SeqAt.list_countAt p (bs.map Value.bool).toArray n d0 s0 (.bool k) (isB k)) ⟨ho, fun y hy => ?_, ?_⟩
  · obtain ⟨b, _, rfl⟩ := List.mem_map.mp (by simpa using hy : y ∈ bs.map Value.bool)
    have e : isB k (.bool b) = (b == k) := by cases b <;> cases k <;> rfl
    rw [e]
    exact SeqAt.EqAt.bool_bool b k
  · refine ⟨.int (bs.count k : Nat), H, I.tok _, ⟨s.toks, ?_⟩, q⟩
    show Value.int (((bs.map Value.bool).countP (isB k) : Nat) : Int) s.toks = Value.int ((bs.count k : Nat) : Int) s.toks
    rw [isB_count]
/-- counted in an except's suite: told by the K outside -/
theorem pe_countS {X : Cx} {b : Addr} {pn : List (Addr × Obj)} {o e : Expr} {es : List Expr} {to : TE} {t : TA} {apos cpos : Pos} (ho : PE (X.suite b pn) o to) (ha : PA (X.suite b pn) (e :: es) t)
    (h1 : attributeBase o "count" (X.suite b pn).env (eval o (X.suite b pn).env) = eval o (X.suite b pn).env := by rfl)
    (h2 : ((backTo cpos (starEach (e :: es) (X.suite b pn).env)).all (fun x => !x.1) && (backToKw cpos (keywordEach [] (X.suite b pn).env)).all (fun x => x.1.isSome)
      && decide ((e :: es).length + ([] : List Keyword).length + (if ([] : List Keyword).isEmpty then 0 else 1) < 30)) = true := by rfl)
    (h3 : (apos.endLine == cpos.line) = true := by rfl) (h4 : starEach (e :: es) (X.suite b pn).env = (false, eval e (X.suite b pn).env) :: starEach es (X.suite b pn).env := by rfl)
    (h5 : (backTo cpos (starEach es (X.suite b pn).env)).any (·.1) = false := by rfl) :
    PE (X.suite b pn) (.Call (.Attribute o "count" apos) (e :: es) [] cpos) (tBM X.K "list" (rCntB X.K) to t) :=
  pe_bm PySem.F.plainAttrs_list PySem.F.slot_list_count PySem.F.type_list_count mt_bcount ho ha h1 h2 h3 h4 h5
/-- appended in an except's suite -/
theorem pe_appendS {X : Cx} {b : Addr} {pn : List (Addr × Obj)} {o e : Expr} {es : List Expr} {to : TE} {t : TA} {r : V → List V → Hp → VK → Prop} {apos cpos : Pos} (hm : MtR (X.suite b pn) "list.append" r) (ho : PE (X.suite b pn) o to) (ha : PA (X.suite b pn) (e :: es) t)
    (h1 : attributeBase o "append" (X.suite b pn).env (eval o (X.suite b pn).env) = eval o (X.suite b pn).env := by rfl)
    (h2 : ((backTo cpos (starEach (e :: es) (X.suite b pn).env)).all (fun x => !x.1) && (backToKw cpos (keywordEach [] (X.suite b pn).env)).all (fun x => x.1.isSome)
      && decide ((e :: es).length + ([] : List Keyword).length + (if ([] : List Keyword).isEmpty then 0 else 1) < 30)) = true := by rfl)
    (h3 : (apos.endLine == cpos.line) = true := by rfl) (h4 : starEach (e :: es) (X.suite b pn).env = (false, eval e (X.suite b pn).env) :: starEach es (X.suite b pn).env := by rfl)
    (h5 : (backTo cpos (starEach es (X.suite b pn).env)).any (·.1) = false := by rfl) :
    PE (X.suite b pn) (.Call (.Attribute o "append" apos) (e :: es) [] cpos) (tBM X.K "list" r to t) :=
  pe_bm PySem.F.plainAttrs_list PySem.F.slot_list_append PySem.F.type_list_append hm ho ha h1 h2 h3 h4 h5
/-! ### the table, by itself: rows of fewest pieces -/
abbrev Cell := Option Int
def rAt (r : List Cell) (i : Nat) : Cell := r.getD i none
theorem rAt_lt {r : List Cell} {i : Nat} (h : i < r.length) : r[i]? = some (rAt r i) := by
  unfold rAt
  rw [List.getD_eq_getElem?_getD, List.getElem?_eq_getElem h]
  rfl
theorem rAt_map {f : Nat → Cell} {n i : Nat} (h : i < n) : rAt ((List.range n).map f) i = f i := by
  unfold rAt
  rw [List.getD_eq_getElem?_getD, List.getElem?_map, List.getElem?_range h]
  rfl
theorem row_ext {r : List Cell} {n : Nat} {f : Nat → Cell} (hl : r.length = n) (h : ∀ i, i < n → rAt r i = f i) : r = (List.range n).map f := by
  apply List.ext_getElem?
  intro i
  by_cases hi : i < n
  · rw [rAt_lt (by omega), h i hi, List.getElem?_map, List.getElem?_range hi]
    rfl
  · rw [List.getElem?_eq_none (by omega), List.getElem?_eq_none (by rw [List.length_map, List.length_range]; omega)]
/-- a place, given what stands there and what stands ahead by some pieces -/
def bund (o few : Cell) (s : Int) : Cell :=
  match few with
  | none => o
  | some x => match o with
    | none => some (x + s)
    | some y => if x + s < y then some (x + s) else some y
theorem bund_some {o : Cell} {x s : Int} : ∃ m, bund o (some x) s = some m ∧ m ≤ x + s := by
  cases o with
  | none => exact ⟨_, rfl, by omega⟩
  | some y =>
    by_cases h : x + s < y
    · exact ⟨x + s, if_pos h, by omega⟩
    · exact ⟨y, if_neg h, by omega⟩
theorem bund_le {few : Cell} {y s : Int} : ∃ m, bund (some y) few s = some m ∧ m ≤ y := by
  cases few with
  | none => exact ⟨_, rfl, by omega⟩
  | some x =>
    by_cases h : x + s < y
    · exact ⟨x + s, if_pos h, by omega⟩
    · exact ⟨y, if_neg h, by omega⟩
theorem bund_or {o few : Cell} {s m : Int} (h : bund o few s = some m) : o = some m ∨ ∃ x, few = some x ∧ m = x + s := by
  cases few with
  | none => exact .inl h
  | some x =>
    cases o with
    | none => exact .inr ⟨x, rfl, (Option.some.inj h).symm⟩
    | some y =>
      by_cases z : x + s < y
      · have e : bund (some y) (some x) s = some (x + s) := if_pos z
        rw [e] at h
        exact .inr ⟨x, rfl, (Option.some.inj h).symm⟩
      · have e : bund (some y) (some x) s = some y := if_neg z
        rw [e] at h
        exact .inl h
/-- o is the least over up to n pieces of v on top of the row r, at the place d -/
def Lst (r : List Cell) (v n d : Nat) (o : Cell) : Prop :=
  (∀ (j : Nat) (x : Int), j ≤ n → j * v ≤ d → rAt r (d - j * v) = some x → ∃ m, o = some m ∧ m ≤ x + j) ∧
  (∀ m, o = some m → ∃ (j : Nat) (x : Int), j ≤ n ∧ j * v ≤ d ∧ rAt r (d - j * v) = some x ∧ m = x + j)
theorem Lst.uniq {r : List Cell} {v n d : Nat} {o p : Cell} (h : Lst r v n d o) (k : Lst r v n d p) : o = p := by
  obtain ⟨h1, h2⟩ := h
  obtain ⟨k1, k2⟩ := k
  cases o with
  | none =>
    cases p with
    | none => rfl
    | some m =>
      obtain ⟨j, x, a, b, c, _⟩ := k2 m rfl
      obtain ⟨_, z, _⟩ := h1 j x a b c
      cases z
  | some m =>
    obtain ⟨j, x, a, b, c, e⟩ := h2 m rfl
    obtain ⟨q, rfl, le1⟩ := k1 j x a b c
    obtain ⟨j', x', a', b', c', e'⟩ := k2 q rfl
    obtain ⟨m', em, le2⟩ := h1 j' x' a' b' c'
    cases em
    have : m = q := by omega
    rw [this]
theorem Lst.cut {r : List Cell} {v n m d : Nat} {o : Cell} (h : Lst r v n d o) (hm : ∀ j, j * v ≤ d → (j ≤ n ↔ j ≤ m)) : Lst r v m d o :=
  ⟨fun j x a b c => h.1 j x ((hm j b).mpr a) b c, fun q e => let ⟨j, x, a, b, c, z⟩ := h.2 q e; ⟨j, x, (hm j b).mp a, b, c, z⟩⟩
theorem Lst.zero {r : List Cell} {v d : Nat} : Lst r v 0 d (rAt r d) := by
  refine ⟨fun j x a b c => ?_, fun m e => ⟨0, m, Nat.le_refl _, by omega, by simpa using e, by simp⟩⟩
  have hj : j = 0 := by omega
  subst hj
  exact ⟨x, by simpa using c, by simp⟩
/-- s pieces more at once, where s is one more than before at most -/
theorem Lst.more {r : List Cell} {v n d s : Nat} {o p : Cell} (h : Lst r v n d o) (hp : s * v ≤ d → Lst r v n (d - s * v) p) (hs : s ≤ n + 1) :
    Lst r v (n + s) d (if s * v ≤ d then bund o p s else o) := by
  by_cases hd : s * v ≤ d
  · rw [if_pos hd]
    obtain ⟨h1, h2⟩ := h
    obtain ⟨p1, p2⟩ := hp hd
    refine ⟨fun j x a b c => ?_, fun m e => ?_⟩
    · by_cases hj : j ≤ n
      · obtain ⟨m, rfl, le⟩ := h1 j x hj b c
        obtain ⟨q, e, le'⟩ := bund_le (few := p) (y := m) (s := s)
        exact ⟨q, e, by omega⟩
      · have e1 : (j - s) * v = j * v - s * v := Nat.sub_mul ..
        have e2 : s * v ≤ j * v := Nat.mul_le_mul_right _ (by omega)
        obtain ⟨m, rfl, le⟩ := p1 (j - s) x (by omega) (by omega) (by rw [show d - s * v - (j - s) * v = d - j * v by omega]; exact c)
        obtain ⟨q, e, le'⟩ := bund_some (o := o) (x := m) (s := s)
        exact ⟨q, e, by omega⟩
    · rcases bund_or e with rfl | ⟨y, rfl, rfl⟩
      · obtain ⟨j, x, a, b, c, z⟩ := h2 m rfl
        exact ⟨j, x, by omega, b, c, z⟩
      · obtain ⟨j, x, a, b, c, z⟩ := p2 y rfl
        have e1 : (j + s) * v = j * v + s * v := Nat.add_mul ..
        exact ⟨j + s, x, by omega, by omega, by rw [show d - (j + s) * v = d - s * v - j * v by omega]; exact c, by omega⟩
  · rw [if_neg hd]
    refine h.cut fun j hj => ⟨fun _ => by omega, fun hle => ?_⟩
    by_cases hjn : j ≤ n
    · exact hjn
    · exfalso
      have : s * v ≤ j * v := Nat.mul_le_mul_right _ (by omega)
      omega
/-- a bundle of s pieces worth a -/
def withBundle (r : List Cell) (a s : Nat) : List Cell := (List.range r.length).map fun d => if a ≤ d then bund (rAt r d) (rAt r (d - a)) s else rAt r d
theorem withBundle_len (r : List Cell) (a s : Nat) : (withBundle r a s).length = r.length := by
  unfold withBundle
  rw [List.length_map, List.length_range]
/-- each size is one more than what is ahead at most -/
def Steps : Nat → List Nat → Prop
  | _, [] => True
  | n, s :: r => s ≤ n + 1 ∧ Steps (n + s) r
theorem steps_snoc : ∀ {l : List Nat} {n s : Nat}, Steps n l → s ≤ n + l.sum + 1 → Steps n (l ++ [s])
  | [], n, s, _, h => ⟨by simpa using h, trivial⟩
  | a :: l, n, s, ⟨h1, h2⟩, h => ⟨h1, steps_snoc h2 (by rw [List.sum_cons] at h; omega)⟩
theorem fold_lst {r : List Cell} {v : Nat} : ∀ {l : List Nat} {n : Nat} {o : List Cell}, Steps n l → o.length = r.length → (∀ d, d < r.length → Lst r v n d (rAt o d)) →
    (l.foldl (fun o s => withBundle o (s * v) s) o).length = r.length ∧ ∀ d, d < r.length → Lst r v (n + l.sum) d (rAt (l.foldl (fun o s => withBundle o (s * v) s) o) d)
  | [], n, o, _, hl, h => ⟨hl, by simpa using h⟩
  | s :: l, n, o, ⟨hs, hst⟩, hl, h => by
    have h' : ∀ d, d < r.length → Lst r v (n + s) d (rAt (withBundle o (s * v) s) d) := by
      intro d hd
      unfold withBundle
      rw [rAt_map (by omega)]
      exact (h d hd).more (fun hle => h _ (by omega)) hs
    have := fold_lst (l := l) hst (by rw [withBundle_len, hl]) h'
    rw [List.foldl_cons, List.sum_cons]
    rw [show n + (s + l.sum) = n + s + l.sum by omega]
    exact this
/-- the least, count by count, as it is walked -/
def leastUp (r : List Cell) (v d : Nat) : Nat → Cell
  | 0 => none
  | i + 1 => bund (leastUp r v d i) (rAt r (d - i * v)) i
theorem leastUp_lst {r : List Cell} {v d : Nat} : ∀ {i : Nat}, i * v ≤ d → Lst r v i d (leastUp r v d (i + 1))
  | 0, _ => by
    have e : leastUp r v d 1 = rAt r d := by
      show bund none (rAt r (d - 0 * v)) ((0 : Nat) : Int) = rAt r d
      rw [Nat.zero_mul, Nat.sub_zero]
      cases rAt r d with
      | none => rfl
      | some x => show some (x + 0) = some x; rw [Int.add_zero]
    rw [e]
    exact Lst.zero
  | i + 1, h => by
    have h0 : i * v ≤ d := Nat.le_trans (Nat.mul_le_mul_right _ (by omega)) h
    obtain ⟨h1, h2⟩ := leastUp_lst (r := r) h0
    show Lst r v (i + 1) d (bund (leastUp r v d (i + 1)) (rAt r (d - (i + 1) * v)) ((i + 1 : Nat) : Int))
    refine ⟨fun j x a b c => ?_, fun m e => ?_⟩
    · by_cases hj : j ≤ i
      · obtain ⟨m, e, le⟩ := h1 j x hj b c
        rw [e]
        obtain ⟨q, e', le'⟩ := bund_le (few := rAt r (d - (i + 1) * v)) (y := m) (s := ((i + 1 : Nat) : Int))
        exact ⟨q, e', by omega⟩
      · have hj' : j = i + 1 := by omega
        subst hj'
        rw [c]
        exact bund_some
    · rcases bund_or e with z | ⟨y, z, rfl⟩
      · obtain ⟨j, x, a, b, c, z⟩ := h2 m z
        exact ⟨j, x, by omega, b, c, z⟩
      · exact ⟨i + 1, y, Nat.le_refl _, h, z, rfl⟩
def leastF (r : List Cell) (v c d : Nat) : Cell := leastUp r v d (min c (d / v) + 1)
theorem leastF_lst {r : List Cell} {v c d : Nat} (hv : 0 < v) : Lst r v c d (leastF r v c d) := by
  have h1 : min c (d / v) * v ≤ d := Nat.le_trans (Nat.mul_le_mul_right _ (Nat.min_le_right ..)) (Nat.div_mul_le_self ..)
  refine (leastUp_lst h1).cut fun j hj => ?_
  have : j ≤ d / v := (Nat.le_div_iff_mul_le hv).mpr hj
  omega
/-- the next row -/
def nextRow (r : List Cell) (v c : Nat) : List Cell := (List.range r.length).map (leastF r v c)
theorem nextRow_len (r : List Cell) (v c : Nat) : (nextRow r v c).length = r.length := by
  unfold nextRow
  rw [List.length_map, List.length_range]
theorem fold_next {r : List Cell} {v c : Nat} {l : List Nat} (hv : 0 < v) (hst : Steps 0 l) (hsum : l.sum = min c ((r.length - 1) / v)) : l.foldl (fun o s => withBundle o (s * v) s) r = nextRow r v c := by
  obtain ⟨h1, h2⟩ := fold_lst (r := r) (v := v) hst rfl fun d _ => Lst.zero
  refine row_ext h1 fun d hd => ?_
  refine Lst.uniq ((h2 d hd).cut (m := c) fun j hj => ?_) (leastF_lst hv)
  have : j ≤ (r.length - 1) / v := (Nat.le_div_iff_mul_le hv).mpr (by omega)
  omega
/-- the rows of a till -/
def rowsOf (r : List Cell) : List (Int × Int) → List (List Cell)
  | [] => [r]
  | p :: ps => r :: rowsOf (nextRow r p.1.toNat p.2.toNat) ps
def row0 (n : Nat) : List Cell := some 0 :: List.replicate n none
theorem row0_len (n : Nat) : (row0 n).length = n + 1 := by simp [row0]
def lastRow (r : List Cell) : List (Int × Int) → List Cell
  | [] => r
  | p :: ps => lastRow (nextRow r p.1.toNat p.2.toNat) ps
theorem lastRow_snoc (r : List Cell) (p : Int × Int) : ∀ ps : List (Int × Int), lastRow r (ps ++ [p]) = nextRow (lastRow r ps) p.1.toNat p.2.toNat := by
  intro ps
  induction ps generalizing r with
  | nil => rfl
  | cons q ps ih => exact ih _
theorem rowsOf_snoc (r : List Cell) (p : Int × Int) : ∀ ps : List (Int × Int), rowsOf r (ps ++ [p]) = rowsOf r ps ++ [lastRow r (ps ++ [p])] := by
  intro ps
  induction ps generalizing r with
  | nil => rfl
  | cons q ps ih => show r :: rowsOf _ (ps ++ [p]) = r :: rowsOf _ ps ++ [lastRow _ (ps ++ [p])]; rw [ih]; rfl
theorem rowsOf_len (r : List Cell) (ps : List (Int × Int)) : (rowsOf r ps).length = ps.length + 1 := by
  induction ps generalizing r with
  | nil => rfl
  | cons q ps ih => show (rowsOf _ ps).length + 1 = _; rw [ih]; rfl
theorem rowsOf_at (r : List Cell) (ps : List (Int × Int)) : ∀ k, k ≤ ps.length → (rowsOf r ps)[k]? = some (lastRow r (ps.take k)) := by
  induction ps generalizing r with
  | nil => intro k hk; have : k = 0 := by simpa using hk
           subst this; rfl
  | cons q ps ih =>
    intro k hk
    cases k with
    | zero => rfl
    | succ k =>
      show (rowsOf _ ps)[k]? = some (lastRow _ (ps.take k))
      exact ih _ k (by simpa using hk)
theorem lastRow_len (r : List Cell) (ps : List (Int × Int)) : (lastRow r ps).length = r.length := by
  induction ps generalizing r with
  | nil => rfl
  | cons q ps ih => show (lastRow _ ps).length = _; rw [ih, nextRow_len]
/-! ### the way that is told -/
/-- the greatest number of pieces, up to g, that the row ahead goes with -/
def pickUp (r : List Cell) (v d : Nat) (m : Int) : Nat → Nat
  | 0 => 0
  | g + 1 => if rAt r (d - (g + 1) * v) = some (m - ((g + 1 : Nat) : Int)) then g + 1 else pickUp r v d m g
def pick (r : List Cell) (v c d : Nat) (m : Int) : Nat := pickUp r v d m (min c (d / v))
theorem pickUp_le (r : List Cell) (v d : Nat) (m : Int) : ∀ g, pickUp r v d m g ≤ g
  | 0 => Nat.le_refl _
  | g + 1 => by
    unfold pickUp
    split
    · exact Nat.le_refl _
    · exact Nat.le_succ_of_le (pickUp_le r v d m g)
theorem pickUp_ok {r : List Cell} {v d : Nat} {m : Int} : ∀ {g : Nat}, (∃ j, j ≤ g ∧ rAt r (d - j * v) = some (m - (j : Int))) → rAt r (d - pickUp r v d m g * v) = some (m - (pickUp r v d m g : Int)) ∧ ∀ j, pickUp r v d m g < j → j ≤ g → rAt r (d - j * v) ≠ some (m - (j : Int))
  | 0, ⟨j, hj, h⟩ => by
    obtain rfl : j = 0 := by omega
    exact ⟨h, fun j h1 h2 => by omega⟩
  | g + 1, ⟨j, hj, h⟩ => by
    unfold pickUp
    by_cases e : rAt r (d - (g + 1) * v) = some (m - ((g + 1 : Nat) : Int))
    · rw [if_pos e]
      exact ⟨e, fun j h1 h2 => by omega⟩
    · rw [if_neg e]
      have hj2 : j ≠ g + 1 := fun z => e (by rw [← z]; exact h)
      obtain ⟨h1, h2⟩ := pickUp_ok (g := g) ⟨j, by omega, h⟩
      refine ⟨h1, fun i hi hi2 => ?_⟩
      by_cases z : i = g + 1
      · rw [z]
        exact e
      · exact h2 i hi (by omega)
/-- what the table tells of the last place goes back by some pieces of the last kind -/
theorem back_one {r : List Cell} {v c d : Nat} {m : Int} (hv : 0 < v) (h : leastF r v c d = some m) : ∃ j, j ≤ min c (d / v) ∧ rAt r (d - j * v) = some (m - (j : Int)) := by
  obtain ⟨j, x, a, b, e, rfl⟩ := (leastF_lst hv).2 m h
  refine ⟨j, Nat.le_min.mpr ⟨a, (Nat.le_div_iff_mul_le hv).mpr b⟩, ?_⟩
  rw [e]
  congr 1
  omega
def cellI (o : Cell) : Int := o.getD 0
/-- the way, by the table, of the first k kinds for d -/
def given (r0 : List Cell) (ps : List (Int × Int)) : Nat → Nat → List (Int × Int)
  | 0, _ => []
  | k + 1, d =>
    let p := ps.getD k (0, 0)
    let g := pick (lastRow r0 (ps.take k)) p.1.toNat p.2.toNat d (cellI (rAt (lastRow r0 (ps.take (k + 1))) d))
    given r0 ps k (d - g * p.1.toNat) ++ (if 0 < g then [(p.1, (g : Int))] else [])
theorem given_succ (r0 : List Cell) (ps : List (Int × Int)) (k d : Nat) {p : Int × Int} (hp : ps[k]? = some p) {g : Nat} (hg : g = pick (lastRow r0 (ps.take k)) p.1.toNat p.2.toNat d (cellI (rAt (lastRow r0 (ps.take (k + 1))) d))) :
    given r0 ps (k + 1) d = given r0 ps k (d - g * p.1.toNat) ++ (if 0 < g then [(p.1, (g : Int))] else []) := by
  subst hg
  show given r0 ps k _ ++ _ = _
  rw [show ps.getD k (0, 0) = p by rw [List.getD_eq_getElem?_getD, hp]; rfl]
/-- a place that the table tells, goes on to one that it tells -/
theorem step_ok {r0 : List Cell} {ps : List (Int × Int)} {k d : Nat} {m : Int} {p : Int × Int} (hp : ps[k]? = some p) (hv : 1 ≤ p.1) (hd : d < r0.length) (h : rAt (lastRow r0 (ps.take (k + 1))) d = some m) {g : Nat}
    (hg : g = pick (lastRow r0 (ps.take k)) p.1.toNat p.2.toNat d m) :
    g ≤ p.2.toNat ∧ g * p.1.toNat ≤ d ∧ rAt (lastRow r0 (ps.take k)) (d - g * p.1.toNat) = some (m - (g : Int)) := by
  have hl : (lastRow r0 (ps.take k)).length = r0.length := lastRow_len ..
  have e : leastF (lastRow r0 (ps.take k)) p.1.toNat p.2.toNat d = some m := by
    rw [← h, List.take_add_one, hp]
    show _ = rAt (lastRow r0 (ps.take k ++ [p])) d
    rw [lastRow_snoc]
    exact (rAt_map (by rw [hl]; exact hd)).symm
  have hb := back_one (by omega) e
  have hle := pickUp_le (lastRow r0 (ps.take k)) p.1.toNat d m (min p.2.toNat (d / p.1.toNat))
  have hok := (pickUp_ok hb).1
  have hgg : g = pickUp (lastRow r0 (ps.take k)) p.1.toNat d m (min p.2.toNat (d / p.1.toNat)) := hg
  rw [← hgg] at hle hok
  refine ⟨by omega, ?_, hok⟩
  exact Nat.le_trans (Nat.mul_le_mul_right _ (by omega : g ≤ d / p.1.toNat)) (Nat.div_mul_le_self ..)
def worthP (l : List (Int × Int)) : Int := (l.map fun p => p.1 * p.2).sum
def manyP (l : List (Int × Int)) : Int := (l.map (·.2)).sum
theorem worthP_app (l k : List (Int × Int)) : worthP (l ++ k) = worthP l + worthP k := by
  unfold worthP
  rw [List.map_append, List.sum_append]
theorem manyP_app (l k : List (Int × Int)) : manyP (l ++ k) = manyP l + manyP k := by
  unfold manyP
  rw [List.map_append, List.sum_append]
theorem row0_some {n d : Nat} {m : Int} (h : rAt (row0 n) d = some m) : d = 0 ∧ m = 0 := by
  cases d with
  | zero =>
    have : some (0 : Int) = some m := h
    exact ⟨rfl, (Option.some.inj this).symm⟩
  | succ d =>
    have : (List.replicate n (none : Cell)).getD d none = some m := h
    rw [List.getD_eq_getElem?_getD, List.getElem?_replicate] at this
    split at this <;> cases this
/-- what the way is -/
theorem given_ok {n : Nat} {ps : List (Int × Int)} (hv : ∀ p ∈ ps, 1 ≤ p.1) : ∀ {k d : Nat} {m : Int}, k ≤ ps.length → d < n + 1 → rAt (lastRow (row0 n) (ps.take k)) d = some m →
    worthP (given (row0 n) ps k d) = (d : Int) ∧ manyP (given (row0 n) ps k d) = m ∧ (∀ q ∈ given (row0 n) ps k d, 1 ≤ q.2 ∧ ∃ c, (q.1, c) ∈ ps.take k ∧ q.2 ≤ c) ∧
    (ps.Pairwise (fun p q => p.1 < q.1) → (given (row0 n) ps k d).Pairwise fun p q => p.1 < q.1) ∧ (given (row0 n) ps k d).length ≤ k
  | 0, d, m, _, _, h => by
    obtain ⟨rfl, rfl⟩ := row0_some h
    exact ⟨rfl, rfl, by simp [given], fun _ => .nil, Nat.le_refl _⟩
  | k + 1, d, m, hk, hd, h => by
    have hp := List.getElem?_eq_getElem (show k < ps.length by omega)
    have hpm := List.getElem_mem (show k < ps.length by omega)
    generalize ps[k] = p at hp hpm
    have hv1 := hv p hpm
    obtain ⟨g1, g2, g3⟩ := step_ok hp hv1 (by rw [row0_len]; exact hd) h rfl
    rw [given_succ (row0 n) ps k d hp (g := pick (lastRow (row0 n) (ps.take k)) p.1.toNat p.2.toNat d m) (by rw [h]; rfl)]
    generalize pick (lastRow (row0 n) (ps.take k)) p.1.toNat p.2.toNat d m = g at g1 g2 g3
    obtain ⟨i1, i2, i3, i4, i5⟩ := given_ok hv (k := k) (by omega) (by omega) g3
    have tk : ps.take (k + 1) = ps.take k ++ [p] := by
      rw [List.take_add_one, hp]
      rfl
    by_cases hg : 0 < g
    · rw [if_pos hg]
      refine ⟨?_, ?_, ?_, ?_, ?_⟩
      · rw [worthP_app, i1]
        show ((d - g * p.1.toNat : Nat) : Int) + (p.1 * (g : Int) + 0) = d
        have e : ((g * p.1.toNat : Nat) : Int) = (g : Int) * p.1 := by
          rw [Int.natCast_mul, Int.toNat_of_nonneg (by omega)]
        rw [Int.mul_comm p.1]
        omega
      · rw [manyP_app, i2]
        show m - (g : Int) + ((g : Int) + 0) = m
        omega
      · intro q hq
        rcases List.mem_append.mp hq with z | z
        · obtain ⟨a, c, b, b'⟩ := i3 q z
          exact ⟨a, c, by rw [tk]; exact List.mem_append.mpr (.inl b), b'⟩
        · rw [List.mem_singleton.mp z]
          exact ⟨by show (1 : Int) ≤ g; omega, p.2, by rw [tk]; exact List.mem_append.mpr (.inr (List.mem_singleton.mpr rfl)), by show (g : Int) ≤ p.2; omega⟩
      · intro hr
        rw [List.pairwise_append]
        refine ⟨i4 hr, List.pairwise_singleton .., fun a ha b hb => ?_⟩
        rw [List.mem_singleton.mp hb]
        obtain ⟨_, c, hc, _⟩ := i3 a ha
        have hpw : (ps.take k ++ [p]).Pairwise fun p q => p.1 < q.1 := by
          rw [← tk]
          exact hr.sublist (List.take_sublist ..)
        exact (List.pairwise_append.mp hpw).2.2 _ hc p (List.mem_singleton.mpr rfl)
      · rw [List.length_append]
        show _ + 1 ≤ k + 1
        omega
    · rw [if_neg hg, List.append_nil]
      have g0 : g = 0 := by omega
      subst g0
      refine ⟨by rw [i1]; omega, by rw [i2]; simp, fun q hq => ?_, i4, by omega⟩
      obtain ⟨a, c, b, b'⟩ := i3 q hq
      exact ⟨a, c, by rw [tk]; exact List.mem_append.mpr (.inl b), b'⟩
/-! ### every way -/
def waysK (ps : List (Int × Int)) : Nat → List (List Nat)
  | 0 => [[]]
  | k + 1 => (waysK ps k).flatMap fun w => (List.range ((ps.getD k (0, 0)).2.toNat + 1)).map fun j => w ++ [j]
def worthV (ps : List (Int × Int)) (w : List Nat) : Int := ((ps.zip w).map fun x => x.1.1 * (x.2 : Int)).sum
theorem worthV_snoc {ps : List (Int × Int)} {w : List Nat} {p : Int × Int} {j : Nat} (h : ps.length = w.length) : worthV (ps ++ [p]) (w ++ [j]) = worthV ps w + p.1 * (j : Int) := by
  unfold worthV
  rw [List.zip_append h, List.map_append, List.sum_append]
  simp
theorem ways_in {ps : List (Int × Int)} {k : Nat} {p : Int × Int} {w : List Nat} (hp : ps[k]? = some p) : w ∈ waysK ps (k + 1) ↔ ∃ v j, w = v ++ [j] ∧ v ∈ waysK ps k ∧ j ≤ p.2.toNat := by
  show w ∈ List.flatMap _ _ ↔ _
  rw [List.mem_flatMap, show ps.getD k (0, 0) = p by rw [List.getD_eq_getElem?_getD, hp]; rfl]
  constructor
  · rintro ⟨v, hv, hw⟩
    obtain ⟨j, hj, rfl⟩ := List.mem_map.mp hw
    exact ⟨v, j, rfl, hv, by have := List.mem_range.mp hj; omega⟩
  · rintro ⟨v, j, rfl, hv, hj⟩
    exact ⟨v, hv, List.mem_map.mpr ⟨j, List.mem_range.mpr (by omega), rfl⟩⟩
theorem ways_len {ps : List (Int × Int)} : ∀ {k : Nat} {w : List Nat}, k ≤ ps.length → w ∈ waysK ps k → w.length = k
  | 0, w, _, h => by
    rw [List.mem_singleton.mp h]
    rfl
  | k + 1, w, hk, h => by
    obtain ⟨v, j, rfl, hv, _⟩ := (ways_in (List.getElem?_eq_getElem (show k < ps.length by omega))).mp h
    rw [List.length_append, ways_len (by omega) hv]
    rfl
/-- the first place from the right at which they differ, decides -/
def lexR : List Nat → List Nat → Bool
  | a :: x, b :: y => if a = b then lexR x y else decide (b < a)
  | _, _ => false
theorem lexR_self : ∀ l : List Nat, lexR l l = false
  | [] => rfl
  | a :: l => by
    unfold lexR
    rw [if_pos rfl]
    exact lexR_self l
def betterF (x y : List Nat) : Bool := if x.sum = y.sum then lexR x.reverse y.reverse else decide (x.sum < y.sum)
/-- the way, by the table, as numbers -/
def gvec (r0 : List Cell) (ps : List (Int × Int)) : Nat → Nat → List Nat
  | 0, _ => []
  | k + 1, d =>
    let p := ps.getD k (0, 0)
    let g := pick (lastRow r0 (ps.take k)) p.1.toNat p.2.toNat d (cellI (rAt (lastRow r0 (ps.take (k + 1))) d))
    gvec r0 ps k (d - g * p.1.toNat) ++ [g]
theorem gvec_succ (r0 : List Cell) (ps : List (Int × Int)) (k d : Nat) {p : Int × Int} (hp : ps[k]? = some p) {g : Nat} (hg : g = pick (lastRow r0 (ps.take k)) p.1.toNat p.2.toNat d (cellI (rAt (lastRow r0 (ps.take (k + 1))) d))) :
    gvec r0 ps (k + 1) d = gvec r0 ps k (d - g * p.1.toNat) ++ [g] := by
  subst hg
  show gvec r0 ps k _ ++ _ = _
  rw [show ps.getD k (0, 0) = p by rw [List.getD_eq_getElem?_getD, hp]; rfl]
def pairUp (ps : List (Int × Int)) (w : List Nat) : List (Int × Int) := ((ps.zip w).filter fun x => decide (0 < x.2)).map fun x => (x.1.1, (x.2 : Int))
theorem pairUp_snoc {ps : List (Int × Int)} {w : List Nat} {p : Int × Int} {j : Nat} (h : ps.length = w.length) : pairUp (ps ++ [p]) (w ++ [j]) = pairUp ps w ++ (if 0 < j then [(p.1, (j : Int))] else []) := by
  unfold pairUp
  rw [List.zip_append h, List.filter_append, List.map_append]
  congr 1
  show List.map _ (List.filter _ [(p, j)]) = _
  by_cases hj : 0 < j
  · rw [if_pos hj, List.filter_cons_of_pos (by simpa using hj)]
    rfl
  · rw [if_neg hj, List.filter_cons_of_neg (by simpa using hj)]
    rfl
theorem gvec_len (r0 : List Cell) (ps : List (Int × Int)) : ∀ (k d : Nat), (gvec r0 ps k d).length = k
  | 0, _ => rfl
  | k + 1, d => by
    show (gvec r0 ps k _ ++ [_]).length = _
    rw [List.length_append, gvec_len r0 ps k]
    rfl
theorem gvec_given (r0 : List Cell) (ps : List (Int × Int)) : ∀ (k d : Nat), k ≤ ps.length → pairUp (ps.take k) (gvec r0 ps k d) = given r0 ps k d
  | 0, _, _ => rfl
  | k + 1, d, h => by
    have hp := List.getElem?_eq_getElem (show k < ps.length by omega)
    rw [gvec_succ r0 ps k d hp rfl, given_succ r0 ps k d hp rfl, List.take_add_one, hp]
    show pairUp (ps.take k ++ [_]) _ = _
    rw [pairUp_snoc (by rw [gvec_len, List.length_take]; omega), gvec_given r0 ps k _ (by omega)]
/-- a way is told by the table, and takes no fewer than it tells -/
theorem way_some {n : Nat} {ps : List (Int × Int)} (hv : ∀ p ∈ ps, 1 ≤ p.1) : ∀ {k d : Nat} {w : List Nat}, k ≤ ps.length → d < n + 1 → w ∈ waysK ps k → worthV (ps.take k) w = (d : Int) → ∃ m, rAt (lastRow (row0 n) (ps.take k)) d = some m ∧ m ≤ (w.sum : Int)
  | 0, d, w, _, _, hw, hd => by
    rw [List.mem_singleton.mp hw] at hd ⊢
    have : d = 0 := by
      have : (0 : Int) = d := hd
      omega
    subst this
    exact ⟨0, rfl, by simp⟩
  | k + 1, d, w, hk, hdn, hw, hd => by
    have hp := List.getElem?_eq_getElem (show k < ps.length by omega)
    have hpm := List.getElem_mem (show k < ps.length by omega)
    generalize ps[k] = p at hp hpm
    have hv1 := hv p hpm
    obtain ⟨v, j, rfl, hvw, hj⟩ := (ways_in hp).mp hw
    have tk : ps.take (k + 1) = ps.take k ++ [p] := by
      rw [List.take_add_one, hp]
      rfl
    have hvl := ways_len (by omega) hvw
    rw [tk, worthV_snoc (by rw [hvl, List.length_take]; omega)] at hd
    have hpj : p.1 * (j : Int) = ((j * p.1.toNat : Nat) : Int) := by
      rw [Int.natCast_mul, Int.toNat_of_nonneg (by omega), Int.mul_comm]
    have hwn : 0 ≤ worthV (ps.take k) v := by
      unfold worthV
      have : ∀ l : List ((Int × Int) × Nat), (∀ x ∈ l, 1 ≤ x.1.1) → 0 ≤ (l.map fun x => x.1.1 * (x.2 : Int)).sum := by
        intro l
        induction l with
        | nil => intro _; exact Int.le_refl _
        | cons x l ih =>
          intro hx
          rw [List.map_cons, List.sum_cons]
          have h1 := ih fun y hy => hx y (List.mem_cons_of_mem _ hy)
          have h2 : 0 ≤ x.1.1 * (x.2 : Int) := Int.mul_nonneg (by have := hx x List.mem_cons_self; omega) (by omega)
          omega
      refine this _ fun x hx => hv _ (List.mem_of_mem_take (List.of_mem_zip hx).1)
    rw [hpj] at hd
    obtain ⟨m, hm, hle⟩ := way_some (n := n) hv (k := k) (d := d - j * p.1.toNat) (by omega) (by omega) hvw (by omega)
    have hl : (lastRow (row0 n) (ps.take k)).length = n + 1 := by rw [lastRow_len, row0_len]
    have hlst := leastF_lst (r := lastRow (row0 n) (ps.take k)) (v := p.1.toNat) (c := p.2.toNat) (d := d) (by omega)
    obtain ⟨q, hq, hqle⟩ := hlst.1 j m hj (by omega) hm
    refine ⟨q, ?_, ?_⟩
    · rw [tk, lastRow_snoc]
      exact (rAt_map (by rw [hl]; exact hdn)).trans hq
    · rw [List.sum_append]
      simp
      omega
/-- the way told is one of all, and beats each other one of the same worth -/
theorem gvec_best {n : Nat} {ps : List (Int × Int)} (hv : ∀ p ∈ ps, 1 ≤ p.1) : ∀ {k d : Nat} {m : Int}, k ≤ ps.length → d < n + 1 → rAt (lastRow (row0 n) (ps.take k)) d = some m →
    gvec (row0 n) ps k d ∈ waysK ps k ∧ worthV (ps.take k) (gvec (row0 n) ps k d) = (d : Int) ∧ ((gvec (row0 n) ps k d).sum : Int) = m ∧
    ∀ w ∈ waysK ps k, worthV (ps.take k) w = (d : Int) → w ≠ gvec (row0 n) ps k d → ((w.sum : Int) = m → lexR (gvec (row0 n) ps k d).reverse w.reverse = true ∧ lexR w.reverse (gvec (row0 n) ps k d).reverse = false)
  | 0, d, m, _, _, h => by
    obtain ⟨rfl, rfl⟩ := row0_some h
    refine ⟨List.mem_singleton.mpr rfl, rfl, rfl, fun w hw _ hne => absurd (List.mem_singleton.mp hw) hne⟩
  | k + 1, d, m, hk, hdn, h => by
    have hp := List.getElem?_eq_getElem (show k < ps.length by omega)
    have hpm := List.getElem_mem (show k < ps.length by omega)
    generalize ps[k] = p at hp hpm
    have hv1 := hv p hpm
    have tk : ps.take (k + 1) = ps.take k ++ [p] := by
      rw [List.take_add_one, hp]
      rfl
    have hl : (lastRow (row0 n) (ps.take k)).length = n + 1 := by rw [lastRow_len, row0_len]
    have heq : leastF (lastRow (row0 n) (ps.take k)) p.1.toNat p.2.toNat d = some m := by
      rw [← h, tk, lastRow_snoc]
      exact (rAt_map (by rw [hl]; exact hdn)).symm
    have hlst := leastF_lst (r := lastRow (row0 n) (ps.take k)) (v := p.1.toNat) (c := p.2.toNat) (d := d) (by omega)
    rw [heq] at hlst
    have hb := back_one (by omega) heq
    obtain ⟨g1, g2, g3⟩ := step_ok hp hv1 (by rw [row0_len]; exact hdn) h rfl
    have gtop := (pickUp_ok hb).2
    have gs := gvec_succ (row0 n) ps k d hp (g := pick (lastRow (row0 n) (ps.take k)) p.1.toNat p.2.toNat d m) (by rw [h]; rfl)
    rw [gs]
    have hgg : pick (lastRow (row0 n) (ps.take k)) p.1.toNat p.2.toNat d m = pickUp (lastRow (row0 n) (ps.take k)) p.1.toNat d m (min p.2.toNat (d / p.1.toNat)) := rfl
    rw [← hgg] at gtop
    generalize pick (lastRow (row0 n) (ps.take k)) p.1.toNat p.2.toNat d m = g at g1 g2 g3 gtop
    obtain ⟨i1, i2, i3, i4⟩ := gvec_best hv (k := k) (by omega) (by omega) g3
    have pj : ∀ j : Nat, p.1 * (j : Int) = ((j * p.1.toNat : Nat) : Int) := fun j => by
      rw [Int.natCast_mul, Int.toNat_of_nonneg (by omega), Int.mul_comm]
    have hgl := gvec_len (row0 n) ps k (d - g * p.1.toNat)
    refine ⟨(ways_in hp).mpr ⟨_, g, rfl, i1, g1⟩, ?_, ?_, ?_⟩
    · rw [tk, worthV_snoc (by rw [hgl, List.length_take]; omega), i2, pj]
      omega
    · rw [List.sum_append]
      simp
      omega
    · intro w hw hwd hne hsum
      obtain ⟨v, j, rfl, hvw, hj⟩ := (ways_in hp).mp hw
      have hvl := ways_len (by omega) hvw
      rw [tk, worthV_snoc (by rw [hvl, List.length_take]; omega), pj] at hwd
      rw [List.sum_append] at hsum
      have hsum' : (v.sum : Int) + (j : Int) = m := by
        simpa using hsum
      have hwn : 0 ≤ worthV (ps.take k) v := by
        unfold worthV
        have : ∀ l : List ((Int × Int) × Nat), (∀ x ∈ l, 1 ≤ x.1.1) → 0 ≤ (l.map fun x => x.1.1 * (x.2 : Int)).sum := by
          intro l
          induction l with
          | nil => intro _; exact Int.le_refl _
          | cons x l ih =>
            intro hx
            rw [List.map_cons, List.sum_cons]
            have h1 := ih fun y hy => hx y (List.mem_cons_of_mem _ hy)
            have h2 : 0 ≤ x.1.1 * (x.2 : Int) := Int.mul_nonneg (by have := hx x List.mem_cons_self; omega) (by omega)
            omega
        refine this _ fun x hx => hv _ (List.mem_of_mem_take (List.of_mem_zip hx).1)
      have hjd : j * p.1.toNat ≤ d := by omega
      obtain ⟨m', hm', hle'⟩ := way_some (n := n) hv (k := k) (d := d - j * p.1.toNat) (by omega) (by omega) hvw (by omega)
      obtain ⟨q, hq, hqle⟩ := hlst.1 j m' hj hjd hm'
      cases hq
      have hmm : m' = m - (j : Int) := by omega
      rw [hmm] at hm'
      have hjg : j ≤ g := by
        by_cases hlt : g < j
        · refine absurd hm' (gtop j hlt (Nat.le_min.mpr ⟨hj, ?_⟩))
          exact (Nat.le_div_iff_mul_le (by omega)).mpr hjd
        · omega
      rw [List.reverse_append, List.reverse_append]
      show lexR (g :: (gvec (row0 n) ps k (d - g * p.1.toNat)).reverse) (j :: v.reverse) = true ∧ lexR (j :: v.reverse) (g :: (gvec (row0 n) ps k (d - g * p.1.toNat)).reverse) = false
      unfold lexR
      by_cases e : g = j
      · subst e
        rw [if_pos rfl, if_pos rfl]
        refine i4 v hvw (by omega) (fun e => hne (by rw [e])) (by omega)
      · rw [if_neg e, if_neg (Ne.symm e)]
        exact ⟨decide_eq_true (by omega), decide_eq_false (by omega)⟩
/-! ### the scales, by themselves -/
/-- what stands at a place, none beside the row -/
def cellAt (r : List Cell) (z : Int) : Cell := if 0 ≤ z ∧ z < r.length then rAt r z.toNat else none
/-- res is the least over from less c to o pieces of v on top of the row r, at the place d -/
def Lit (r : List Cell) (v c o : Nat) (d : Int) (res : Cell) : Prop :=
  (∀ (j x : Int), -(c : Int) ≤ j → j ≤ o → cellAt r (d - j * v) = some x → ∃ m, res = some m ∧ m ≤ x + j.natAbs) ∧
  (∀ m, res = some m → ∃ (j x : Int), -(c : Int) ≤ j ∧ j ≤ o ∧ cellAt r (d - j * v) = some x ∧ m = x + j.natAbs)
theorem Lit.uniq {r : List Cell} {v c o : Nat} {d : Int} {p q : Cell} (h : Lit r v c o d p) (k : Lit r v c o d q) : p = q := by
  obtain ⟨h1, h2⟩ := h
  obtain ⟨k1, k2⟩ := k
  cases p with
  | none =>
    cases q with
    | none => rfl
    | some m =>
      obtain ⟨j, x, a, b, e, _⟩ := k2 m rfl
      obtain ⟨_, z, _⟩ := h1 j x a b e
      cases z
  | some m =>
    obtain ⟨j, x, a, b, e, em⟩ := h2 m rfl
    obtain ⟨n, rfl, le1⟩ := k1 j x a b e
    obtain ⟨j', x', a', b', e', em'⟩ := k2 n rfl
    obtain ⟨m', y, le2⟩ := h1 j' x' a' b' e'
    cases y
    have : m = n := by omega
    rw [this]
/-- number by number, as it is walked: the i-th is i less c -/
def litUp (r : List Cell) (v c : Nat) (d : Int) : Nat → Cell
  | 0 => none
  | i + 1 => bund (litUp r v c d i) (cellAt r (d - (-(c : Int) + i) * v)) ((-(c : Int) + i).natAbs : Int)
theorem litUp_le {r : List Cell} {v c : Nat} {d : Int} : ∀ {n i : Nat} {x : Int}, i < n → cellAt r (d - (-(c : Int) + i) * v) = some x → ∃ m, litUp r v c d n = some m ∧ m ≤ x + ((-(c : Int) + i).natAbs : Int)
  | n + 1, i, x, hi, hx => by
    by_cases e : i = n
    · subst e
      show ∃ m, bund _ _ _ = some m ∧ _
      rw [hx]
      exact bund_some
    · obtain ⟨m, hm, hle⟩ := litUp_le (n := n) (by omega) hx
      obtain ⟨q, hq, hqle⟩ := bund_le (few := cellAt r (d - (-(c : Int) + n) * v)) (y := m) (s := ((-(c : Int) + n).natAbs : Int))
      exact ⟨q, by show bund _ _ _ = _; rw [hm]; exact hq, by omega⟩
theorem litUp_of {r : List Cell} {v c : Nat} {d : Int} : ∀ {n : Nat} {m : Int}, litUp r v c d n = some m → ∃ (i : Nat) (x : Int), i < n ∧ cellAt r (d - (-(c : Int) + i) * v) = some x ∧ m = x + ((-(c : Int) + i).natAbs : Int)
  | 0, m, h => by cases h
  | n + 1, m, h => by
    rcases bund_or h with e | ⟨x, e, rfl⟩
    · obtain ⟨i, x, hi, hx, hm⟩ := litUp_of e
      exact ⟨i, x, by omega, hx, hm⟩
    · exact ⟨n, x, by omega, e, rfl⟩
def litF (r : List Cell) (v c o : Nat) (d : Int) : Cell := litUp r v c d (c + o + 1)
theorem litF_lit {r : List Cell} {v c o : Nat} {d : Int} : Lit r v c o d (litF r v c o d) := by
  refine ⟨fun j x a b e => ?_, fun m h => ?_⟩
  · obtain ⟨i, hi⟩ : ∃ i : Nat, j = -(c : Int) + i := ⟨(j + c).toNat, by omega⟩
    subst hi
    exact litUp_le (by omega) e
  · obtain ⟨i, x, hi, hx, hm⟩ := litUp_of h
    exact ⟨_, x, by omega, by omega, hx, hm⟩
def nextLit (r : List Cell) (v c o : Nat) : List Cell := (List.range r.length).map fun d : Nat => litF r v c o (d : Int)
theorem nextLit_len (r : List Cell) (v c o : Nat) : (nextLit r v c o).length = r.length := by
  unfold nextLit
  rw [List.length_map, List.length_range]
theorem nextLit_at {r : List Cell} {v c o d : Nat} (h : d < r.length) : rAt (nextLit r v c o) d = litF r v c o (d : Int) := rAt_map h
/-- a kind: its value, what lies in the till, what is in the purse -/
abbrev Kd := Int × Int × Int
def stepL (r : List Cell) (k : Kd) : List Cell := nextLit r k.1.toNat k.2.1.toNat k.2.2.toNat
def lastL (r : List Cell) (ks : List Kd) : List Cell := ks.foldl stepL r
theorem lastL_snoc (r : List Cell) (ks : List Kd) (k : Kd) : lastL r (ks ++ [k]) = stepL (lastL r ks) k := by
  unfold lastL
  rw [List.foldl_append]
  rfl
theorem lastL_len (r : List Cell) (ks : List Kd) : (lastL r ks).length = r.length := by
  unfold lastL
  induction ks generalizing r with
  | nil => rfl
  | cons k ks ih =>
    rw [List.foldl_cons, ih]
    exact nextLit_len ..
def rowsL (r : List Cell) (ks : List Kd) : List (List Cell) := (List.range (ks.length + 1)).map fun k => lastL r (ks.take k)
theorem rowsL_len (r : List Cell) (ks : List Kd) : (rowsL r ks).length = ks.length + 1 := by
  unfold rowsL
  rw [List.length_map, List.length_range]
theorem rowsL_at (r : List Cell) (ks : List Kd) {k : Nat} (h : k ≤ ks.length) : (rowsL r ks)[k]? = some (lastL r (ks.take k)) := by
  unfold rowsL
  rw [List.getElem?_map, List.getElem?_range (by omega)]
  rfl
def row0L (low high : Nat) : List Cell := List.replicate low none ++ some 0 :: List.replicate high none
theorem row0L_len (low high : Nat) : (row0L low high).length = low + high + 1 := by
  unfold row0L
  rw [List.length_append, List.length_cons, List.length_replicate, List.length_replicate]
  omega
theorem row0L_at {low high : Nat} {z m : Int} (h : cellAt (row0L low high) z = some m) : z = low ∧ m = 0 := by
  unfold cellAt at h
  split at h
  · next hz =>
    obtain ⟨i, rfl⟩ : ∃ i : Nat, z = (i : Int) := ⟨z.toNat, by omega⟩
    rw [Int.toNat_natCast] at h
    unfold rAt row0L at h
    rw [List.getD_eq_getElem?_getD] at h
    by_cases h1 : i < low
    · rw [List.getElem?_append_left (by rw [List.length_replicate]; exact h1), List.getElem?_replicate, if_pos h1] at h
      cases h
    · rw [List.getElem?_append_right (by rw [List.length_replicate]; omega), List.length_replicate] at h
      by_cases h2 : i = low
      · subst h2
        rw [Nat.sub_self] at h
        exact ⟨rfl, (Option.some.inj h).symm⟩
      · obtain ⟨k, hk⟩ : ∃ k, i - low = k + 1 := ⟨i - low - 1, by omega⟩
        rw [hk, List.getElem?_cons_succ, List.getElem?_replicate] at h
        split at h <;> cases h
  · cases h
theorem row0L_low {low high : Nat} : cellAt (row0L low high) (low : Int) = some 0 := by
  unfold cellAt
  rw [if_pos ⟨by omega, by rw [row0L_len]; omega⟩, Int.toNat_natCast]
  unfold rAt row0L
  rw [List.getD_eq_getElem?_getD, List.getElem?_append_right (by rw [List.length_replicate]; exact Nat.le_refl _), List.length_replicate, Nat.sub_self]
  rfl
/-! the deal that is told: the greatest number that goes with the row ahead -/
def pickL (r : List Cell) (v c : Nat) (d m : Int) : Nat → Int
  | 0 => -(c : Int)
  | i + 1 => if cellAt r (d - (-(c : Int) + (i + 1 : Nat)) * v) = some (m - ((-(c : Int) + (i + 1 : Nat)).natAbs : Int)) then -(c : Int) + (i + 1 : Nat) else pickL r v c d m i
theorem pickL_in (r : List Cell) (v c : Nat) (d m : Int) : ∀ n, -(c : Int) ≤ pickL r v c d m n ∧ pickL r v c d m n ≤ -(c : Int) + n
  | 0 => by
    unfold pickL
    omega
  | n + 1 => by
    have := pickL_in r v c d m n
    unfold pickL
    split <;> omega
theorem pickL_ok {r : List Cell} {v c : Nat} {d m : Int} : ∀ {n : Nat}, (∃ i : Nat, i ≤ n ∧ cellAt r (d - (-(c : Int) + i) * v) = some (m - ((-(c : Int) + i).natAbs : Int))) →
    cellAt r (d - pickL r v c d m n * v) = some (m - ((pickL r v c d m n).natAbs : Int)) ∧ ∀ j : Int, pickL r v c d m n < j → j ≤ -(c : Int) + n → cellAt r (d - j * v) ≠ some (m - (j.natAbs : Int))
  | 0, ⟨i, hi, h⟩ => by
    obtain rfl : i = 0 := by omega
    unfold pickL
    refine ⟨by simpa using h, fun j h1 h2 => by omega⟩
  | n + 1, ⟨i, hi, h⟩ => by
    unfold pickL
    by_cases e : cellAt r (d - (-(c : Int) + (n + 1 : Nat)) * v) = some (m - ((-(c : Int) + (n + 1 : Nat)).natAbs : Int))
    · rw [if_pos e]
      exact ⟨e, fun j h1 h2 => by omega⟩
    · rw [if_neg e]
      have hi2 : i ≠ n + 1 := fun z => e (by rw [← z]; exact h)
      obtain ⟨h1, h2⟩ := pickL_ok (n := n) ⟨i, by omega, h⟩
      refine ⟨h1, fun j hj hj2 => ?_⟩
      by_cases z : j = -(c : Int) + (n + 1 : Nat)
      · rw [z]
        exact e
      · exact h2 j hj (by omega)
def pickK (r : List Cell) (k : Kd) (d m : Int) : Int := pickL r k.1.toNat k.2.1.toNat d m (k.2.1.toNat + k.2.2.toNat)
theorem back_oneL {r : List Cell} {v c o : Nat} {d : Int} {m : Int} (h : litF r v c o d = some m) : ∃ i : Nat, i ≤ c + o ∧ cellAt r (d - (-(c : Int) + i) * v) = some (m - ((-(c : Int) + i).natAbs : Int)) := by
  obtain ⟨i, x, hi, hx, rfl⟩ := litUp_of h
  refine ⟨i, by omega, ?_⟩
  rw [hx]
  congr 1
  omega
theorem cellAt_next {r : List Cell} {k : Kd} {z : Int} {m : Int} (h : cellAt (stepL r k) z = some m) : 0 ≤ z ∧ z < r.length ∧ litF r k.1.toNat k.2.1.toNat k.2.2.toNat z = some m := by
  unfold cellAt at h
  split at h
  · next hz =>
    have hl : (stepL r k).length = r.length := nextLit_len ..
    rw [hl] at hz
    refine ⟨hz.1, hz.2, ?_⟩
    have := nextLit_at (r := r) (v := k.1.toNat) (c := k.2.1.toNat) (o := k.2.2.toNat) (d := z.toNat) (by omega)
    rw [Int.toNat_of_nonneg hz.1] at this
    rw [← this]
    exact h
  · cases h
/-- the way, by the scales, of the first k kinds to the place d -/
def wayL (r0 : List Cell) (ks : List Kd) : Nat → Int → List Int
  | 0, _ => []
  | k + 1, d =>
    let p := ks.getD k (0, 0, 0)
    let g := pickK (lastL r0 (ks.take k)) p d (cellI (cellAt (lastL r0 (ks.take (k + 1))) d))
    wayL r0 ks k (d - g * p.1.toNat) ++ [g]
theorem wayL_succ (r0 : List Cell) (ks : List Kd) (k : Nat) (d : Int) {p : Kd} (hp : ks[k]? = some p) {g : Int} (hg : g = pickK (lastL r0 (ks.take k)) p d (cellI (cellAt (lastL r0 (ks.take (k + 1))) d))) :
    wayL r0 ks (k + 1) d = wayL r0 ks k (d - g * p.1.toNat) ++ [g] := by
  subst hg
  show wayL r0 ks k _ ++ _ = _
  rw [show ks.getD k (0, 0, 0) = p by rw [List.getD_eq_getElem?_getD, hp]; rfl]
theorem wayL_len (r0 : List Cell) (ks : List Kd) : ∀ (k : Nat) (d : Int), (wayL r0 ks k d).length = k
  | 0, _ => rfl
  | k + 1, d => by
    show (wayL r0 ks k _ ++ [_]).length = _
    rw [List.length_append, wayL_len r0 ks k]
    rfl
/-- a place that the scales tell, goes on to one that they tell -/
theorem stepL_ok {r0 : List Cell} {ks : List Kd} {k : Nat} {d m : Int} {p : Kd} (hp : ks[k]? = some p) (h : cellAt (lastL r0 (ks.take (k + 1))) d = some m) {g : Int} (hg : g = pickK (lastL r0 (ks.take k)) p d m) :
    -(p.2.1.toNat : Int) ≤ g ∧ g ≤ p.2.2.toNat ∧ cellAt (lastL r0 (ks.take k)) (d - g * p.1.toNat) = some (m - (g.natAbs : Int)) ∧ ∀ j : Int, g < j → j ≤ p.2.2.toNat → cellAt (lastL r0 (ks.take k)) (d - j * p.1.toNat) ≠ some (m - (j.natAbs : Int)) := by
  rw [List.take_add_one, hp] at h
  change cellAt (lastL r0 (ks.take k ++ [p])) d = some m at h
  rw [lastL_snoc] at h
  obtain ⟨_, _, hl⟩ := cellAt_next h
  have hb := back_oneL hl
  obtain ⟨h1, h2⟩ := pickL_ok hb
  have hin := pickL_in (lastL r0 (ks.take k)) p.1.toNat p.2.1.toNat d m (p.2.1.toNat + p.2.2.toNat)
  have hgg : g = pickL (lastL r0 (ks.take k)) p.1.toNat p.2.1.toNat d m (p.2.1.toNat + p.2.2.toNat) := hg
  rw [← hgg] at h1 h2 hin
  exact ⟨hin.1, by omega, h1, fun j a b => h2 j a (by omega)⟩
/-! ### every way to deal -/
def waysD (ks : List Kd) : Nat → List (List Int)
  | 0 => [[]]
  | k + 1 => (waysD ks k).flatMap fun w => (List.range ((ks.getD k (0, 0, 0)).2.1.toNat + (ks.getD k (0, 0, 0)).2.2.toNat + 1)).map fun i : Nat => w ++ [-((ks.getD k (0, 0, 0)).2.1.toNat : Int) + (i : Int)]
def worthD (ks : List Kd) (w : List Int) : Int := ((ks.zip w).map fun x => x.1.1 * x.2).sum
def fewD (w : List Int) : Int := (w.map fun j => (j.natAbs : Int)).sum
theorem fewD_snoc (w : List Int) (j : Int) : fewD (w ++ [j]) = fewD w + (j.natAbs : Int) := by
  unfold fewD
  rw [List.map_append, List.sum_append]
  simp
theorem worthD_snoc {ks : List Kd} {w : List Int} {p : Kd} {j : Int} (h : ks.length = w.length) : worthD (ks ++ [p]) (w ++ [j]) = worthD ks w + p.1 * j := by
  unfold worthD
  rw [List.zip_append h, List.map_append, List.sum_append]
  simp
theorem waysD_in {ks : List Kd} {k : Nat} {p : Kd} {w : List Int} (hp : ks[k]? = some p) : w ∈ waysD ks (k + 1) ↔ ∃ v j, w = v ++ [j] ∧ v ∈ waysD ks k ∧ -(p.2.1.toNat : Int) ≤ j ∧ j ≤ p.2.2.toNat := by
  show w ∈ List.flatMap _ _ ↔ _
  rw [List.mem_flatMap, show ks.getD k (0, 0, 0) = p by rw [List.getD_eq_getElem?_getD, hp]; rfl]
  constructor
  · rintro ⟨v, hv, hw⟩
    obtain ⟨i, hi, rfl⟩ := List.mem_map.mp hw
    have := List.mem_range.mp hi
    exact ⟨v, _, rfl, hv, by omega, by omega⟩
  · rintro ⟨v, j, rfl, hv, h1, h2⟩
    exact ⟨v, hv, List.mem_map.mpr ⟨(j + p.2.1.toNat).toNat, List.mem_range.mpr (by omega), by rw [show -(p.2.1.toNat : Int) + ((j + p.2.1.toNat).toNat : Int) = j by omega]⟩⟩
theorem waysD_len {ks : List Kd} : ∀ {k : Nat} {w : List Int}, k ≤ ks.length → w ∈ waysD ks k → w.length = k
  | 0, w, _, h => by
    rw [List.mem_singleton.mp h]
    rfl
  | k + 1, w, hk, h => by
    obtain ⟨v, j, rfl, hv, _⟩ := (waysD_in (List.getElem?_eq_getElem (show k < ks.length by omega))).mp h
    rw [List.length_append, waysD_len (by omega) hv]
    rfl
/-- what the first k kinds are worth, in the till and in the purse -/
def loK (ks : List Kd) : Int := (ks.map fun p => p.1 * p.2.1).sum
def hiK (ks : List Kd) : Int := (ks.map fun p => p.1 * p.2.2).sum
/-- kinds that are ones -/
def KdOk (ks : List Kd) : Prop := ∀ p ∈ ks, 1 ≤ p.1 ∧ 0 ≤ p.2.1 ∧ 0 ≤ p.2.2
theorem mono_sum {l : List Kd} {f : Kd → Int} (h : ∀ p ∈ l, 0 ≤ f p) : 0 ≤ (l.map f).sum := by
  induction l with
  | nil => exact Int.le_refl _
  | cons p l ih =>
    rw [List.map_cons, List.sum_cons]
    have h1 := ih fun q hq => h q (List.mem_cons_of_mem _ hq)
    have h2 := h p List.mem_cons_self
    omega
theorem take_sum {l : List Kd} {f : Kd → Int} (h : ∀ p ∈ l, 0 ≤ f p) (k : Nat) : ((l.take k).map f).sum ≤ (l.map f).sum := by
  have e : (l.map f).sum = ((l.take k).map f).sum + ((l.drop k).map f).sum := by
    rw [← List.sum_append, ← List.map_append, List.take_append_drop]
  have := mono_sum (l := l.drop k) (f := f) fun p hp => h p (List.mem_of_mem_drop hp)
  omega
theorem loK_le {ks : List Kd} (h : KdOk ks) (k : Nat) : loK (ks.take k) ≤ loK ks := take_sum (fun p hp => Int.mul_nonneg (by have := (h p hp).1; omega) (h p hp).2.1) k
theorem hiK_le {ks : List Kd} (h : KdOk ks) (k : Nat) : hiK (ks.take k) ≤ hiK ks := take_sum (fun p hp => Int.mul_nonneg (by have := (h p hp).1; omega) (h p hp).2.2) k
theorem loK_snoc (ks : List Kd) (p : Kd) : loK (ks ++ [p]) = loK ks + p.1 * p.2.1 := by
  unfold loK
  rw [List.map_append, List.sum_append]
  simp
theorem hiK_snoc (ks : List Kd) (p : Kd) : hiK (ks ++ [p]) = hiK ks + p.1 * p.2.2 := by
  unfold hiK
  rw [List.map_append, List.sum_append]
  simp
theorem wayD_in {ks : List Kd} (h : KdOk ks) : ∀ {k : Nat} {w : List Int}, k ≤ ks.length → w ∈ waysD ks k → -(loK (ks.take k)) ≤ worthD (ks.take k) w ∧ worthD (ks.take k) w ≤ hiK (ks.take k)
  | 0, w, _, hw => by
    rw [List.mem_singleton.mp hw]
    exact ⟨Int.le_refl _, Int.le_refl _⟩
  | k + 1, w, hk, hw => by
    have hp := List.getElem?_eq_getElem (show k < ks.length by omega)
    have hpm := List.getElem_mem (show k < ks.length by omega)
    generalize ks[k] = p at hp hpm
    have hv := h p hpm
    obtain ⟨v, j, rfl, hvw, hj1, hj2⟩ := (waysD_in hp).mp hw
    obtain ⟨i1, i2⟩ := wayD_in h (by omega) hvw
    have hvl := waysD_len (by omega) hvw
    rw [show ks.take (k + 1) = ks.take k ++ [p] by rw [List.take_add_one, hp]; rfl, worthD_snoc (by rw [hvl, List.length_take]; omega), loK_snoc, hiK_snoc]
    have c1 : p.1 * (-p.2.1) ≤ p.1 * j := Int.mul_le_mul_of_nonneg_left (by omega) (by omega)
    have c2 : p.1 * j ≤ p.1 * p.2.2 := Int.mul_le_mul_of_nonneg_left (by omega) (by omega)
    rw [Int.mul_neg] at c1
    omega
def lexI : List Int → List Int → Bool
  | a :: x, b :: y => if a = b then lexI x y else decide (b < a)
  | _, _ => false
def betterD (x y : List Int) : Bool := if fewD x = fewD y then lexI x.reverse y.reverse else decide (fewD x < fewD y)
/-- a way is told by the scales, and takes no fewer pieces than they tell -/
theorem wayD_some {low high : Nat} {ks : List Kd} (h : KdOk ks) (hlo : loK ks = low) (hhi : hiK ks = high) : ∀ {k : Nat} {w : List Int}, k ≤ ks.length → w ∈ waysD ks k →
    ∃ m, cellAt (lastL (row0L low high) (ks.take k)) (low + worthD (ks.take k) w) = some m ∧ m ≤ fewD w
  | 0, w, _, hw => by
    rw [List.mem_singleton.mp hw]
    refine ⟨0, ?_, Int.le_refl _⟩
    show cellAt (row0L low high) ((low : Int) + 0) = some 0
    rw [Int.add_zero]
    exact row0L_low
  | k + 1, w, hk, hw => by
    have hin := wayD_in h hk hw
    have l1 := loK_le h (k + 1)
    have l2 := hiK_le h (k + 1)
    have hp := List.getElem?_eq_getElem (show k < ks.length by omega)
    have hpm := List.getElem_mem (show k < ks.length by omega)
    generalize ks[k] = p at hp hpm
    have hv := h p hpm
    obtain ⟨v, j, rfl, hvw, hj1, hj2⟩ := (waysD_in hp).mp hw
    have hvl := waysD_len (by omega) hvw
    have tk : ks.take (k + 1) = ks.take k ++ [p] := by
      rw [List.take_add_one, hp]
      rfl
    obtain ⟨m, hm, hle⟩ := wayD_some h hlo hhi (k := k) (by omega) hvw
    have hw' : worthD (ks.take (k + 1)) (v ++ [j]) = worthD (ks.take k) v + p.1 * j := by
      rw [tk, worthD_snoc (by rw [hvl, List.length_take]; omega)]
    rw [hw'] at hin ⊢
    have hpv : (p.1.toNat : Int) = p.1 := Int.toNat_of_nonneg (by omega)
    have hlit := litF_lit (r := lastL (row0L low high) (ks.take k)) (v := p.1.toNat) (c := p.2.1.toNat) (o := p.2.2.toNat) (d := (low : Int) + (worthD (ks.take k) v + p.1 * j))
    obtain ⟨q, hq, hqle⟩ := hlit.1 j m hj1 hj2 (by
      rw [hpv, show (low : Int) + (worthD (ks.take k) v + p.1 * j) - j * p.1 = low + worthD (ks.take k) v by rw [Int.mul_comm j p.1]; omega]
      exact hm)
    refine ⟨q, ?_, by rw [fewD_snoc]; omega⟩
    have hl : (lastL (row0L low high) (ks.take (k + 1))).length = low + high + 1 := by rw [lastL_len, row0L_len]
    obtain ⟨i, hi⟩ : ∃ i : Nat, (low : Int) + (worthD (ks.take k) v + p.1 * j) = (i : Int) := ⟨_, (Int.toNat_of_nonneg (by omega)).symm⟩
    unfold cellAt
    rw [if_pos ⟨by omega, by rw [hl]; omega⟩, tk, lastL_snoc]
    rw [hi] at hq ⊢
    rw [Int.toNat_natCast]
    exact (nextLit_at (by rw [lastL_len, row0L_len]; omega)).trans hq
/-- the way told is one of all, and beats each other one of the same worth -/
theorem wayL_best {low high : Nat} {ks : List Kd} (h : KdOk ks) (hlo : loK ks = low) (hhi : hiK ks = high) : ∀ {k : Nat} {d m : Int}, k ≤ ks.length → cellAt (lastL (row0L low high) (ks.take k)) d = some m →
    wayL (row0L low high) ks k d ∈ waysD ks k ∧ worthD (ks.take k) (wayL (row0L low high) ks k d) = d - low ∧ fewD (wayL (row0L low high) ks k d) = m ∧
    ∀ w ∈ waysD ks k, worthD (ks.take k) w = d - low → w ≠ wayL (row0L low high) ks k d → fewD w = m → lexI (wayL (row0L low high) ks k d).reverse w.reverse = true ∧ lexI w.reverse (wayL (row0L low high) ks k d).reverse = false
  | 0, d, m, _, hm => by
    obtain ⟨rfl, rfl⟩ := row0L_at hm
    refine ⟨List.mem_singleton.mpr rfl, by show (0 : Int) = low - low; omega, rfl, fun w hw _ hne => absurd (List.mem_singleton.mp hw) hne⟩
  | k + 1, d, m, hk, hm => by
    have hp := List.getElem?_eq_getElem (show k < ks.length by omega)
    have hpm := List.getElem_mem (show k < ks.length by omega)
    generalize ks[k] = p at hp hpm
    have hv := h p hpm
    have tk : ks.take (k + 1) = ks.take k ++ [p] := by
      rw [List.take_add_one, hp]
      rfl
    have hpv : (p.1.toNat : Int) = p.1 := Int.toNat_of_nonneg (by omega)
    obtain ⟨g1, g2, g3, gtop⟩ := stepL_ok hp hm rfl
    have gs := wayL_succ (row0L low high) ks k d hp (g := pickK (lastL (row0L low high) (ks.take k)) p d m) (by rw [hm]; rfl)
    rw [gs]
    generalize pickK (lastL (row0L low high) (ks.take k)) p d m = g at g1 g2 g3 gtop
    rw [hpv] at g3 gtop ⊢
    obtain ⟨i1, i2, i3, i4⟩ := wayL_best h hlo hhi (k := k) (by omega) g3
    have hgl := wayL_len (row0L low high) ks k (d - g * p.1)
    have hcm : p.1 * g = g * p.1 := Int.mul_comm ..
    refine ⟨(waysD_in hp).mpr ⟨_, g, rfl, i1, g1, g2⟩, ?_, ?_, ?_⟩
    · rw [tk, worthD_snoc (by rw [hgl, List.length_take]; omega), i2]
      omega
    · rw [fewD_snoc, i3]
      omega
    · intro w hw hwd hne hsum
      obtain ⟨v, j, rfl, hvw, hj1, hj2⟩ := (waysD_in hp).mp hw
      have hvl := waysD_len (by omega) hvw
      rw [tk, worthD_snoc (by rw [hvl, List.length_take]; omega)] at hwd
      rw [fewD_snoc] at hsum
      have hcj : p.1 * j = j * p.1 := Int.mul_comm ..
      obtain ⟨m', hm', hle'⟩ := wayD_some h hlo hhi (k := k) (by omega) hvw
      rw [show (low : Int) + worthD (ks.take k) v = d - j * p.1 by omega] at hm'
      -- m is the least
      have hmm : m ≤ m' + (j.natAbs : Int) := by
        rw [tk, lastL_snoc] at hm
        obtain ⟨_, _, hl⟩ := cellAt_next hm
        have hlit := litF_lit (r := lastL (row0L low high) (ks.take k)) (v := p.1.toNat) (c := p.2.1.toNat) (o := p.2.2.toNat) (d := d)
        rw [hl] at hlit
        obtain ⟨q, hq, hqle⟩ := hlit.1 j m' hj1 hj2 (by rw [hpv]; exact hm')
        cases hq
        exact hqle
      have hme : m' = m - (j.natAbs : Int) := by omega
      rw [hme] at hm'
      have hjg : j ≤ g := by
        by_cases hlt : g < j
        · exact absurd hm' (gtop j hlt hj2)
        · omega
      rw [List.reverse_append, List.reverse_append]
      show lexI (g :: (wayL (row0L low high) ks k (d - g * p.1)).reverse) (j :: v.reverse) = true ∧ lexI (j :: v.reverse) (g :: (wayL (row0L low high) ks k (d - g * p.1)).reverse) = false
      unfold lexI
      by_cases e : g = j
      · subst e
        rw [if_pos rfl, if_pos rfl]
        exact i4 v hvw (by omega) (fun e => hne (by rw [e])) (by omega)
      · rw [if_neg e, if_neg (Ne.symm e)]
        exact ⟨decide_eq_true (by omega), decide_eq_false (by omega)⟩
/-- what is paid, what is given back -/
def payD (ks : List Kd) (w : List Int) : List (Int × Int) := ((ks.zip w).filter fun x => decide (0 < x.2)).map fun x => (x.1.1, x.2)
def giveD (ks : List Kd) (w : List Int) : List (Int × Int) := ((ks.zip w).filter fun x => decide (x.2 < 0)).map fun x => (x.1.1, -x.2)
theorem payD_snoc {ks : List Kd} {w : List Int} {p : Kd} {j : Int} (h : ks.length = w.length) : payD (ks ++ [p]) (w ++ [j]) = payD ks w ++ (if 0 < j then [(p.1, j)] else []) := by
  unfold payD
  rw [List.zip_append h, List.filter_append, List.map_append]
  congr 1
  show List.map _ (List.filter _ [(p, j)]) = _
  by_cases hj : 0 < j
  · rw [if_pos hj, List.filter_cons_of_pos (by simpa using hj)]
    rfl
  · rw [if_neg hj, List.filter_cons_of_neg (by simpa using hj)]
    rfl
theorem giveD_snoc {ks : List Kd} {w : List Int} {p : Kd} {j : Int} (h : ks.length = w.length) : giveD (ks ++ [p]) (w ++ [j]) = giveD ks w ++ (if j < 0 then [(p.1, -j)] else []) := by
  unfold giveD
  rw [List.zip_append h, List.filter_append, List.map_append]
  congr 1
  show List.map _ (List.filter _ [(p, j)]) = _
  by_cases hj : j < 0
  · rw [if_pos hj, List.filter_cons_of_pos (by simpa using hj)]
    rfl
  · rw [if_neg hj, List.filter_cons_of_neg (by simpa using hj)]
    rfl
/-! ### the table, as it is built -/
/-! ### rows as lists -/
def vO : Cell → V
  | none => .non
  | some i => .int i
theorem vO_at {r : List Cell} {i : Nat} (h : i < r.length) : (r.map vO)[i]? = some (vO (rAt r i)) := by
  rw [List.getElem?_map, rAt_lt h]
  rfl
def Row (K : PySem.W.Frag) (H : Hp) (a : Addr) (r : List Cell) : Prop := SqL K H a (r.map vO)
/-- the rows, each a list of its own -/
def RowsAt (H : Hp) : List Addr → List (List Cell) → Prop := Paired fun a r => H a = some (.lst (r.map vO))
theorem RowsAt.ex {H H' : Hp} (e : Ex H H') : ∀ {as : List Addr} {rs : List (List Cell)}, RowsAt H as rs → RowsAt H' as rs
  | _, _, .nil => .nil
  | _, _, .cons h r => .cons (e _ _ h) (RowsAt.ex e r)
theorem RowsAt.len {H : Hp} {as : List Addr} {rs : List (List Cell)} (h : RowsAt H as rs) : as.length = rs.length := Paired.length h
theorem RowsAt.snoc {H : Hp} : ∀ {as : List Addr} {rs : List (List Cell)} {a : Addr} {r : List Cell}, RowsAt H as rs → H a = some (.lst (r.map vO)) → RowsAt H (as ++ [a]) (rs ++ [r])
  | _, _, _, _, .nil, h => .cons h .nil
  | _, _, _, _, .cons b r, h => .cons b (RowsAt.snoc r h)
theorem RowsAt.get {H : Hp} : ∀ {as : List Addr} {rs : List (List Cell)} {i : Nat} {r : List Cell}, RowsAt H as rs → rs[i]? = some r → ∃ a, as[i]? = some a ∧ H a = some (.lst (r.map vO))
  | _, _, i, _, .nil, e => by simp at e
  | _, _, 0, _, .cons h _, e => by simp at e; subst e; exact ⟨_, by simp, h⟩
  | _, _, i + 1, _, .cons _ r, e => by
    obtain ⟨a, h1, h2⟩ := RowsAt.get (i := i) r (by simpa using e)
    exact ⟨a, by simpa using h1, h2⟩
theorem RowsAt.getA {H : Hp} : ∀ {as : List Addr} {rs : List (List Cell)} {i : Nat} {a : Addr}, RowsAt H as rs → as[i]? = some a → ∃ r, rs[i]? = some r ∧ H a = some (.lst (r.map vO))
  | _, _, i, _, .nil, e => by simp at e
  | _, _, 0, _, .cons h _, e => by simp at e; subst e; exact ⟨_, by simp, h⟩
  | _, _, i + 1, _, .cons _ r, e => by
    obtain ⟨x, h1, h2⟩ := RowsAt.getA (i := i) r (by simpa using e)
    exact ⟨x, by simpa using h1, h2⟩
theorem RowsAt.up {H : Hp} {f : Addr} {o : HO} : ∀ {as : List Addr} {rs : List (List Cell)}, f ∉ as → RowsAt H as rs → RowsAt (upd H f o) as rs
  | _, _, _, .nil => .nil
  | _, _, hf, .cons h r => .cons (by rw [upd_ne fun e => hf (by rw [← e]; exact List.mem_cons_self)]; exact h) (RowsAt.up (fun z => hf (List.mem_cons_of_mem _ z)) r)
theorem RowsAt.mem {H : Hp} : ∀ {as : List Addr} {rs : List (List Cell)} {x : Addr}, RowsAt H as rs → x ∈ as → ∃ o, H x = some o
  | a :: as, _, x, .cons h r, hx => by
    rcases List.mem_cons.mp hx with e | e
    · exact ⟨_, e ▸ h⟩
    · exact RowsAt.mem r e
/-- the table: new lists -/
def NewRows (H : Hp) (rs : List (List Cell)) (Q : VK) : Prop := ∀ R as H2, Ex H H2 → (∀ a ∈ R :: as, H a = none) → (R :: as).Nodup → H2 R = some (.lst (as.map V.ref)) → RowsAt H2 as rs → Q (.ref R) H2
theorem at_row {H : Hp} {as : List Addr} {rs : List (List Cell)} {i : Int} {k : Nat} {r : List Cell} (h : RowsAt H as rs) (hi : i = (k : Int)) (e : rs[k]? = some r) : ∃ a, atI (as.map V.ref) i = some (.ref a) ∧ as[k]? = some a ∧ H a = some (.lst (r.map vO)) := by
  obtain ⟨a, h1, h2⟩ := h.get e
  refine ⟨a, at_of hi ?_, h1, h2⟩
  rw [List.getElem?_map, h1]
  rfl
/-- the bundle, as far as a place -/
def wbUp (r : List Cell) (A s m : Nat) : List Cell := (List.range r.length).map fun d => if A ≤ d ∧ d < m then bund (rAt r d) (rAt r (d - A)) s else rAt r d
theorem wbUp_len (r : List Cell) (A s m : Nat) : (wbUp r A s m).length = r.length := by
  show ((List.range r.length).map _).length = _
  rw [List.length_map, List.length_range]
theorem wbUp_start (r : List Cell) (A s : Nat) : wbUp r A s A = r := by
  refine (row_ext rfl fun i hi => ?_).symm
  rw [if_neg (by omega)]
theorem wbUp_end {r : List Cell} {A s m : Nat} (h : r.length ≤ m) : wbUp r A s m = withBundle r A s := by
  refine row_ext (wbUp_len ..) fun i hi => ?_
  rw [show rAt (wbUp r A s m) i = _ from rAt_map hi]
  by_cases ha : A ≤ i
  · rw [if_pos ha, if_pos ⟨ha, by omega⟩]
  · rw [if_neg ha, if_neg fun z => ha z.1]
theorem wbUp_at {r : List Cell} {A s m : Nat} (h : m < r.length) : rAt (wbUp r A s m) m = rAt r m := by
  rw [show rAt (wbUp r A s m) m = _ from rAt_map h, if_neg (by omega)]
theorem set_map {r : List Cell} {m : Nat} {c : Cell} : (r.map vO).set m (vO c) = (r.set m c).map vO := by
  rw [List.map_set]
theorem wbUp_set {r : List Cell} {A s m : Nat} {c : Cell} (hm : m < r.length) (ha : A ≤ m) (hc : c = bund (rAt r m) (rAt r (m - A)) s) : (wbUp r A s m).set m c = wbUp r A s (m + 1) := by
  apply List.ext_getElem?
  intro i
  by_cases hi : i < r.length
  · rw [rAt_lt (r := wbUp r A s (m + 1)) (by rw [wbUp_len]; exact hi), show rAt (wbUp r A s (m + 1)) i = _ from rAt_map hi]
    by_cases e : i = m
    · subst e
      rw [List.getElem?_set_self (by rw [wbUp_len]; exact hi), if_pos ⟨ha, by omega⟩, hc]
    · rw [List.getElem?_set_ne (by omega), rAt_lt (by rw [wbUp_len]; exact hi), show rAt (wbUp r A s m) i = _ from rAt_map hi]
      by_cases z : A ≤ i ∧ i < m
      · rw [if_pos z, if_pos ⟨z.1, by omega⟩]
      · rw [if_neg z, if_neg (by omega)]
  · rw [List.getElem?_eq_none (by rw [List.length_set, wbUp_len]; omega), List.getElem?_eq_none (by rw [wbUp_len]; omega)]
theorem wbUp_keep {r : List Cell} {A s m : Nat} (hm : m < r.length) (h : rAt r m = bund (rAt r m) (rAt r (m - A)) s) : wbUp r A s (m + 1) = wbUp r A s m := by
  refine row_ext (n := r.length) (wbUp_len ..) fun i hi => ?_
  rw [show rAt (wbUp r A s (m + 1)) i = _ from rAt_map hi]
  by_cases e : i = m
  · subst e
    rw [if_neg (by omega : ¬ (A ≤ i ∧ i < i))]
    split
    · exact h.symm
    · rfl
  · by_cases z : A ≤ i ∧ i < m
    · rw [if_pos z, if_pos ⟨z.1, by omega⟩]
    · rw [if_neg z, if_neg (by omega)]
/-- a new row -/
def NewRow (H : Hp) (r : List Cell) (Q : VK) : Prop := ∀ p H2, Ex H H2 → H p = none → H2 p = some (.lst (r.map vO)) → Q (.ref p) H2
def spBundle (K : PySem.W.Frag) : Sp := fun vs H Q _ => ∃ (a : Addr) (r : List Cell) (A s : Nat), vs = [.ref a, .int (A : Int), .int (s : Int)] ∧ Row K H a r ∧ r.length ≤ 2000 ∧ A ≤ 1000000 ∧ NewRow H (withBundle r A s) Q
theorem ok_with_bundle (T : Tx K mg) : FnOk P w K mg base CX0 1 T.a__with_bundle T.d__with_bundle P__with_bundle (spBundle K) := by
  refine T.f__with_bundle.ok sc__with_bundle (fun vs H Q E h => ?_) (fun cdv A outer s H vs Q E hr h => ?_)
  · obtain ⟨a, r, B, s, rfl, _⟩ := h
    rfl
  · obtain ⟨a, r, B, s, rfl, hS, hl, hB, q⟩ := h
    refine ⟨_, (pss_cons (ps_set (i := 3) sc__with_bundle.nd rfl (.inl rfl) (pe_callTy call_list_of (by rfl) T.m_list (by decide +kernel) (pa_cons (pv 0) pa_nil)))
    (pss_cons (ps_for PassesOwn.never rfl (pi_range2 (by rfl) T.m_range (pa_cons (pv 1) (pa_cons (pe_callB call_len_seq (by rfl) T.m_len (by decide +kernel) (pa_cons (pv 0) pa_nil)) pa_nil))) (pg_name (i := 4) sc__with_bundle.nd rfl (.inl rfl))
      (pss_cons (ps_set (i := 5) sc__with_bundle.nd rfl (.inl rfl) (pe_ix ix_list (pv 0) (pe_op op_sub (pv 4) (pv 1)) (fun _ _ => rfl)))
      (pss_one (ps_if (PW.pt (pw_and (pt_cmpR op_notN (pv 5) pe_non (nomark _)) (pw_and1 (PW.pt (pw_or (pt_cmpR op_isN (pe_ix ix_list (pv 3) (pv 4) (fun _ _ => rfl)) pe_non (nomark _)) (pw_or1 (pt_cmpR op_lt (pe_op op_add (pv 5) (pv 2)) (pe_ix ix_list (pv 3) (pv 4) (fun _ _ => rfl)) (nomark _))))))))
        (pss_one (ps_asg (pe_op op_add (pv 5) (pv 2)) (pg_sub (pv 3) (pv 4) set_list)))
        pss_nil))))
    (pss_one (ps_ret (pv 3))))), ?_⟩
    have hS' : SqL K H a (r.map vO) := hS
    refine ⟨_, rfl, a, _, rfl, .inl hS', fun l hl0 => ?_⟩
    have hrl : (r.map vO).length = r.length := List.length_map _
    have nal : ∀ ys, H a = some (.lst ys) → a ≠ l := fun ys z => ne_of_none z hl0
    refine ⟨_, rfl, _, rfl, a, _, rfl, .inl ((Ex.nw hl0).seq hS'), _, _, rfl, ⟨by omega, by omega, by omega, by omega⟩, ?_⟩
    refine for_range (fun i σ H' => ∃ y4 y5, σ = [some (.ref a), some (.int (B : Int)), some (.int (s : Int)), some (.ref l), y4, y5] ∧ Ex H H' ∧ H' l = some (.lst ((wbUp r B s (B + i)).map vO)))
      ⟨_, _, rfl, Ex.nw hl0, by rw [Nat.add_zero, wbUp_start]; exact upd_same⟩ ?_ ?_
    · rintro i σ H1 hi ⟨y4, y5, rfl, ex, el⟩
      have hlt : B + i < r.length := by omega
      have a1 : atI (r.map vO) ((B : Int) + (i : Int) - (B : Int)) = some (vO (rAt r i)) := at_of (j := i) (by omega) (vO_at (by omega))
      have a2 : atI ((wbUp r B s (B + i)).map vO) ((B : Int) + (i : Int)) = some (vO (rAt r (B + i))) := at_of (j := B + i) (by omega) (by
        rw [vO_at (by rw [wbUp_len]; exact hlt), wbUp_at hlt])
      have sub : B + i - B = i := by omega
      refine ⟨_, rfl, _, rfl, _, rfl, _, _, rfl, rfl, a, _, _, _, rfl, rfl, ex.seq hS', a1, ?_⟩
      have keep : bund (rAt r (B + i)) (rAt r i) (s : Int) = rAt r (B + i) → wbUp r B s (B + (i + 1)) = wbUp r B s (B + i) := fun z => wbUp_keep hlt (by
        show rAt r (B + i) = bund (rAt r (B + i)) (rAt r (B + i - B)) s
        rw [sub]
        exact z.symm)
      have put : ∀ {x : Int} {o : Cell}, rAt r i = some x → rAt r (B + i) = o → bund o (some x) (s : Int) = some (x + (s : Int)) → ((wbUp r B s (B + i)).map vO).set (B + i) (.int (x + (s : Int))) = (wbUp r B s (B + (i + 1))).map vO := by
        intro x o h1 h2 h3
        rw [show V.int (x + (s : Int)) = vO (some (x + (s : Int))) from rfl, set_map]
        congr 1
        refine wbUp_set hlt (by omega) ?_
        rw [sub, h1, h2, h3]
      have hix : ixN ((wbUp r B s (B + i)).map vO).length ((B : Int) + (i : Int)) = some (B + i) := by
        rw [show ((B : Int) + (i : Int)) = ((B + i : Nat) : Int) from rfl]
        exact Evl.ixN_nat (by rw [List.length_map, wbUp_len]; exact hlt)
      cases hx : rAt r i with
      | none =>
        refine ⟨_, rfl, rfl, _, rfl, iteDN (fun z => absurd rfl z) (fun _ => iteF ?_)⟩
        exact ⟨_, _, rfl, ex, by rw [keep (by rw [hx]; rfl)]; exact el⟩
      | some x =>
        refine ⟨_, rfl, rfl, _, rfl, iteDN (fun _ => ?_) (fun z => nomatch z)⟩
        cases hy : rAt r (B + i) with
        | none =>
          rw [hy] at a2
          refine ⟨_, rfl, _, rfl, l, _, _, _, rfl, rfl, .of el, a2, rfl, _, rfl, iteD (fun _ => iteT ?_) (fun z => absurd rfl z)⟩
          refine ⟨_, rfl, _, rfl, _, _, rfl, rfl, _, rfl, _, rfl, l, _, _, B + i, rfl, rfl, el, hix, _, _, rfl, Ex.mu ex hl0, ?_⟩
          rw [upd_same, put hx hy rfl]
        | some y =>
          rw [hy] at a2
          refine ⟨_, rfl, _, rfl, l, _, _, _, rfl, rfl, .of el, a2, rfl, _, rfl, iteD (fun z => nomatch z) (fun _ => ?_)⟩
          refine ⟨_, rfl, _, rfl, _, _, rfl, rfl, _, rfl, _, rfl, l, _, _, _, rfl, rfl, .of el, a2, _, _, rfl, rfl, _, rfl, iteD (fun e => ?_) (fun e => ?_)⟩
          · refine ⟨_, rfl, _, rfl, _, _, rfl, rfl, _, rfl, _, rfl, l, _, _, B + i, rfl, rfl, el, hix, _, _, rfl, Ex.mu ex hl0, ?_⟩
            rw [upd_same, put hx hy (if_pos e)]
          · refine ⟨_, _, rfl, ex, ?_⟩
            rw [keep (by rw [hx, hy]; exact if_neg e)]
            exact el
    · rintro σ H1 ⟨y4, y5, rfl, ex, el⟩
      rw [wbUp_end (by omega)] at el
      exact ⟨_, rfl, q l H1 ex hl0 el⟩
/-- the bundles -/
def spBundles : Sp := fun vs H Q _ => ∃ n : Nat, vs = [.int (n : Int)] ∧ n ≤ 100000 ∧ ∀ p ss H2, Ex H H2 → H p = none → H2 p = some (.lst (ss.map fun k : Nat => V.int (k : Int))) → Steps 0 ss → ss.sum = n → ss.length ≤ n → Q (.ref p) H2
theorem ok_bundles (T : Tx K mg) : FnOk P w K mg base CX0 1 T.a__bundles T.d__bundles P__bundles spBundles := by
  refine T.f__bundles.ok sc__bundles (fun vs H Q E h => ?_) (fun cdv A outer s H vs Q E hr h => ?_)
  · obtain ⟨n, rfl, _⟩ := h
    rfl
  · obtain ⟨n, rfl, hn, q⟩ := h
    refine ⟨_, (pss_cons (ps_set (i := 1) sc__bundles.nd rfl (.inl rfl) (pe_lst pa_nil))
    (pss_cons (ps_set (i := 2) sc__bundles.nd rfl (.inl rfl) pe_int)
    (pss_cons (ps_while PassesOwn.never (pt_cmpR op_gt (pv 0) pe_int (nomark _))
      (pss_cons (ps_set (i := 3) sc__bundles.nd rfl (.inl rfl) (pe_callB (call_min2 rfl) (by rfl) T.m_min (by decide +kernel) (pa_cons (pv 2) (pa_cons (pv 0) pa_nil))))
      (pss_cons (ps_expr (pe_bm PySem.F.plainAttrs_list PySem.F.slot_list_append PySem.F.type_list_append mt_append (pv 1) (pa_cons (pv 3) pa_nil)))
      (pss_cons (ps_aug (i := 0) sc__bundles.nd rfl (.inl rfl) (pv 3) ip_sub)
      (pss_one (ps_aug (i := 2) sc__bundles.nd rfl (.inl rfl) pe_int ip_mulR))))))
    (pss_one (ps_ret (pv 1)))))), ?_⟩
    refine ⟨Nat.zero_le _, fun l hl0 => ?_⟩
    refine ⟨fun m σ H' => ∃ (ss : List Nat) (z : Nat) (y3 : Option V), σ = [some (.int (m : Int)), some (.ref l), some (.int (z : Int)), y3] ∧ Ex H H' ∧ H' l = some (.lst (ss.map fun k : Nat => V.int (k : Int))) ∧ Steps 0 ss ∧ ss.sum + m = n ∧ ss.length ≤ ss.sum ∧ 1 ≤ z ∧ (m = 0 ∨ z = ss.sum + 1),
      ⟨n, [], 1, none, rfl, Ex.nw hl0, upd_same, trivial, by simp, by simp, Nat.le_refl _, .inr (by simp)⟩, ?_⟩
    rintro m σ H' ⟨ss, z, y3, rfl, ex, el, hst, hsum, hlen, hz, hmz⟩
    refine ⟨_, rfl, _, _, rfl, rfl, _, rfl, iteD (fun e => ?_) (fun e => ?_)⟩
    · have hm : 0 < m := by omega
      obtain ⟨t, ht, ht1, ht2, ht3⟩ : ∃ t : Nat, (if (m : Int) < (z : Int) then (m : Int) else (z : Int)) = (t : Int) ∧ 1 ≤ t ∧ t ≤ m ∧ t ≤ z ∧ (t = m ∨ t = z) := by
        by_cases h : (m : Int) < (z : Int)
        · exact ⟨m, if_pos h, by omega, by omega, by omega, .inl rfl⟩
        · exact ⟨z, if_neg h, hz, by omega, by omega, .inr rfl⟩
      refine ⟨fun σ' H2 => ∃ m', m' < m ∧ ∃ (ss : List Nat) (z : Nat) (y3 : Option V), σ' = [some (.int (m' : Int)), some (.ref l), some (.int (z : Int)), y3] ∧ Ex H H2 ∧ H2 l = some (.lst (ss.map fun k : Nat => V.int (k : Int))) ∧ Steps 0 ss ∧ ss.sum + m' = n ∧ ss.length ≤ ss.sum ∧ 1 ≤ z ∧ (m' = 0 ∨ z = ss.sum + 1), fun _ _ z => z, ?_⟩
      refine ⟨_, rfl, _, rfl, _, _, rfl, ?_⟩
      rw [ht]
      have hl2 : (ss ++ [t]).map (fun k : Nat => V.int (k : Int)) = ss.map (fun k : Nat => V.int (k : Int)) ++ [V.int (t : Int)] := by rw [List.map_append]; rfl
      have hs2 : (ss ++ [t]).sum = ss.sum + t := by rw [List.sum_append]; simp
      refine ⟨_, rfl, .inl ⟨rfl, _, .of el⟩, _, rfl, l, _, _, rfl, rfl, el, len63' (by rw [List.length_map]; omega), ?_⟩
      refine ⟨_, rfl, _, rfl, _, _, rfl, rfl, ?_⟩
      refine ⟨_, rfl, _, _, rfl, rfl, .inr ⟨by decide, by decide⟩, ?_⟩
      refine ⟨m - t, by omega, ss ++ [t], z * 2, some (.int (t : Int)), ?_, Ex.mu ex hl0, ?_, steps_snoc hst (by omega), by omega, by rw [List.length_append, hs2]; simp; omega, by omega, by omega⟩
      · show [some (V.int ((m : Int) - (t : Int))), some (.ref l), some (.int ((z : Int) * 2)), some (.int (t : Int))] = _
        rw [show (m : Int) - (t : Int) = ((m - t : Nat) : Int) by omega, show (z : Int) * 2 = ((z * 2 : Nat) : Int) by omega]
      · rw [hl2]
        exact upd_same
    · exact ⟨_, rfl, q l ss H' ex hl0 el hst (by omega) (by omega)⟩
theorem le_sum : ∀ {l : List Nat} {x : Nat}, x ∈ l → x ≤ l.sum
  | a :: l, x, h => by
    rw [List.sum_cons]
    rcases List.mem_cons.mp h with e | e
    · omega
    · have := le_sum e
      omega
theorem fold_len (r : List Cell) (v : Nat) : ∀ (l : List Nat), (l.foldl (fun o s => withBundle o (s * v) s) r).length = r.length := by
  intro l
  induction l generalizing r with
  | nil => rfl
  | cons s l ih => rw [List.foldl_cons, ih, withBundle_len]
/-- a kind more -/
def spKind (K : PySem.W.Frag) : Sp := fun vs H Q _ => ∃ (a : Addr) (r : List Cell) (v c : Nat), vs = [.ref a, .int (v : Int), .int (c : Int)] ∧ Row K H a r ∧ 1 ≤ r.length ∧ r.length ≤ 2000 ∧ 1 ≤ v ∧ v ≤ 100000 ∧ NewRow H (nextRow r v c) Q
theorem ok_with_kind (T : Tx K mg) : FnOk P w K mg base CX0 2 T.a_with_kind T.d_with_kind P_with_kind (spKind K) := by
  have G__bundles := ok_bundles (P := P) (w := w) (base := base) T
  have G__with_bundle := ok_with_bundle (P := P) (w := w) (base := base) T
  refine T.f_with_kind.ok sc_with_kind (fun vs H Q E h => ?_) (fun cdv A outer s H vs Q E hr h => ?_)
  · obtain ⟨a, r, v, c, rfl, _⟩ := h
    rfl
  · obtain ⟨a, r, v, c, rfl, hS, hl1, hl, hv1, hv2, q⟩ := h
    refine ⟨_, (pss_cons (ps_set (i := 3) sc_with_kind.nd rfl (.inl rfl) (pe_callTy call_list_of (by rfl) T.m_list (by decide +kernel) (pa_cons (pv 0) pa_nil)))
    (pss_cons (ps_set (i := 4) sc_with_kind.nd rfl (.inl rfl) (pe_callB (call_min2 rfl) (by rfl) T.m_min (by decide +kernel) (pa_cons (pv 2) (pa_cons (pe_op op_fdiv (pe_op op_sub (pe_callB call_len_seq (by rfl) T.m_len (by decide +kernel) (pa_cons (pv 0) pa_nil)) pe_int) (pv 1)) pa_nil))))
    (pss_cons (ps_for PassesOwn.never rfl (pi_list (pe_call G__bundles (hr.mono (by decide)) (by rfl) T.g__bundles T.f__bundles.kp T.p__bundles .nil pass0 (pa_cons (pv 4) pa_nil))) (pg_name (i := 5) sc_with_kind.nd rfl (.inl rfl))
      (pss_one (ps_set (i := 3) sc_with_kind.nd rfl (.inl rfl) (pe_call G__with_bundle (hr.mono (by decide)) (by rfl) T.g__with_bundle T.f__with_bundle.kp T.p__with_bundle .nil pass0 (pa_cons (pv 3) (pa_cons (pe_op op_mul (pv 5) (pv 1)) (pa_cons (pv 5) pa_nil)))))))
    (pss_one (ps_ret (pv 3)))))), ?_⟩
    have hS' : SqL K H a (r.map vO) := hS
    have hrl : (r.map vO).length = r.length := List.length_map _
    refine ⟨_, rfl, a, _, rfl, .inl hS', fun l hl0 => ?_⟩
    (generalize hh : upd H l _ = H1; have e1 : Ex H H1 := (by rw [← hh]; exact Ex.nw hl0); have cl := (show H1 l = some _ by rw [← hh]; exact upd_same); clear hh)
    obtain ⟨n, hn, hnn⟩ : ∃ n : Nat, (if (((r.map vO).length : Int) - 1) / (v : Int) < (c : Int) then (((r.map vO).length : Int) - 1) / (v : Int) else (c : Int)) = (n : Int) ∧ n = min c ((r.length - 1) / v) := by
      rw [hrl, show ((r.length : Int) - 1) / (v : Int) = (((r.length - 1) / v : Nat) : Int) by
        rw [Int.natCast_ediv]
        congr 1
        omega]
      by_cases h : (((r.length - 1) / v : Nat) : Int) < (c : Int)
      · exact ⟨(r.length - 1) / v, if_pos h, by omega⟩
      · exact ⟨c, if_neg h, by omega⟩
    have hn2 : n ≤ 2000 := by
      have : (r.length - 1) / v ≤ r.length - 1 := Nat.div_le_self ..
      omega
    refine ⟨_, rfl, _, rfl, a, _, rfl, .inl (e1.seq hS'), _, _, rfl, rfl, _, rfl, _, _, rfl, rfl, ⟨by omega, by omega⟩, _, _, rfl, ?_⟩
    rw [hn]
    refine ⟨_, rfl, n, rfl, by omega, fun p ss H2 e2 hp ep hst hsum hlen => ?_⟩
    refine ⟨p, rfl, ⟨_, .of ep⟩, for_list (xs := ss.map fun k : Nat => V.int (k : Int)) (fun i σ H' => ∃ o y5, σ = [some (.ref a), some (.int (v : Int)), some (.int (c : Int)), some (.ref o), some (.int (n : Int)), y5] ∧ Ex H2 H' ∧ H o = none ∧ H' o = some (.lst (((ss.take i).foldl (fun o s => withBundle o (s * v) s) r).map vO)))
      ⟨l, _, rfl, Ex.rfl', hl0, e2 _ _ cl⟩ (fun i σ H' _ h => by obtain ⟨_, _, _, e, _⟩ := h; exact .of (e _ _ ep)) ?_ ?_⟩
    · rintro i x σ H3 hx ⟨o, y5, rfl, ex, ho, eo⟩
      rw [List.getElem?_map] at hx
      obtain ⟨s, hs, rfl⟩ := Option.map_eq_some_iff.mp hx
      have hsl : s ≤ n := by
        rw [← hsum]
        exact le_sum (List.mem_of_getElem? hs)
      have hsv : s * v ≤ r.length - 1 := by
        have h1 : n * v ≤ r.length - 1 := by
          rw [hnn]
          exact Nat.le_trans (Nat.mul_le_mul_right _ (Nat.min_le_right ..)) (Nat.div_mul_le_self ..)
        exact Nat.le_trans (Nat.mul_le_mul_right _ hsl) h1
      have hfl : ((ss.take i).foldl (fun o s => withBundle o (s * v) s) r).length = r.length := fold_len ..
      refine ⟨_, rfl, _, rfl, _, rfl, _, _, rfl, rfl, .inr ⟨by omega, by omega⟩, _, rfl, o, _, s * v, s, congrArg (fun z => [V.ref o, V.int z, V.int (s : Int)]) (Int.natCast_mul ..).symm, .of eo, by omega, by omega, fun p' H4 e4 hp' ep' => ?_⟩
      refine ⟨p', _, rfl, ex.tr e4, none_back ((e1.tr e2).tr ex) hp', ?_⟩
      rw [List.take_add_one, hs, List.foldl_append]
      exact ep'
    · rintro σ H3 ⟨o, y5, rfl, ex, ho, eo⟩
      rw [List.take_of_length_le (by rw [List.length_map]; exact Nat.le_refl _), fold_next (v := v) (c := c) (by omega) hst (by omega)] at eo
      exact ⟨_, rfl, q o H3 ((e1.tr e2).tr ex) ho eo⟩
def spCheck (lo hi : Int) (cN : Addr) : Sp := fun vs H Q E => ∃ v : Int, vs = [.int v] ∧ ((lo ≤ v ∧ v ≤ hi) → Q .non H) ∧ (¬ (lo ≤ v ∧ v ≤ hi) → E (.ref cN) none H)
theorem ok_check_sum (T : Tx K mg) : FnOk P w K mg base (L2.CX P w) 1 T.a_check_sum T.d_check_sum P_check_sum (spCheck 0 1000 T.c_NoSum) := by
  refine T.f_check_sum.okX sc_check_sum (fun vs H Q E h => ?_) (fun cdv A outer s H vs Q E hr h => ?_)
  · obtain ⟨v, rfl, _⟩ := h
    rfl
  · obtain ⟨v, rfl, q1, q2⟩ := h
    refine ⟨_, (pss_one (ps_if (pt_not (pt_chain op_le op_le pe_int (pv 0) (pe_glob (v := .int 1000) (by rfl) T.w_MOST_SUM.choose_spec ⟨_, rfl⟩)))
      (pss_one (ps_raise rfl (takes_of rfl rfl rfl rfl) (pmk_own PySem.F.excBase_ValueError T.x_NoSum T.g_NoSum T.k_NoSum (raises_own T.b_NoSum T.t_NoSum) rfl)))
      pss_nil)), ?_⟩
    repeat (first | refine ⟨_, rfl, ?_⟩ | refine ⟨(by show (0 : Int) < _; decide), ?_⟩ | refine ⟨⟨by decide, by decide⟩, ?_⟩ | refine ⟨.inr ⟨by decide, by decide⟩, ?_⟩ | refine ⟨.inl ⟨by decide, by decide⟩, ?_⟩ | refine ⟨⟨by decide, by decide, by decide⟩, ?_⟩ | refine ⟨_, _, rfl, rfl, ?_⟩ | refine ⟨rfl, _, rfl, ?_⟩)
    first | refine iteVI (fun e => ?_) (fun e => ?_) | refine iteVN (fun e => ?_) (fun e => ?_) | refine iteD (fun e => ?_) (fun e => ?_) | refine iteDN (fun e => ?_) (fun e => ?_) | refine iteB (fun e => ?_) (fun e => ?_)
    · repeat (first | refine ⟨_, rfl, ?_⟩ | refine ⟨(by show (0 : Int) < _; decide), ?_⟩ | refine ⟨⟨by decide, by decide⟩, ?_⟩ | refine ⟨.inr ⟨by decide, by decide⟩, ?_⟩ | refine ⟨.inl ⟨by decide, by decide⟩, ?_⟩ | refine ⟨⟨by decide, by decide, by decide⟩, ?_⟩ | refine ⟨_, _, rfl, rfl, ?_⟩ | refine ⟨rfl, _, rfl, ?_⟩)
      first | refine iteVI (fun e' => ?_) (fun e' => ?_) | refine iteVN (fun e' => ?_) (fun e' => ?_) | refine iteD (fun e' => ?_) (fun e' => ?_) | refine iteDN (fun e' => ?_) (fun e' => ?_) | refine iteB (fun e' => ?_) (fun e' => ?_)
      · exact q2 fun z => e' z.2
      · exact q1 ⟨e, e'⟩
    · exact ⟨_, rfl, iteT (q2 fun z => e z.1)⟩
theorem row0_map (n : Nat) : [V.int 0] ++ (List.replicate n [V.non]).flatten = (row0 n).map vO := by
  show V.int 0 :: (List.replicate n [V.non]).flatten = V.int 0 :: (List.replicate n (none : Cell)).map vO
  congr 1
  induction n with
  | zero => rfl
  | succ n ih =>
    rw [List.replicate_succ, List.replicate_succ, List.flatten_cons, List.map_cons, ih]
    rfl
def spTable (K : PySem.W.Frag) (cN : Addr) : Sp := fun vs H Q E => ∃ (a : Addr) (ps : List (Int × Int)) (m : Int), vs = [.ref a, .int m] ∧ Till K H a ps ∧ ps.length ≤ 1000 ∧ (∀ p ∈ ps, 1 ≤ p.1 ∧ p.1 ≤ 1000 ∧ 0 ≤ p.2) ∧
  ((0 ≤ m ∧ m ≤ 1000) → NewRows H (rowsOf (row0 m.toNat) ps) Q) ∧ (¬ (0 ≤ m ∧ m ≤ 1000) → E (.ref cN) none H)
theorem ok_table (T : Tx K mg) : FnOk P w K mg base (L2.CX P w) 3 T.a_table T.d_table P_table (spTable K T.c_NoSum) := by
  have G_check_sum := ok_check_sum (P := P) (w := w) (base := base) T
  have G_with_kind := ok_with_kind (P := P) (w := w) (base := base) T
  refine T.f_table.okX sc_table (fun vs H Q E h => ?_) (fun cdv A outer s H vs Q E hr h => ?_)
  · obtain ⟨a, ps, m, rfl, _⟩ := h
    rfl
  · obtain ⟨a, ps, m, rfl, ⟨xs, hS, hp⟩, hl, hv, q1, q2⟩ := h
    refine ⟨_, (pss_cons (ps_expr (pe_call G_check_sum (hr.mono (by decide)) (by rfl) T.g_check_sum T.f_check_sum.kp T.p_check_sum .nil (passes_call (takes_of rfl rfl rfl rfl) fun _ _ _ _ h => h) (pa_cons (pv 1) pa_nil)))
    (pss_cons (ps_set (i := 2) sc_table.nd rfl (.inl rfl) (pe_op op_cat (pe_lst (pa_cons pe_int pa_nil)) (pe_op op_rep (pe_lst (pa_cons pe_non pa_nil)) (pv 1))))
    (pss_cons (ps_set (i := 3) sc_table.nd rfl (.inl rfl) (pe_lst (pa_cons (pv 2) pa_nil)))
    (pss_cons (ps_for (passes_of rfl) rfl (pi_list (pv 0)) (pg_tup rfl (pgs_cons (pg_name (i := 4) sc_table.nd rfl (.inl rfl)) (pgs_cons (pg_name (i := 5) sc_table.nd rfl (.inl rfl)) pgs_nil)))
      (pss_cons (ps_set (i := 2) sc_table.nd rfl (.inl rfl) (pe_call G_with_kind (hr.mono (by decide)) (by rfl) T.g_with_kind T.f_with_kind.kp T.p_with_kind .nil pass0 (pa_cons (pv 2) (pa_cons (pv 4) (pa_cons (pv 5) pa_nil)))))
      (pss_one (ps_expr (pe_bm PySem.F.plainAttrs_list PySem.F.slot_list_append PySem.F.type_list_append mt_append (pv 3) (pa_cons (pv 2) pa_nil))))))
    (pss_one (ps_ret (pv 3))))))), ?_⟩
    refine ⟨_, rfl, m, rfl, fun hm => ?_, q2⟩
    obtain ⟨n, rfl⟩ : ∃ n : Nat, m = (n : Int) := ⟨m.toNat, (Int.toNat_of_nonneg hm.1).symm⟩
    have hn : n ≤ 1000 := by omega
    rw [Int.toNat_natCast] at q1
    refine ⟨len63 (by show 1 ≤ _; decide), fun l1 hl1 => ?_⟩
    (generalize hh : upd H l1 _ = H1; have e1 : Ex H H1 := (by rw [← hh]; exact Ex.nw hl1); have c1 := (show H1 l1 = some _ by rw [← hh]; exact upd_same); clear hh)
    refine ⟨len63 (by show 1 ≤ _; decide), fun l2 hl2 => ?_⟩
    (generalize hh : upd H1 l2 _ = H2; have e2 : Ex H1 H2 := (by rw [← hh]; exact Ex.nw hl2); have c2 := (show H2 l2 = some _ by rw [← hh]; exact upd_same); clear hh)
    refine ⟨_, rfl, l2, _, _, rfl, rfl, c2, by omega, by omega, len63 (by rw [Int.toNat_natCast]; show 1 * n ≤ _; omega), fun l3 hl3 => ?_⟩
    rw [Int.toNat_natCast]
    (generalize hh : upd H2 l3 _ = H3; have e3 : Ex H2 H3 := (by rw [← hh]; exact Ex.nw hl3); have c3 := (show H3 l3 = some _ by rw [← hh]; exact upd_same); clear hh)
    refine ⟨l1, l3, _, _, rfl, rfl, e3 _ _ (e2 _ _ c1), c3, len63 (by simp; omega), fun l4 hl4 => ?_⟩
    rw [row0_map]
    (generalize hh : upd H3 l4 _ = H4; have e4 : Ex H3 H4 := (by rw [← hh]; exact Ex.nw hl4); have c4 := (show H4 l4 = some _ by rw [← hh]; exact upd_same); clear hh)
    have ex4 := ((e1.tr e2).tr e3).tr e4
    have hl40 : H l4 = none := none_back ((e1.tr e2).tr e3) hl4
    refine ⟨_, rfl, len63 (by show 1 ≤ _; decide), fun R hR => ?_⟩
    have hR0 : H R = none := none_back ex4 hR
    have n4R : l4 ≠ R := ne_of_none c4 hR
    refine ⟨_, rfl, a, rfl, ⟨xs, (ex4.tr (Ex.nw hR)).seq hS⟩, for_list (xs := xs) (fun i σ H' => ∃ as b y4 y5, σ = [some (.ref a), some (.int (n : Int)), some (.ref b), some (.ref R), y4, y5] ∧ Ex H H' ∧ (∀ x ∈ R :: as, H x = none) ∧ (R :: as).Nodup ∧
        H' R = some (.lst (as.map V.ref)) ∧ RowsAt H' as (rowsOf (row0 n) (ps.take i)) ∧ H' b = some (.lst ((lastRow (row0 n) (ps.take i)).map vO)))
      ⟨[l4], l4, _, _, rfl, ex4.tr (Ex.nw hR), ?_, ?_, upd_same, .cons ((Ex.nw hR) _ _ c4) .nil, (Ex.nw hR) _ _ c4⟩ (fun i σ H' _ h => by
        obtain ⟨_, _, _, _, _, e, _⟩ := h
        exact e.seq hS) ?_ ?_⟩
    · intro x hx
      rcases List.mem_cons.mp hx with e | e
      · exact e ▸ hR0
      · rw [List.mem_singleton.mp e]
        exact hl40
    · rw [List.nodup_cons, List.mem_singleton]
      exact ⟨fun e => n4R e.symm, List.nodup_cons.mpr ⟨by simp, List.nodup_nil⟩⟩
    · rintro i x σ H5 hx ⟨as, b, y4, y5, rfl, ex, hfr, hnd, eR, hrows, eb⟩
      obtain ⟨p, t, h1, rfl, h3⟩ := Prs.get hp hx
      have hpm := hv p (List.mem_of_getElem? h1)
      have hi : i < ps.length := (List.getElem?_eq_some_iff.mp h1).1
      have hll : (lastRow (row0 n) (ps.take i)).length = n + 1 := by rw [lastRow_len, row0_len]
      refine ⟨t, _, rfl, .of (ex _ _ h3), rfl, _, _, rfl, _, _, rfl, rfl, ?_⟩
      refine ⟨_, rfl, _, rfl, _, rfl, b, _, p.1.toNat, p.2.toNat, by rw [Int.toNat_of_nonneg (by omega), Int.toNat_of_nonneg (by omega)]; rfl, .of eb, by omega, by omega, by omega, by omega, fun p' H6 e6 hp' ep' => ?_⟩
      rw [← lastRow_snoc, ← take_snoc h1] at ep'
      have hal := hrows.len
      rw [rowsOf_len, List.length_take] at hal
      refine ⟨_, rfl, .inl ⟨rfl, _, .of (e6 _ _ eR)⟩, _, rfl, R, _, _, rfl, rfl, e6 _ _ eR, len63' (by rw [List.length_map]; omega), ?_⟩
      have hRa : R ∉ as := (List.nodup_cons.mp hnd).1
      have hpR : p' ≠ R := (ne_of_none eR hp').symm
      have hpa : p' ∉ as := fun z => by
        obtain ⟨o, ho⟩ := hrows.mem z
        rw [ho] at hp'
        cases hp'
      refine ⟨as ++ [p'], p', _, _, rfl, Ex.mu (ex.tr e6) hR0, ?_, ?_, ?_, ?_, ?_⟩
      · intro x hx
        rcases List.mem_cons.mp hx with e | e
        · exact e ▸ hR0
        · rcases List.mem_append.mp e with e | e
          · exact hfr x (List.mem_cons_of_mem _ e)
          · rw [List.mem_singleton.mp e]
            exact none_back ex hp'
      · rw [← List.cons_append]
        refine nd_snoc hnd fun z => ?_
        rcases List.mem_cons.mp z with e | e
        · exact hpR e
        · exact hpa e
      · rw [upd_same, List.map_append]
        rfl
      · rw [take_snoc h1, rowsOf_snoc, ← take_snoc h1]
        exact RowsAt.snoc ((hrows.ex e6).up hRa) (by rw [upd_ne hpR]; exact ep')
      · rw [upd_ne hpR]
        exact ep'
    · rintro σ H5 ⟨as, b, y4, y5, rfl, ex, hfr, hnd, eR, hrows, eb⟩
      rw [List.take_of_length_le (by rw [hp.len]; exact Nat.le_refl _)] at hrows
      exact ⟨_, rfl, q1 hm R as H5 ex hfr hnd eR hrows⟩
theorem at_last {H : Hp} {as : List Addr} {r0 : List Cell} {ps : List (Int × Int)} (h : RowsAt H as (rowsOf r0 ps)) : ∃ a, atI (as.map V.ref) (-1) = some (.ref a) ∧ as[ps.length]? = some a ∧ H a = some (.lst ((lastRow r0 ps).map vO)) := by
  obtain ⟨a, h1, h2⟩ := h.get (rowsOf_at _ _ ps.length (Nat.le_refl _))
  rw [List.take_length] at h2
  refine ⟨a, ?_, h1, h2⟩
  have hal : (as.map V.ref).length = ps.length + 1 := by rw [List.length_map, h.len, rowsOf_len]
  unfold atI
  rw [show ixN (as.map V.ref).length (-1) = some ps.length by
    unfold ixN
    rw [if_neg (by omega), if_pos (by omega)]
    congr 1
    omega]
  show (as.map V.ref)[ps.length]? = _
  rw [List.getElem?_map, h1]
  rfl
/-! ### the fewest pieces -/
/-! ### places and pairs, told again -/
theorem vO_scal (o : Cell) (i : Int) : scal (vO o) (.int i) = true := by cases o <;> rfl
theorem vO_int {o : Cell} {i : Int} : vO o = .int i ↔ o = some i := by
  cases o with
  | none => exact ⟨(fun h => nomatch h), (fun h => nomatch h)⟩
  | some j => exact ⟨fun h => congrArg some (V.int.inj h), fun h => congrArg V.int (Option.some.inj h)⟩
theorem Prs.rev {H : Hp} : ∀ {xs : List V} {ps : List (Int × Int)}, Prs H xs ps → Prs H xs.reverse ps.reverse
  | _, _, .nil => .nil
  | _, _, .cons h r => by
    rw [List.reverse_cons, List.reverse_cons]
    exact Prs.snoc (Prs.rev r) h
def spMostGiven (K : PySem.W.Frag) : Sp := fun vs H Q _ => ∃ (a : Addr) (r : List Cell) (d v c : Nat) (m : Int), vs = [.ref a, .int (d : Int), .int m, .int (v : Int), .int (c : Int)] ∧ Row K H a r ∧ d < r.length ∧ d ≤ 100000 ∧ 1 ≤ v ∧ v ≤ 100000 ∧ Q (.int (pick r v c d m : Nat)) H
theorem ok_most_given (T : Tx K mg) : FnOk P w K mg base CX0 1 T.a__most_given T.d__most_given P__most_given (spMostGiven K) := by
  refine T.f__most_given.ok sc__most_given (fun vs H Q E h => ?_) (fun cdv A outer s H vs Q E hr h => ?_)
  · obtain ⟨a, r, d, v, c, m, rfl, _⟩ := h
    rfl
  · obtain ⟨a, r, d, v, c, m, rfl, hS, hd, hd2, hv1, hv2, q⟩ := h
    refine ⟨_, (pss_cons (ps_for PassesOwn.never rfl (pi_range3 (by rfl) T.m_range (pa_cons (pe_callB (call_min2 rfl) (by rfl) T.m_min (by decide +kernel) (pa_cons (pv 4) (pa_cons (pe_op op_fdiv (pv 1) (pv 3)) pa_nil))) (pa_cons pe_int (pa_cons (pe_un un_neg pe_int) pa_nil)))) (pg_name (i := 5) sc__most_given.nd rfl (.inl rfl))
      (pss_one (ps_if (pt_cmpR op_eq (pe_ix ix_list (pv 0) (pe_op op_sub (pv 1) (pe_op op_mul (pv 5) (pv 3))) (fun _ _ => rfl)) (pe_op op_sub (pv 2) (pv 5)) (nomark _))
        (pss_one (ps_ret (pv 5)))
        pss_nil)))
    (pss_one (ps_ret pe_int))), ?_⟩
    have hS' : SqL K H a (r.map vO) := hS
    obtain ⟨n, hn, hnn⟩ : ∃ n : Nat, (if (d : Int) / (v : Int) < (c : Int) then (d : Int) / (v : Int) else (c : Int)) = (n : Int) ∧ n = min c (d / v) := by
      rw [← Int.natCast_ediv]
      by_cases h : ((d / v : Nat) : Int) < (c : Int)
      · exact ⟨d / v, if_pos h, by omega⟩
      · exact ⟨c, if_neg h, by omega⟩
    have hnd : n ≤ d := by
      have : d / v ≤ d := Nat.div_le_self ..
      omega
    have hnv : n * v ≤ d := by
      rw [hnn]
      exact Nat.le_trans (Nat.mul_le_mul_right _ (Nat.min_le_right ..)) (Nat.div_mul_le_self ..)
    unfold pick at q
    rw [← hnn] at q
    refine ⟨_, rfl, _, rfl, _, rfl, _, _, rfl, rfl, ⟨by omega, by omega⟩, _, _, rfl, ?_⟩
    rw [hn]
    refine ⟨_, rfl, _, _, _, n, rfl, .neg (by omega) (by omega) (by decide) (by decide), ?_⟩
    refine for_rangeC (fun i σ H' => ∃ y5, σ = [some (.ref a), some (.int (d : Int)), some (.int m), some (.int (v : Int)), some (.int (c : Int)), y5] ∧ H' = H ∧ pickUp r v d m n = pickUp r v d m (n - i)) ⟨_, rfl, rfl, rfl⟩ ?_ ?_
    · rintro i σ H' hi ⟨y5, rfl, rfl, hpk⟩
      obtain ⟨k, hk⟩ : ∃ k, n - i = k + 1 := ⟨n - i - 1, by omega⟩
      have eg : (n : Int) + (i : Int) * -1 = ((k + 1 : Nat) : Int) := by omega
      have hkv : (k + 1) * v ≤ d := Nat.le_trans (Nat.mul_le_mul_right _ (by omega : k + 1 ≤ n)) hnv
      rw [eg]
      rw [hk] at hpk
      have a1 : atI (r.map vO) ((d : Int) - ((k + 1 : Nat) : Int) * (v : Int)) = some (vO (rAt r (d - (k + 1) * v))) := at_of (j := d - (k + 1) * v) (by
        rw [← Int.natCast_mul]
        omega) (vO_at (by omega))
      refine ⟨_, rfl, _, rfl, _, rfl, _, rfl, _, _, rfl, rfl, .inr ⟨by omega, by omega⟩, _, _, rfl, rfl, a, _, _, _, rfl, rfl, hS', a1, ?_⟩
      refine ⟨_, rfl, _, rfl, _, _, rfl, rfl, vO_scal _ _, _, rfl, iteD (fun e => ?_) (fun e => ?_)⟩
      · have e' := vO_int.mp e
        refine ⟨_, rfl, ?_⟩
        rw [hpk, show pickUp r v d m (k + 1) = k + 1 from if_pos e'] at q
        exact q
      · refine ⟨_, rfl, rfl, ?_⟩
        rw [hpk, show n - (i + 1) = k by omega]
        exact if_neg fun z => e (vO_int.mpr z)
    · rintro σ H' ⟨y5, rfl, rfl, hpk⟩
      rw [hpk, Nat.sub_self] at q
      exact q
def spFewest (K : PySem.W.Frag) (cN cC : Addr) : Sp := fun vs H Q E => ∃ (a : Addr) (ps : List (Int × Int)) (m : Int), vs = [.ref a, .int m] ∧ Till K H a ps ∧ ps.length ≤ 1000 ∧ (∀ p ∈ ps, 1 ≤ p.1 ∧ p.1 ≤ 1000 ∧ 0 ≤ p.2) ∧
  (¬ (0 ≤ m ∧ m ≤ 1000) → E (.ref cN) none H) ∧
  ((0 ≤ m ∧ m ≤ 1000) → rAt (lastRow (row0 m.toNat) ps) m.toNat = none → ∀ H2, Ex H H2 → E (.ref cC) none H2) ∧
  ((0 ≤ m ∧ m ≤ 1000) → rAt (lastRow (row0 m.toNat) ps) m.toNat ≠ none → ∀ p xs H2, Ex H H2 → H p = none → H2 p = some (.lst xs) → Prs H2 xs (given (row0 m.toNat) ps ps.length m.toNat) → Q (.ref p) H2)
theorem ok_fewest (T : Tx K mg) : FnOk P w K mg base (L2.CX P w) 4 T.a_fewest T.d_fewest P_fewest (spFewest K T.c_NoSum T.c_NoChange) := by
  have G_table := ok_table (P := P) (w := w) (base := base) T
  have G__most_given := ok_most_given (P := P) (w := w) (base := base) T
  refine T.f_fewest.okX sc_fewest (fun vs H Q E h => ?_) (fun cdv A outer s H vs Q E hr h => ?_)
  · obtain ⟨a, ps, m, rfl, _⟩ := h
    rfl
  · obtain ⟨a, ps, m, rfl, ⟨xs, hS, hp⟩, hl, hv, q1, q2, q3⟩ := h
    refine ⟨_, (pss_cons (ps_set (i := 2) sc_fewest.nd rfl (.inl rfl) (pe_call G_table (hr.mono (by decide)) (by rfl) T.g_table T.f_table.kp T.p_table .nil (passes_call (takes_of rfl rfl rfl rfl) fun _ _ _ _ h => h) (pa_cons (pv 0) (pa_cons (pv 1) pa_nil))))
    (pss_cons (ps_if (pt_cmpR op_isN (pe_ix ix_list (pe_ix ix_list (pv 2) (pe_un un_neg pe_int) (fun _ _ => rfl)) (pv 1) (fun _ _ => rfl)) pe_non (nomark _))
      (pss_one (ps_raise rfl (takes_of rfl rfl rfl rfl) (pmk_own PySem.F.excBase_ValueError T.x_NoChange T.g_NoChange T.k_NoChange (raises_own T.b_NoChange T.t_NoChange) rfl)))
      pss_nil)
    (pss_cons (ps_set (i := 3) sc_fewest.nd rfl (.inl rfl) (pe_lst pa_nil))
    (pss_cons (ps_set (i := 4) sc_fewest.nd rfl (.inl rfl) (pv 1))
    (pss_cons (ps_for (passes_of rfl) rfl (pi_revR (by rfl) T.m_reversed (prg_1 (by rfl) T.m_range (pe_callB call_len_seq (by rfl) T.m_len (by decide +kernel) (pa_cons (pv 0) pa_nil)))) (pg_name (i := 5) sc_fewest.nd rfl (.inl rfl))
      (pss_cons (ps_asg (pe_ix ix_list (pv 0) (pv 5) (fun _ _ => rfl)) (pg_tup rfl (pgs_cons (pg_name (i := 6) sc_fewest.nd rfl (.inl rfl)) (pgs_cons (pg_name (i := 7) sc_fewest.nd rfl (.inl rfl)) pgs_nil))))
      (pss_cons (ps_set (i := 8) sc_fewest.nd rfl (.inl rfl) (pe_call G__most_given (hr.mono (by decide)) (by rfl) T.g__most_given T.f__most_given.kp T.p__most_given .nil pass0 (pa_cons (pe_ix ix_list (pv 2) (pv 5) (fun _ _ => rfl)) (pa_cons (pv 4) (pa_cons (pe_ix ix_list (pe_ix ix_list (pv 2) (pe_op op_add (pv 5) pe_int) (fun _ _ => rfl)) (pv 4) (fun _ _ => rfl)) (pa_cons (pv 6) (pa_cons (pv 7) pa_nil)))))))
      (pss_one (ps_if (pt_cmpR op_gt (pv 8) pe_int (nomark _))
        (pss_cons (ps_expr (pe_bm PySem.F.plainAttrs_list PySem.F.slot_list_append PySem.F.type_list_append mt_append (pv 3) (pa_cons (pe_tup (pa_cons (pv 6) (pa_cons (pv 8) pa_nil))) pa_nil)))
        (pss_one (ps_aug (i := 4) sc_fewest.nd rfl (.inl rfl) (pe_op op_mul (pv 8) (pv 6)) ip_sub)))
        pss_nil)))))
    (pss_one (ps_ret (pe_revL (pv 3))))))))), ?_⟩
    refine ⟨_, rfl, _, rfl, a, ps, m, rfl, ⟨xs, hS, hp⟩, hl, hv, fun hm => ?_, q1⟩
    obtain ⟨n, rfl⟩ : ∃ n : Nat, m = (n : Int) := ⟨m.toNat, (Int.toNat_of_nonneg hm.1).symm⟩
    have hn : n ≤ 1000 := by omega
    rw [Int.toNat_natCast] at q2 q3 ⊢
    intro R as H2 e2 hfr hnd eR hrows
    obtain ⟨z, iz, _, ez⟩ := at_last hrows
    have hll : ∀ j, (lastRow (row0 n) (ps.take j)).length = n + 1 := fun j => by rw [lastRow_len, row0_len]
    have hlz := hll ps.length
    rw [List.take_length] at hlz
    refine ⟨_, rfl, _, rfl, R, _, _, .ref z, rfl, rfl, .of eR, iz, _, rfl, z, _, _, _, rfl, rfl, .of ez, at_of rfl (vO_at (by rw [hlz]; exact Nat.lt_succ_self n)), ?_⟩
    cases hc : rAt (lastRow (row0 n) ps) n with
    | none => exact ⟨rfl, _, rfl, iteD (fun _ => q2 hm hc _ e2) (fun y => absurd rfl y)⟩
    | some m =>
      refine ⟨rfl, _, rfl, iteD (fun y => nomatch y) (fun _ => ?_)⟩
      refine ⟨Nat.zero_le _, fun ch hch => ?_⟩
      have hch0 : H ch = none := none_back e2 hch
      have eR2 := (Ex.nw (o := .lst []) hch) _ _ eR
      have hg := given_ok (ps := ps) (n := n) (fun p hp => (hv p hp).1) (Nat.le_refl ps.length) (Nat.lt_succ_self n) (by rw [List.take_length]; exact hc)
      have hpl := hp.len
      refine ⟨_, rfl, ?_⟩
      refine ⟨_, rfl, a, xs, rfl, .inl (((e2.tr (Ex.nw hch))).seq hS), _, rfl, by omega, by omega, by omega, by omega, ?_⟩
      refine for_rangeC (fun i σ H' => ∃ (k left : Nat) (x : Int) (zs : List V) (acc : List (Int × Int)) (y5 y6 y7 y8 : Option V), k + i = ps.length ∧ σ = [some (.ref a), some (.int (n : Int)), some (.ref R), some (.ref ch), some (.int (left : Int)), y5, y6, y7, y8] ∧
        Ex H2 H' ∧ H' ch = some (.lst zs) ∧ Prs H' zs acc ∧ left ≤ n ∧ rAt (lastRow (row0 n) (ps.take k)) left = some x ∧ given (row0 n) ps ps.length n = given (row0 n) ps k left ++ acc.reverse ∧ acc.length ≤ i)
        ⟨ps.length, n, m, [], [], none, none, none, none, rfl, rfl, Ex.nw hch, upd_same, .nil, Nat.le_refl _, by rw [List.take_length]; exact hc, by simp, Nat.le_refl _⟩ ?_ ?_
      · rintro i σ H' hi ⟨k, left, x, zs, acc, y5, y6, y7, y8, hki, rfl, ex, ech, hacc, hle, hx, hgv, hal⟩
        have hi' : i < ps.length := by omega
        obtain ⟨j, rfl⟩ : ∃ j, k = j + 1 := ⟨k - 1, by omega⟩
        have ej : (0 : Int) + ((((xs.length : Int) - 0).toNat : Nat) : Int) - 1 + (i : Int) * -1 = (j : Int) := by omega
        rw [ej]
        have hj : j < ps.length := by omega
        obtain ⟨t, hx0, h3⟩ := Prs.getL hp (List.getElem?_eq_getElem hj)
        have hpj := List.getElem?_eq_getElem hj
        have hpv := hv _ (List.getElem_mem hj)
        generalize ps[j] = p at hpj h3 hpv
        have exH := e2.tr ex
        refine ⟨_, rfl, _, rfl, a, xs, _, _, rfl, rfl, exH.seq hS, at_of rfl hx0, t, _, rfl, .of (exH _ _ h3), rfl, _, _, rfl, _, _, rfl, rfl, ?_⟩
        have hrows' := hrows.ex ex
        obtain ⟨b, ib, _, eb⟩ := at_row hrows' (i := (j : Int)) (k := j) rfl (rowsOf_at _ _ j (by omega))
        obtain ⟨b1, ib1, _, eb1⟩ := at_row hrows' (i := (j : Int) + 1) (k := j + 1) rfl (rowsOf_at _ _ (j + 1) (by omega))
        have eR' := ex _ _ eR
        refine ⟨_, rfl, _, rfl, R, _, _, .ref b, rfl, rfl, .of eR', ib, _, rfl, ?_⟩
        refine ⟨_, rfl, _, rfl, _, _, rfl, rfl, R, _, _, .ref b1, rfl, rfl, .of eR', ib1, _, rfl, b1, _, _, _, rfl, rfl, .of eb1, at_of rfl (vO_at (by rw [hll]; omega)), _, rfl, _, rfl, ?_⟩
        rw [hx]
        obtain ⟨g1, g2, g3⟩ := step_ok hpj hpv.1 (by rw [row0_len]; omega) hx rfl
        have gs := given_succ (row0 n) ps j left hpj (g := pick (lastRow (row0 n) (ps.take j)) p.1.toNat p.2.toNat left x) (by rw [hx]; rfl)
        refine ⟨b, _, left, p.1.toNat, p.2.toNat, x, by rw [Int.toNat_of_nonneg (by omega), Int.toNat_of_nonneg (by omega)]; rfl, .of eb, by rw [hll]; omega, by omega, by omega, by omega, ?_⟩
        generalize pick (lastRow (row0 n) (ps.take j)) p.1.toNat p.2.toNat left x = g at g1 g2 g3 gs ⊢
        refine ⟨_, rfl, _, _, rfl, rfl, _, rfl, iteD (fun e => ?_) (fun e => ?_)⟩
        · have e' : 0 < g := by omega
          rw [if_pos e'] at gs
          refine ⟨_, rfl, .inl ⟨rfl, zs, .of ech⟩, _, rfl, _, rfl, len63 (by show 2 ≤ _; decide), fun t2 ht2 => ?_⟩
          have nct : ch ≠ t2 := ne_of_none ech ht2
          have ech' : (upd H' t2 (.tup [.int p.1, .int (g : Int)])) ch = some (.lst zs) := by rw [upd_ne nct]; exact ech
          refine ⟨ch, zs, _, rfl, rfl, ech', len63' (by rw [hacc.len]; omega), ?_⟩
          refine ⟨_, rfl, _, rfl, _, rfl, _, _, rfl, rfl, .inr ⟨by omega, by omega⟩, _, _, rfl, rfl, ?_⟩
          have el : (left : Int) - (g : Int) * p.1 = ((left - g * p.1.toNat : Nat) : Int) := by
            have : ((g * p.1.toNat : Nat) : Int) = (g : Int) * p.1 := by rw [Int.natCast_mul, Int.toNat_of_nonneg (by omega)]
            omega
          refine ⟨j, left - g * p.1.toNat, x - (g : Int), zs ++ [.ref t2], acc ++ [(p.1, (g : Int))], some (.int (j : Int)), some (.int p.1), some (.int p.2), some (.int (g : Int)), by omega, by rw [← el]; rfl, Ex.mu (ex.tr (Ex.nw ht2)) hch, upd_same, ?_, by omega, g3, ?_, by rw [List.length_append]; show _ + 1 ≤ _; omega⟩
          · refine Prs.up (by intro ys y; rw [ech'] at y; cases y) ?_
            exact Prs.snoc (hacc.ex (Ex.nw ht2)) ⟨t2, rfl, upd_same⟩
          · rw [hgv, gs, List.reverse_append, List.append_assoc]
            rfl
        · have e' : g = 0 := by omega
          subst e'
          rw [if_neg (Nat.lt_irrefl 0), List.append_nil, Nat.zero_mul, Nat.sub_zero] at gs
          rw [Nat.zero_mul, Nat.sub_zero] at g3
          exact ⟨j, left, _, zs, acc, _, _, _, _, by omega, rfl, ex, ech, hacc, hle, g3, by rw [hgv, gs], by omega⟩
      · rintro σ H' ⟨k, left, x, zs, acc, y5, y6, y7, y8, hki, rfl, ex, ech, hacc, hle, hx, hgv, hal⟩
        obtain rfl : k = 0 := by omega
        refine ⟨_, rfl, ch, zs, rfl, .of ech, fun p hp2 => ?_⟩
        refine q3 hm (by rw [hc]; exact fun z => nomatch z) p _ _ ((e2.tr ex).tr (Ex.nw hp2)) (none_back (e2.tr ex) hp2) upd_same ?_
        rw [hgv]
        exact (Prs.rev hacc).ex (Ex.nw hp2)
/-! ### count_of -/
/-- the first count of a kind -/
def countIn (ps : List (Int × Int)) (v : Int) : Option Int := ps.lookup v
theorem countIn_cons (p : Int × Int) (ps : List (Int × Int)) (v : Int) : countIn (p :: ps) v = if p.1 = v then some p.2 else countIn ps v := by
  unfold countIn
  rw [List.lookup_cons]
  by_cases h : p.1 = v
  · rw [if_pos h, show (v == p.1) = true by simp [h]]
  · rw [if_neg h, show (v == p.1) = false by simpa using fun e => h (Eq.symm e)]
theorem countIn_mem {ps : List (Int × Int)} {v c : Int} (h : countIn ps v = some c) : (v, c) ∈ ps := by
  induction ps with
  | nil => cases h
  | cons p ps ih =>
    rw [countIn_cons] at h
    by_cases e : p.1 = v
    · rw [if_pos e] at h
      have : p = (v, c) := by rw [← e, ← Option.some.inj h]
      rw [this]
      exact List.mem_cons_self
    · rw [if_neg e] at h
      exact List.mem_cons_of_mem _ (ih h)
theorem countIn_nd {ps : List (Int × Int)} {p : Int × Int} (nd : (ps.map (·.1)).Nodup) (hp : p ∈ ps) : countIn ps p.1 = some p.2 := by
  induction ps with
  | nil => cases hp
  | cons q ps ih =>
    rw [List.map_cons, List.nodup_cons] at nd
    rw [countIn_cons]
    rcases List.mem_cons.mp hp with e | e
    · rw [e, if_pos rfl]
    · rw [if_neg fun z => nd.1 (by rw [z]; exact List.mem_map.mpr ⟨p, e, rfl⟩)]
      exact ih nd.2 e
def spCountOf (K : PySem.W.Frag) (cN : Addr) : Sp := fun vs H Q E => ∃ (a : Addr) (ps : List (Int × Int)) (v : Int), vs = [.ref a, .int v] ∧ Till K H a ps ∧ (∀ c, countIn ps v = some c → Q (.int c) H) ∧ (countIn ps v = none → E (.ref cN) none H)
theorem ok_count_of (T : Tx K mg) : FnOk P w K mg base (L2.CX P w) 1 T.a_count_of T.d_count_of P_count_of (spCountOf K T.c_NoKind) := by
  refine T.f_count_of.okX sc_count_of (fun vs H Q E h => ?_) (fun cdv A outer s H vs Q E hr h => ?_)
  · obtain ⟨a, ps, v, rfl, _⟩ := h
    rfl
  · obtain ⟨a, ps, v, rfl, ⟨xs, hS, hp⟩, q1, q2⟩ := h
    refine ⟨_, (pss_cons (ps_for (passes_of rfl) rfl (pi_list (pv 0)) (pg_tup rfl (pgs_cons (pg_name (i := 2) sc_count_of.nd rfl (.inl rfl)) (pgs_cons (pg_name (i := 3) sc_count_of.nd rfl (.inl rfl)) pgs_nil)))
      (pss_one (ps_if (pt_cmpR op_eq (pv 2) (pv 1) (nomark _))
        (pss_one (ps_ret (pv 3)))
        pss_nil)))
    (pss_one (ps_raise rfl (takes_of rfl rfl rfl rfl) (pmk_own PySem.F.excBase_ValueError T.x_NoKind T.g_NoKind T.k_NoKind (raises_own T.b_NoKind T.t_NoKind) rfl)))), ?_⟩
    refine ⟨_, rfl, a, rfl, ⟨xs, hS⟩, for_list (xs := xs) (fun i σ H' => ∃ y2 y3, σ = [some (.ref a), some (.int v), y2, y3] ∧ H' = H ∧ countIn ps v = countIn (ps.drop i) v) ⟨_, _, rfl, rfl, rfl⟩ (fun i σ H' _ h => by obtain ⟨_, _, _, rfl, _⟩ := h; exact hS) ?_ ?_⟩
    · rintro i x σ H' hx ⟨y2, y3, rfl, rfl, hc⟩
      obtain ⟨p, t, h1, rfl, h3⟩ := Prs.get hp hx
      have hd : ps.drop i = p :: ps.drop (i + 1) := by
        obtain ⟨hi, e⟩ := List.getElem?_eq_some_iff.mp h1
        rw [List.drop_eq_getElem_cons hi, e]
      rw [hd, countIn_cons] at hc
      refine ⟨t, _, rfl, .of h3, rfl, _, _, rfl, _, _, rfl, rfl, ?_⟩
      repeat (first | refine ⟨_, rfl, ?_⟩ | refine ⟨(by show (0 : Int) < _; decide), ?_⟩ | refine ⟨⟨by decide, by decide⟩, ?_⟩ | refine ⟨.inr ⟨by decide, by decide⟩, ?_⟩ | refine ⟨.inl ⟨by decide, by decide⟩, ?_⟩ | refine ⟨⟨by decide, by decide, by decide⟩, ?_⟩ | refine ⟨_, _, rfl, rfl, ?_⟩ | refine ⟨rfl, _, rfl, ?_⟩)
      first | refine iteVI (fun e => ?_) (fun e => ?_) | refine iteVN (fun e => ?_) (fun e => ?_) | refine iteD (fun e => ?_) (fun e => ?_) | refine iteDN (fun e => ?_) (fun e => ?_) | refine iteB (fun e => ?_) (fun e => ?_)
      · rw [if_pos e] at hc
        repeat (first | refine ⟨_, rfl, ?_⟩ | refine ⟨(by show (0 : Int) < _; decide), ?_⟩ | refine ⟨⟨by decide, by decide⟩, ?_⟩ | refine ⟨.inr ⟨by decide, by decide⟩, ?_⟩ | refine ⟨.inl ⟨by decide, by decide⟩, ?_⟩ | refine ⟨⟨by decide, by decide, by decide⟩, ?_⟩ | refine ⟨_, _, rfl, rfl, ?_⟩ | refine ⟨rfl, _, rfl, ?_⟩)
        exact q1 _ hc
      · rw [if_neg e] at hc
        exact ⟨_, _, rfl, rfl, hc⟩
    · rintro σ H' ⟨y2, y3, rfl, rfl, hc⟩
      rw [List.drop_of_length_le (by rw [hp.len]; exact Nat.le_refl _)] at hc
      exact q2 hc
/-! ### what a deed does, by itself -/
def there (ps : List (Int × Int)) (v : Int) : Int := (countIn ps v).getD (-1)
def addC (ps : List (Int × Int)) (v d : Int) : List (Int × Int) := ps.map fun p => if p.1 = v then (p.1, p.2 + d) else p
def dueK (ps : List (Int × Int)) (w v c : Int) : Str :=
  if w < 2 then (if there ps v < 0 then "kind" else if c < 0 ∨ c > 1000000000 ∨ (w = 0 ∧ there ps v + c > 1000000000) then "count" else if w = 1 ∧ c > there ps v then "few" else "")
  else if w = 2 then (if v < 1 ∨ v > 1000 then "kind" else if 0 ≤ there ps v then "twice" else if ps.length = 10 then "till" else "")
  else (if there ps v < 0 then "kind" else if there ps v > 0 then "held" else if ps.length = 1 then "till" else "")
/-- the till behind -/
def Behind (ps : List (Int × Int)) (w v c : Int) (qs : List (Int × Int)) : Prop :=
  (w = 0 ∧ qs = addC ps v c) ∨ (w = 1 ∧ qs = addC ps v (-c)) ∨ (w = 2 ∧ Rising qs ∧ qs.Perm (ps ++ [(v, 0)])) ∨ (w = 3 ∧ qs = ps.filter fun p => decide (p.1 ≠ v))
theorem rising_uniq : ∀ {ps qs : List (Int × Int)}, Rising ps → Rising qs → ps.Perm qs → ps = qs
  | [], qs, _, _, h => (h.symm.eq_nil).symm
  | p :: ps, [], _, _, h => absurd h.eq_nil (by simp)
  | p :: ps, q :: qs, h1, h2, h => by
    obtain ⟨a1, a2⟩ := List.pairwise_cons.mp h1
    obtain ⟨b1, b2⟩ := List.pairwise_cons.mp h2
    have e : p = q := by
      rcases List.mem_cons.mp (h.mem_iff.mp List.mem_cons_self) with e | e
      · exact e
      · rcases List.mem_cons.mp (h.mem_iff.mpr List.mem_cons_self) with e' | e'
        · exact e'.symm
        · have := b1 p e
          have := a1 q e'
          omega
    subst e
    rw [rising_uniq a2 b2 ((List.perm_cons _).mp h)]
theorem Behind.uniq {ps : List (Int × Int)} {w v c : Int} {qs rs : List (Int × Int)} (h : Behind ps w v c qs) (k : Behind ps w v c rs) : qs = rs := by
  rcases h with ⟨a, b⟩ | ⟨a, b⟩ | ⟨a, b, d⟩ | ⟨a, b⟩ <;> rcases k with ⟨a', b'⟩ | ⟨a', b'⟩ | ⟨a', b', d'⟩ | ⟨a', b'⟩ <;> first | (subst a; exact absurd a' (by decide)) | rw [b, b'] | exact rising_uniq b b' (d.trans d'.symm)
theorem setC_eq {ps : List (Int × Int)} {v t n : Int} (nd : (ps.map (·.1)).Nodup) (h : countIn ps v = some t) : ps.map (fun p => (p.1, if p.1 = v then n else p.2)) = addC ps v (n - t) := by
  unfold addC
  refine List.map_congr_left fun p hp => ?_
  by_cases e : p.1 = v
  · rw [if_pos e, if_pos e]
    have := countIn_nd nd hp
    rw [e, h] at this
    rw [← Option.some.inj this]
    congr 1
    omega
  · rw [if_neg e, if_neg e]
/-- a till that is one -/
structure Tl (ps : List (Int × Int)) : Prop where
  ris : Rising ps
  val : ∀ p ∈ ps, 1 ≤ p.1 ∧ p.1 ≤ 1000
  cnt : ∀ p ∈ ps, 0 ≤ p.2 ∧ p.2 ≤ 1000000000
  len : 1 ≤ ps.length ∧ ps.length ≤ 10
theorem Tl.nd {ps : List (Int × Int)} (h : Tl ps) : (ps.map (·.1)).Nodup := rising_nd h.ris
/-- what a deed gives, or the refusal due -/
def OutK (cK cC cF cT cL cH : Addr) (ps : List (Int × Int)) (w v c : Int) (H : Hp) (Q : VK) (E : XK) : Prop :=
  (dueK ps w v c = "" → ∀ p xs qs H2, Ex H H2 → H p = none → H2 p = some (.lst xs) → Prs H2 xs qs → Behind ps w v c qs → Q (.ref p) H2) ∧
  (dueK ps w v c = "kind" → ∀ H2, Ex H H2 → E (.ref cK) none H2) ∧ (dueK ps w v c = "count" → ∀ H2, Ex H H2 → E (.ref cC) none H2) ∧ (dueK ps w v c = "few" → ∀ H2, Ex H H2 → E (.ref cF) none H2) ∧
  (dueK ps w v c = "twice" → ∀ H2, Ex H H2 → E (.ref cT) none H2) ∧ (dueK ps w v c = "till" → ∀ H2, Ex H H2 → E (.ref cL) none H2) ∧ (dueK ps w v c = "held" → ∀ H2, Ex H H2 → E (.ref cH) none H2)
theorem there_some {ps : List (Int × Int)} {v t : Int} (h : countIn ps v = some t) : there ps v = t := by
  unfold there
  rw [h]
  rfl
theorem there_none {ps : List (Int × Int)} {v : Int} (h : countIn ps v = none) : there ps v = -1 := by
  unfold there
  rw [h]
  rfl
theorem Tl.there_nn {ps : List (Int × Int)} (h : Tl ps) {v t : Int} (ht : countIn ps v = some t) : 0 ≤ t ∧ t ≤ 1000000000 := h.cnt _ (countIn_mem ht)
theorem Behind.few {ps : List (Int × Int)} {w v c : Int} {qs : List (Int × Int)} (h : Behind ps w v c qs) (hl : ps.length ≤ 10) : qs.length ≤ 1000 := by
  rcases h with ⟨_, rfl⟩ | ⟨_, rfl⟩ | ⟨_, _, hp⟩ | ⟨_, rfl⟩
  · unfold addC
    rw [List.length_map]
    omega
  · unfold addC
    rw [List.length_map]
    omega
  · rw [hp.length_eq, List.length_append]
    show ps.length + 1 ≤ _
    omega
  · exact Nat.le_trans (List.length_filter_le ..) (by omega)
def spNewT (H : Hp) (qs : List (Int × Int)) (Q : VK) : Prop := ∀ p xs H2, Ex H H2 → H p = none → H2 p = some (.lst xs) → Prs H2 xs qs → Q (.ref p) H2
/-! ### pieces brought -/
theorem ok_check_count (T : Tx K mg) : FnOk P w K mg base (L2.CX P w) 1 T.a_check_count T.d_check_count P_check_count (spCheck 0 1000000000 T.c_NoCount) := by
  refine T.f_check_count.okX sc_check_count (fun vs H Q E h => ?_) (fun cdv A outer s H vs Q E hr h => ?_)
  · obtain ⟨v, rfl, _⟩ := h
    rfl
  · obtain ⟨v, rfl, q1, q2⟩ := h
    refine ⟨_, (pss_one (ps_if (pt_not (pt_chain op_le op_le pe_int (pv 0) (pe_glob (v := .int 1000000000) (by rfl) T.w_MOST_COUNT.choose_spec ⟨_, rfl⟩)))
      (pss_one (ps_raise rfl (takes_of rfl rfl rfl rfl) (pmk_own PySem.F.excBase_ValueError T.x_NoCount T.g_NoCount T.k_NoCount (raises_own T.b_NoCount T.t_NoCount) rfl)))
      pss_nil)), ?_⟩
    repeat (first | refine ⟨_, rfl, ?_⟩ | refine ⟨(by show (0 : Int) < _; decide), ?_⟩ | refine ⟨⟨by decide, by decide⟩, ?_⟩ | refine ⟨.inr ⟨by decide, by decide⟩, ?_⟩ | refine ⟨.inl ⟨by decide, by decide⟩, ?_⟩ | refine ⟨⟨by decide, by decide, by decide⟩, ?_⟩ | refine ⟨_, _, rfl, rfl, ?_⟩ | refine ⟨rfl, _, rfl, ?_⟩)
    first | refine iteVI (fun e => ?_) (fun e => ?_) | refine iteVN (fun e => ?_) (fun e => ?_) | refine iteD (fun e => ?_) (fun e => ?_) | refine iteDN (fun e => ?_) (fun e => ?_) | refine iteB (fun e => ?_) (fun e => ?_)
    · repeat (first | refine ⟨_, rfl, ?_⟩ | refine ⟨(by show (0 : Int) < _; decide), ?_⟩ | refine ⟨⟨by decide, by decide⟩, ?_⟩ | refine ⟨.inr ⟨by decide, by decide⟩, ?_⟩ | refine ⟨.inl ⟨by decide, by decide⟩, ?_⟩ | refine ⟨⟨by decide, by decide, by decide⟩, ?_⟩ | refine ⟨_, _, rfl, rfl, ?_⟩ | refine ⟨rfl, _, rfl, ?_⟩)
      first | refine iteVI (fun e' => ?_) (fun e' => ?_) | refine iteVN (fun e' => ?_) (fun e' => ?_) | refine iteD (fun e' => ?_) (fun e' => ?_) | refine iteDN (fun e' => ?_) (fun e' => ?_) | refine iteB (fun e' => ?_) (fun e' => ?_)
      · exact q2 fun z => e' z.2
      · exact q1 ⟨e, e'⟩
    · exact ⟨_, rfl, iteT (q2 fun z => e z.1)⟩
def spWithCount (K : PySem.W.Frag) : Sp := fun vs H Q _ => ∃ (a : Addr) (ps : List (Int × Int)) (v n : Int), vs = [.ref a, .int v, .int n] ∧ Till K H a ps ∧ ps.length ≤ 1000 ∧ spNewT H (ps.map fun p => (p.1, if p.1 = v then n else p.2)) Q
theorem ok_with_count (T : Tx K mg) : FnOk P w K mg base CX0 1 T.a__with_count T.d__with_count P__with_count (spWithCount K) := by
  refine T.f__with_count.ok sc__with_count (fun vs H Q E h => ?_) (fun cdv A outer s H vs Q E hr h => ?_)
  · obtain ⟨a, ps, v, n, rfl, _⟩ := h
    rfl
  · obtain ⟨a, ps, v, n, rfl, ⟨xs, hS, hp⟩, hl, q⟩ := h
    refine ⟨_, (pss_one (ps_ret (pe_lc (own := [("held", 3), ("lies", 4)]) (g := gTup K 2 (gCons (gName 3) (gCons (gName 4) gNil))) rfl sc__with_count.nd (pi_list (pv 0)) (blkOk_by (own := [("held", 3), ("lies", 4)]) (N := N__with_count) (sc := defScope s__with_count) (by decide +kernel)) (fun _ _ _ _ _ => pg_tup rfl (pgs_cons (pg_name (i := 3) sc__with_count.nd rfl (.inl rfl) (.inr rfl)) (pgs_cons (pg_name (i := 4) sc__with_count.nd rfl (.inl rfl) (.inr rfl)) pgs_nil))) (fun _ _ _ _ _ => pts_nil) (fun _ _ _ _ _ => (pe_tup (pa_cons (pv 3) (pa_cons (pe_ifExp (pt_cmpR op_eq (pv 3) (pv 1) (nomark _)) (pv 2) (pv 4)) pa_nil))))))), ?_⟩
    refine ⟨_, rfl, a, rfl, ⟨xs, hS⟩, fun D hD => lc_list (xs := xs) (fun i H' => ∃ ys, Ex H H' ∧ H' D = some (.lst ys) ∧ ys.length = i ∧ Prs H' ys ((ps.take i).map fun p => (p.1, if p.1 = v then n else p.2))) ⟨[], Ex.nw hD, upd_same, rfl, .nil⟩ (fun i H' _ h => by
      obtain ⟨_, e, _⟩ := h
      exact e.seq hS) ?_ ?_⟩
    · rintro i x H' hx ⟨ys, ex, eD, hyl, hys⟩
      obtain ⟨p, t, h1, rfl, h3⟩ := Prs.get hp hx
      have hi : i < ps.length := (List.getElem?_eq_some_iff.mp h1).1
      refine ⟨t, _, rfl, .of (ex _ _ h3), rfl, _, _, rfl, _, _, rfl, rfl, rfl, ?_⟩
      refine t_yes ?_
      have fin : ∀ z : Int, z = (if p.1 = v then n else p.2) → ∀ t2, H' t2 = none → ∃ acc, (upd H' t2 (.tup [.int p.1, .int z])) D = some (.lst acc) ∧ acc.length < sizeLine ∧ ∃ zs, Ex H (upd (upd H' t2 (.tup [.int p.1, .int z])) D (.lst (acc ++ [.ref t2]))) ∧ (upd (upd H' t2 (.tup [.int p.1, .int z])) D (.lst (acc ++ [.ref t2]))) D = some (.lst zs) ∧ zs.length = i + 1 ∧ Prs (upd (upd H' t2 (.tup [.int p.1, .int z])) D (.lst (acc ++ [.ref t2]))) zs ((ps.take (i + 1)).map fun p => (p.1, if p.1 = v then n else p.2)) := by
        intro z hz t2 ht2
        have nDt : D ≠ t2 := ne_of_none eD ht2
        have eD' : (upd H' t2 (.tup [.int p.1, .int z])) D = some (.lst ys) := by rw [upd_ne nDt]; exact eD
        refine ⟨ys, eD', len63' (by omega), ys ++ [.ref t2], Ex.mu (ex.tr (Ex.nw ht2)) hD, upd_same, by rw [List.length_append, hyl]; rfl, ?_⟩
        rw [take_snoc h1, List.map_append]
        refine Prs.up (by intro bs y; rw [eD'] at y; cases y) ?_
        exact Prs.snoc (hys.ex (Ex.nw ht2)) ⟨t2, rfl, by rw [upd_same, hz]⟩
      refine ⟨_, rfl, ?_⟩
      refine ⟨_, rfl, _, rfl, rfl, _, rfl, iteVI (fun e => ?_) (fun e => ?_)⟩
      · exact ⟨_, rfl, len63 (by show 2 ≤ _; decide), fun t2 ht2 => fin _ (if_pos e).symm t2 ht2⟩
      · exact ⟨_, rfl, len63 (by show 2 ≤ _; decide), fun t2 ht2 => fin _ (if_neg e).symm t2 ht2⟩
    · rintro H' ⟨ys, ex, eD, hyl, hys⟩
      rw [List.take_of_length_le (by rw [hp.len]; exact Nat.le_refl _)] at hys
      exact q D ys H' ex hD eD hys
def spDeed (K : PySem.W.Frag) (cK cC cF cT cL cH : Addr) (n : Int) : Sp := fun vs H Q E => ∃ (a : Addr) (xs : List V) (ps : List (Int × Int)) (v c : Int), vs = (if n < 2 then [.ref a, .int v, .int c] else [.ref a, .int v]) ∧ H a = some (.lst xs) ∧ Prs H xs ps ∧ Tl ps ∧ OutK cK cC cF cT cL cH ps n v c H Q E
theorem ok_brought (T : Tx K mg) : FnOk P w K mg base (L2.CX P w) 2 T.a_brought T.d_brought P_brought (spDeed K T.c_NoKind T.c_NoCount T.c_TooFew T.c_Twice T.c_NoTill T.c_StillHeld 0) := by
  have G_count_of := ok_count_of (P := P) (w := w) (base := base) T
  have G_check_count := ok_check_count (P := P) (w := w) (base := base) T
  have G__with_count := ok_with_count (P := P) (w := w) (base := base) T
  refine T.f_brought.okX sc_brought (fun vs H Q E h => ?_) (fun cdv A outer s H vs Q E hr h => ?_)
  · obtain ⟨a, xs, ps, v, c, rfl, _⟩ := h
    rfl
  · obtain ⟨a, xs, ps, v, c, rfl, ha, hp, hT, q0, qk, qc, _⟩ := h
    refine ⟨_, (pss_cons (ps_set (i := 3) sc_brought.nd rfl (.inl rfl) (pe_call G_count_of (hr.mono (by decide)) (by rfl) T.g_count_of T.f_count_of.kp T.p_count_of .nil (passes_call (takes_of rfl rfl rfl rfl) fun _ _ _ _ h => h) (pa_cons (pv 0) (pa_cons (pv 1) pa_nil))))
    (pss_cons (ps_expr (pe_call G_check_count (hr.mono (by decide)) (by rfl) T.g_check_count T.f_check_count.kp T.p_check_count .nil (passes_call (takes_of rfl rfl rfl rfl) fun _ _ _ _ h => h) (pa_cons (pv 2) pa_nil)))
    (pss_cons (ps_expr (pe_call G_check_count (hr.mono (by decide)) (by rfl) T.g_check_count T.f_check_count.kp T.p_check_count .nil (passes_call (takes_of rfl rfl rfl rfl) fun _ _ _ _ h => h) (pa_cons (pe_op op_add (pv 3) (pv 2)) pa_nil)))
    (pss_one (ps_ret (pe_call G__with_count (hr.mono (by decide)) (by rfl) T.g__with_count T.f__with_count.kp T.p__with_count .nil pass0 (pa_cons (pv 0) (pa_cons (pv 1) (pa_cons (pe_op op_add (pv 3) (pv 2)) pa_nil))))))))), ?_⟩
    have hTl : Till K H a ps := ⟨xs, .of ha, hp⟩
    unfold dueK at q0 qk qc
    rw [if_pos (by decide)] at q0 qk qc
    refine ⟨_, rfl, _, rfl, a, ps, v, rfl, hTl, fun t ht => ?_, fun hn => ?_⟩
    · have hb := hT.there_nn ht
      rw [there_some ht, if_neg (by omega)] at q0 qk qc
      refine ⟨_, rfl, c, rfl, fun hc => ?_, fun hc => ?_⟩
      · refine ⟨_, rfl, _, rfl, _, _, rfl, rfl, t + c, rfl, fun hc2 => ?_, fun hc2 => ?_⟩
        · rw [if_neg (by omega), if_neg (by omega)] at q0
          refine ⟨_, rfl, _, rfl, _, rfl, _, rfl, _, _, rfl, rfl, a, ps, v, t + c, rfl, hTl, by have := hT.len; omega, fun p ys H2 ex hp2 ep hpr => ?_⟩
          refine q0 rfl p ys _ H2 ex hp2 ep hpr (.inl ⟨rfl, ?_⟩)
          rw [setC_eq hT.nd ht]
          congr 1
          omega
        · rw [if_pos (by omega)] at qc
          exact qc rfl _ Ex.rfl'
      · rw [if_pos (by omega)] at qc
        exact qc rfl _ Ex.rfl'
    · rw [there_none hn, if_pos (by decide)] at qk
      exact qk rfl _ Ex.rfl'
/-! ### a whole number -/
def spWhole : Sp := fun vs H Q _ => ∃ i : Int, vs = [.int i] ∧ Q (.bl true) H
theorem ok_whole (T : Tx K mg) : FnOk P w K mg base CX0 1 T.a__law_whole T.d__law_whole P__law_whole spWhole := by
  refine T.f__law_whole.ok sc__law_whole (fun vs H Q E h => ?_) (fun cdv A outer s H vs Q E hr h => ?_)
  · obtain ⟨i, rfl, _⟩ := h
    rfl
  · obtain ⟨i, rfl, q⟩ := h
    refine ⟨_, (pss_one (ps_ret (pe_and (pe_callB call_isi (by rfl) T.m_isinstance (by decide +kernel) (pa_cons (pv 0) (pa_cons (pe_bltn (v := .ty "int") (by rfl) T.m_int (by decide +kernel) rfl) pa_nil))) (pe_one (pe_not (pe_callB call_isi (by rfl) T.m_isinstance (by decide +kernel) (pa_cons (pv 0) (pa_cons (pe_bltn (v := .ty "bool") (by rfl) T.m_bool (by decide +kernel) rfl) pa_nil)))))))), ?_⟩
    refine ⟨_, rfl, _, _, _, _, true, rfl, .ty "int", .base (.int _), kit_ty (by decide +kernel), true, rfl, iteT ?_⟩
    exact ⟨_, rfl, _, _, _, _, false, rfl, .ty "bool", .base (.int _), kit_ty (by decide +kernel), false, rfl, q⟩
/-! ### a row, looked at -/
def spRow : Sp := fun vs H Q _ => ∃ (a : Addr) (r : List Cell) (n : Int), vs = [.ref a, .int n] ∧ H a = some (.lst (r.map vO)) ∧ (r.length : Int) = n ∧ Q (.bl true) H
theorem ok_row (T : Tx K mg) : FnOk P w K mg base CX0 2 T.a__law_row T.d__law_row P__law_row spRow := by
  have G__law_whole := ok_whole (P := P) (w := w) (base := base) T
  refine T.f__law_row.ok sc__law_row (fun vs H Q E h => ?_) (fun cdv A outer s H vs Q E hr h => ?_)
  · obtain ⟨a, r, n, rfl, _⟩ := h
    rfl
  · obtain ⟨a, r, n, rfl, ha, hn, q⟩ := h
    refine ⟨_, (pss_cons (ps_if (PW.pt (pw_or (pt_not (pt_val (pe_callB call_isi (by rfl) T.m_isinstance (by decide +kernel) (pa_cons (pv 0) (pa_cons (pe_bltn (v := .ty "list") (by rfl) T.m_list (by decide +kernel) rfl) pa_nil))))) (pw_or1 (pt_cmpR op_ne (pe_callB call_len_seq (by rfl) T.m_len (by decide +kernel) (pa_cons (pv 0) pa_nil)) (pv 1) (nomark _)))))
      (pss_one (ps_ret pe_bl))
      pss_nil)
    (pss_cons (ps_for PassesOwn.never rfl (pi_list (pv 0)) (pg_name (i := 2) sc__law_row.nd rfl (.inl rfl))
      (pss_one (ps_if (PW.pt (pw_and (pt_cmpR op_notN (pv 2) pe_non (nomark _)) (pw_and1 (pt_not (pt_val (pe_call G__law_whole (hr.mono (by decide)) (by rfl) T.g__law_whole T.f__law_whole.kp T.p__law_whole .nil pass0 (pa_cons (pv 2) pa_nil)))))))
        (pss_one (ps_ret pe_bl))
        pss_nil)))
    (pss_one (ps_ret pe_bl)))), ?_⟩
    subst hn
    refine ⟨_, rfl, _, _, _, _, true, rfl, .ty "list", .base (.lst ha), kit_ty (by decide +kernel), _, rfl, iteF ?_⟩
    refine ⟨_, rfl, a, _, rfl, .inl (.of ha), _, rfl, rfl, _, rfl, iteVN (fun z => absurd (by rw [List.length_map]) z) (fun _ => ?_)⟩
    refine ⟨_, rfl, a, rfl, ⟨_, .of ha⟩, for_list (xs := r.map vO) (fun i σ H' => ∃ y2, σ = [some (.ref a), some (.int (r.length : Int)), y2] ∧ H' = H) ⟨_, rfl, rfl⟩ (fun i σ H' _ h => by obtain ⟨_, _, rfl⟩ := h; exact .of ha) ?_ ?_⟩
    · rintro i x σ H' hx ⟨y2, rfl, rfl⟩
      rw [List.getElem?_map] at hx
      obtain ⟨c, _, rfl⟩ := Option.map_eq_some_iff.mp hx
      cases c with
      | none => exact ⟨_, rfl, rfl, _, rfl, iteDN (fun z => absurd rfl z) (fun _ => iteF ⟨_, rfl, rfl⟩)⟩
      | some j => exact ⟨_, rfl, rfl, _, rfl, iteDN (fun _ => ⟨_, rfl, j, rfl, true, rfl, iteF ⟨_, rfl, rfl⟩⟩) (fun z => nomatch z)⟩
    · rintro σ H' ⟨y2, rfl, rfl⟩
      exact q
/-! ### rows as data -/
def dO : Cell → PyData
  | none => .none
  | some i => .int i
def rowD (r : List Cell) : PyData := .list (r.map dO)
theorem cell_dp {K : PySem.W.Frag} {H : Hp} (c : Cell) : Dp K H (vO c) (dO c) := by
  cases c with
  | none => exact .non
  | some i => exact .int i
theorem cells_dp {K : PySem.W.Frag} {H : Hp} : ∀ r : List Cell, DpAll K H (r.map vO) (r.map dO)
  | [] => .nil
  | c :: r => .cons (cell_dp c) (cells_dp r)
theorem row_dp {K : PySem.W.Frag} {H : Hp} {a : Addr} {r : List Cell} (h : SqL K H a (r.map vO)) : Dp K H (.ref a) (rowD r) := .lst h (cells_dp r)
theorem canLay_cells : ∀ r : List Cell, PyData.canLayAll0 (r.map dO) = true
  | [] => rfl
  | c :: r => by
    rw [List.map_cons]
    show (PyData.canLay0 (dO c) && PyData.canLayAll0 (r.map dO)) = true
    rw [canLay_cells r]
    cases c <;> rfl
theorem depth_cells : ∀ r : List Cell, PyData.depthAll (r.map dO) ≤ 3
  | [] => by decide
  | c :: r => by
    have h := depth_cells r
    rw [List.map_cons]
    show max (PyData.depth (dO c)) (PyData.depthAll (r.map dO)) ≤ 3
    have : PyData.depth (dO c) ≤ 3 := by cases c <;> simp [dO, PyData.depth]
    omega
theorem shaped_row (r : List Cell) : SeqAt.shaped (rowD r) = true := by
  unfold SeqAt.shaped
  have h1 : PyData.canLay0 (rowD r) = true := canLay_cells r
  have h2 : PyData.depth (rowD r) ≤ 64 := by
    have := depth_cells r
    simp only [rowD, PyData.depth]
    omega
  rw [h1, decide_eq_true h2]
  rfl
def rowsD (rs : List (List Cell)) : PyData := .list (rs.map rowD)
theorem canLay_rows : ∀ rs : List (List Cell), PyData.canLayAll0 (rs.map rowD) = true
  | [] => rfl
  | r :: rs => by
    rw [List.map_cons]
    show (PyData.canLay0 (rowD r) && PyData.canLayAll0 (rs.map rowD)) = true
    rw [canLay_rows rs]
    rw [show PyData.canLay0 (rowD r) = true from canLay_cells r]
    rfl
theorem depth_rows : ∀ rs : List (List Cell), PyData.depthAll (rs.map rowD) ≤ 10
  | [] => by decide
  | r :: rs => by
    have h := depth_rows rs
    rw [List.map_cons]
    show max (PyData.depth (rowD r)) (PyData.depthAll (rs.map rowD)) ≤ 10
    have : PyData.depth (rowD r) ≤ 10 := by
      have := depth_cells r
      simp only [rowD, PyData.depth]
      omega
    omega
theorem shaped_rows (rs : List (List Cell)) : SeqAt.shaped (rowsD rs) = true := by
  unfold SeqAt.shaped
  have h1 : PyData.canLay0 (rowsD rs) = true := canLay_rows rs
  have h2 : PyData.depth (rowsD rs) ≤ 64 := by
    have := depth_rows rs
    simp only [rowsD, PyData.depth]
    omega
  rw [h1, decide_eq_true h2]
  rfl
theorem rows_dpAll {K : PySem.W.Frag} {H : Hp} : ∀ {as : List Addr} {rs : List (List Cell)}, RowsAt H as rs → DpAll K H (as.map V.ref) (rs.map rowD)
  | _, _, .nil => .nil
  | _, _, .cons h r => .cons (row_dp (.of h)) (rows_dpAll r)
theorem rows_dp {K : PySem.W.Frag} {H : Hp} {R : Addr} {as : List Addr} {rs : List (List Cell)} (h : SqL K H R (as.map V.ref)) (k : RowsAt H as rs) : Dp K H (.ref R) (rowsD rs) := .lst h (rows_dpAll k)
/-! ### a till and a purse, and what is due of their scales -/
structure Gen2 (ps us : List (Int × Int)) : Prop where
  rp : Rising ps
  ru : Rising us
  vp : ∀ p ∈ ps, 1 ≤ p.1 ∧ p.1 ≤ 5000 ∧ 0 ≤ p.2 ∧ p.2 ≤ 2000000
  vu : ∀ p ∈ us, 1 ≤ p.1 ∧ p.1 ≤ 5000 ∧ 0 ≤ p.2 ∧ p.2 ≤ 2000000
  lp : 1 ≤ ps.length ∧ ps.length ≤ 12
  lu : us.length ≤ 12
def lacks (ps us : List (Int × Int)) : Bool := us.any fun q => !decide (q.1 ∈ ps.map fun p => p.1)
def dueS (ps us : List (Int × Int)) : Str := if lacks ps us = true then "kind" else if worthP ps + worthP us > 1500 then "sum" else ""
theorem dueS_in (ps us : List (Int × Int)) : dueS ps us = "kind" ∨ dueS ps us = "sum" ∨ dueS ps us = "" := by
  unfold dueS
  split
  · exact .inl rfl
  · split
    · exact .inr (.inl rfl)
    · exact .inr (.inr rfl)
def lowOf (ps : List (Int × Int)) : Nat := (worthP ps).toNat
/-! ### the law's walk over the scales -/
/-! ### what is in the purse of a kind -/
def ownOf (us : List (Int × Int)) (v : Int) : Int := (countIn us v).getD 0
theorem ownOf_cons (u : Int × Int) (us : List (Int × Int)) (v : Int) : ownOf (u :: us) v = if u.1 = v then u.2 else ownOf us v := by
  unfold ownOf
  rw [countIn_cons]
  split <;> rfl
def spOwn (K : PySem.W.Frag) : Sp := fun vs H Q _ => ∃ (a : Addr) (us : List (Int × Int)) (v : Int), vs = [.ref a, .int v] ∧ Till K H a us ∧ Q (.int (ownOf us v)) H
theorem ok_own (T : Tx K mg) : FnOk P w K mg base CX0 1 T.a__law_own T.d__law_own P__law_own (spOwn K) := by
  refine T.f__law_own.ok sc__law_own (fun vs H Q E h => ?_) (fun cdv A outer s H vs Q E hr h => ?_)
  · obtain ⟨a, us, v, rfl, _⟩ := h
    rfl
  · obtain ⟨a, us, v, rfl, ⟨xs, hS, hp⟩, q⟩ := h
    refine ⟨_, (pss_cons (ps_for PassesOwn.never rfl (pi_list (pv 0)) (pg_name (i := 2) sc__law_own.nd rfl (.inl rfl))
      (pss_one (ps_if (pt_cmpR op_eq (pe_ix ix_tup (pv 2) pe_int (fun _ _ => rfl)) (pv 1) (nomark _))
        (pss_one (ps_ret (pe_ix ix_tup (pv 2) pe_int (fun _ _ => rfl))))
        pss_nil)))
    (pss_one (ps_ret pe_int))), ?_⟩
    unfold ownOf at q
    refine ⟨_, rfl, a, rfl, ⟨xs, hS⟩, for_list (xs := xs) (fun i σ H' => ∃ y2, σ = [some (.ref a), some (.int v), y2] ∧ H' = H ∧ countIn us v = countIn (us.drop i) v) ⟨_, rfl, rfl, rfl⟩ (fun i σ H' _ h => by obtain ⟨_, _, rfl, _⟩ := h; exact hS) ?_ ?_⟩
    · rintro i x σ H' hx ⟨y2, rfl, rfl, hc⟩
      obtain ⟨p, t, h1, rfl, h3⟩ := Prs.get hp hx
      rw [drop_at h1, countIn_cons] at hc
      refine ⟨_, rfl, t, _, 0, .int p.1, rfl, rfl, .of h3, rfl, _, rfl, rfl, _, rfl, iteVI (fun e => ?_) (fun e => ?_)⟩
      · rw [if_pos e] at hc
        rw [hc] at q
        exact ⟨_, rfl, t, _, 1, .int p.2, rfl, rfl, .of h3, rfl, q⟩
      · rw [if_neg e] at hc
        exact ⟨_, rfl, rfl, hc⟩
    · rintro σ H' ⟨y2, rfl, rfl, hc⟩
      rw [List.drop_of_length_le (by rw [hp.len]; exact Nat.le_refl _)] at hc
      rw [hc] at q
      exact q
/-- the kinds of a till and a purse -/
def kindsOf (ps us : List (Int × Int)) : List Kd := ps.map fun p => (p.1, p.2, ownOf us p.1)
theorem kindsOf_len (ps us : List (Int × Int)) : (kindsOf ps us).length = ps.length := List.length_map _
theorem kindsOf_at {ps us : List (Int × Int)} {k : Nat} {p : Int × Int} (h : ps[k]? = some p) : (kindsOf ps us)[k]? = some (p.1, p.2, ownOf us p.1) := by
  unfold kindsOf
  rw [List.getElem?_map, h]
  rfl
def spTotal (K : PySem.W.Frag) : Sp := fun vs H Q _ => ∃ (a : Addr) (us : List (Int × Int)), vs = [.ref a] ∧ Till K H a us ∧ (∀ p ∈ us, 0 ≤ p.1 ∧ p.1 ≤ 1000000000) ∧ Q (.int (worthP us)) H
theorem ok_total (T : Tx K mg) : FnOk P w K mg base CX0 1 T.a__law_total T.d__law_total P__law_total (spTotal K) := by
  refine T.f__law_total.ok sc__law_total (fun vs H Q E h => ?_) (fun cdv A outer s H vs Q E hr h => ?_)
  · obtain ⟨a, us, rfl, _⟩ := h
    rfl
  · obtain ⟨a, us, rfl, ⟨xs, hS, hp⟩, hv, q⟩ := h
    refine ⟨_, (pss_cons (ps_set (i := 1) sc__law_total.nd rfl (.inl rfl) pe_int)
    (pss_cons (ps_for PassesOwn.never rfl (pi_list (pv 0)) (pg_name (i := 2) sc__law_total.nd rfl (.inl rfl))
      (pss_one (ps_set (i := 1) sc__law_total.nd rfl (.inl rfl) (pe_op op_add (pv 1) (pe_op op_mul (pe_ix ix_tup (pv 2) pe_int (fun _ _ => rfl)) (pe_ix ix_tup (pv 2) pe_int (fun _ _ => rfl)))))))
    (pss_one (ps_ret (pv 1))))), ?_⟩
    refine ⟨_, rfl, a, rfl, ⟨xs, hS⟩, for_list (xs := xs) (fun i σ H' => ∃ y2, σ = [some (.ref a), some (.int (worthP (us.take i))), y2] ∧ H' = H) ⟨_, rfl, rfl⟩ (fun i σ H' _ h => by obtain ⟨_, _, rfl⟩ := h; exact hS) ?_ ?_⟩
    · rintro i x σ H' hx ⟨y2, rfl, rfl⟩
      obtain ⟨p, t, h1, rfl, h3⟩ := Prs.get hp hx
      have hpv := hv p (List.mem_of_getElem? h1)
      refine ⟨_, rfl, _, rfl, t, _, 0, .int p.1, rfl, rfl, .of h3, rfl, _, rfl, t, _, 1, .int p.2, rfl, rfl, .of h3, rfl, _, _, rfl, rfl, .inl ⟨by omega, by omega⟩, _, _, rfl, rfl, some (.ref t), ?_, rfl⟩
      rw [take_snoc h1, worthP_app]
      show [_, some (V.int (worthP (us.take i) + p.1 * p.2)), _] = [_, some (V.int (worthP (us.take i) + (p.1 * p.2 + 0))), _]
      rw [Int.add_zero]
    · rintro σ H' ⟨y2, rfl, rfl⟩
      rw [List.take_of_length_le (by rw [hp.len]; exact Nat.le_refl _)]
      exact ⟨_, rfl, q⟩
def spLightest (K : PySem.W.Frag) : Sp := fun vs H Q _ => ∃ (a t : Addr) (r : List Cell) (d v c o : Nat), vs = [.ref a, .int (d : Int), .ref t, .int (o : Int)] ∧ Row K H a r ∧ H t = some (.tup [.int (v : Int), .int (c : Int)]) ∧ r.length ≤ 100000 ∧ d ≤ 100000 ∧ v ≤ 100000 ∧ c ≤ 100000 ∧ o ≤ 100000 ∧ Q (vO (litF r v c o (d : Int))) H
theorem ok_lightest (T : Tx K mg) : FnOk P w K mg base CX0 1 T.a__law_lightest T.d__law_lightest P__law_lightest (spLightest K) := by
  refine T.f__law_lightest.ok sc__law_lightest (fun vs H Q E h => ?_) (fun cdv A outer s H vs Q E hr h => ?_)
  · obtain ⟨a, t, r, d, v, c, o, rfl, _⟩ := h
    rfl
  · obtain ⟨a, t, r, d, v, c, o, rfl, hS, ht, hl, hd, hv, hc, ho, q⟩ := h
    refine ⟨_, (pss_cons (ps_set (i := 4) sc__law_lightest.nd rfl (.inl rfl) pe_non)
    (pss_cons (ps_for PassesOwn.never rfl (pi_range2 (by rfl) T.m_range (pa_cons (pe_op op_sub pe_int (pe_ix ix_tup (pv 2) pe_int (fun _ _ => rfl))) (pa_cons (pe_op op_add (pv 3) pe_int) pa_nil))) (pg_name (i := 5) sc__law_lightest.nd rfl (.inl rfl))
      (pss_cons (ps_set (i := 6) sc__law_lightest.nd rfl (.inl rfl) (pe_op op_sub (pv 1) (pe_op op_mul (pv 5) (pe_ix ix_tup (pv 2) pe_int (fun _ _ => rfl)))))
      (pss_one (ps_if (PW.pt (pw_and (pt_cmpR op_le pe_int (pv 6) (nomark _)) (pw_and (pt_cmpR op_lt (pv 6) (pe_callB call_len_seq (by rfl) T.m_len (by decide +kernel) (pa_cons (pv 0) pa_nil)) (nomark _)) (pw_and1 (pt_cmpR op_notN (pe_ix ix_list (pv 0) (pv 6) (fun _ _ => rfl)) pe_non (nomark _))))))
        (pss_cons (ps_set (i := 7) sc__law_lightest.nd rfl (.inl rfl) (pe_op op_add (pe_ix ix_list (pv 0) (pv 6) (fun _ _ => rfl)) (pe_callB call_abs (by rfl) T.m_abs (by decide +kernel) (pa_cons (pv 5) pa_nil))))
        (pss_one (ps_if (PW.pt (pw_or (pt_cmpR op_isN (pv 4) pe_non (nomark _)) (pw_or1 (pt_cmpR op_lt (pv 7) (pv 4) (nomark _)))))
          (pss_one (ps_set (i := 4) sc__law_lightest.nd rfl (.inl rfl) (pv 7)))
          pss_nil)))
        pss_nil))))
    (pss_one (ps_ret (pv 4))))), ?_⟩
    have hS' : SqL K H a (r.map vO) := hS
    refine ⟨_, rfl, t, _, 1, .int (c : Int), rfl, rfl, .of ht, rfl, _, _, rfl, rfl, _, rfl, _, _, rfl, rfl, _, _, rfl, ⟨by omega, by omega, by omega, by omega⟩, ?_⟩
    refine for_range (fun i σ H' => ∃ y5 y6 y7, σ = [some (.ref a), some (.int (d : Int)), some (.ref t), some (.int (o : Int)), some (vO (litUp r v c (d : Int) i)), y5, y6, y7] ∧ H' = H) ⟨_, _, _, rfl, rfl⟩ ?_ ?_
    · rintro i σ H' hi ⟨y5, y6, y7, rfl, rfl⟩
      have ej : (0 : Int) - (c : Int) + (i : Int) = -(c : Int) + i := by omega
      rw [ej]
      generalize hj : -(c : Int) + (i : Int) = j
      have hup : litUp r v c (d : Int) (i + 1) = bund (litUp r v c (d : Int) i) (cellAt r ((d : Int) - j * v)) (j.natAbs : Int) := by
        rw [← hj]
        rfl
      refine ⟨_, rfl, _, rfl, _, rfl, t, _, 0, .int (v : Int), rfl, rfl, .of ht, rfl, _, _, rfl, rfl, .inr ⟨by omega, by omega⟩, _, _, rfl, rfl, ?_⟩
      have hab : (if j < 0 then -j else j) = (j.natAbs : Int) := by split <;> omega
      have none_of : cellAt r ((d : Int) - j * (v : Int)) = none → litUp r v c (d : Int) (i + 1) = litUp r v c (d : Int) i := fun e => by
        rw [hup, e]
        rfl
      have keep : litUp r v c (d : Int) (i + 1) = litUp r v c (d : Int) i → ∀ y7 : Option V, ∃ y5 y6 y7', [some (V.ref a), some (.int (d : Int)), some (.ref t), some (.int (o : Int)), some (vO (litUp r v c (d : Int) i)), some (.int j), some (.int ((d : Int) - j * (v : Int))), y7] = [some (.ref a), some (.int (d : Int)), some (.ref t), some (.int (o : Int)), some (vO (litUp r v c (d : Int) (i + 1))), y5, y6, y7'] ∧ H' = H' := fun e y7 => ⟨_, _, _, by rw [e], rfl⟩
      refine ⟨_, rfl, _, _, rfl, rfl, _, rfl, iteD (fun z0 => ?_) (fun z0 => iteF (keep (none_of (if_neg fun y => z0 y.1)) _))⟩
      refine ⟨_, rfl, _, rfl, a, _, rfl, .inl hS', _, _, rfl, rfl, _, rfl, iteD (fun z1 => ?_) (fun z1 => iteF (keep (none_of (if_neg fun y => z1 (by rw [List.length_map]; exact y.2))) _))⟩
      have z1' : ((d : Int) - j * (v : Int)) < (r.length : Int) := by
        have y : ((d : Int) - j * (v : Int)) < ((r.map vO).length : Int) := z1
        rw [List.length_map] at y
        exact y
      have z0' : 0 ≤ ((d : Int) - j * (v : Int)) := z0
      have hcz : cellAt r ((d : Int) - j * (v : Int)) = rAt r ((d : Int) - j * (v : Int)).toNat := if_pos ⟨z0', z1'⟩
      have a1 : atI (r.map vO) ((d : Int) - j * (v : Int)) = some (vO (cellAt r ((d : Int) - j * (v : Int)))) := at_of (j := ((d : Int) - j * (v : Int)).toNat) (by omega) (by rw [hcz]; exact vO_at (by omega))
      cases hx : cellAt r ((d : Int) - j * (v : Int)) with
      | none =>
        rw [hx] at a1
        exact ⟨_, rfl, _, rfl, a, _, _, _, rfl, rfl, hS', a1, rfl, _, rfl, iteDN (fun y => absurd rfl y) (fun _ => keep (none_of hx) _)⟩
      | some x =>
        rw [hx] at a1 hup
        refine ⟨_, rfl, _, rfl, a, _, _, _, rfl, rfl, hS', a1, rfl, _, rfl, iteDN (fun _ => ?_) (fun y => nomatch y)⟩
        refine ⟨_, rfl, _, rfl, a, _, _, _, rfl, rfl, hS', a1, _, rfl, ?_⟩
        refine ⟨_, rfl, _, _, rfl, rfl, ?_⟩
        cases hy : litUp r v c (d : Int) i with
        | none =>
          rw [hy] at hup
          refine ⟨_, rfl, rfl, _, rfl, iteD (fun _ => iteT ?_) (fun y => absurd rfl y)⟩
          refine ⟨_, rfl, some (.int j), some (.int ((d : Int) - j * (v : Int))), some (.int (x + (if j < 0 then -j else j))), ?_, rfl⟩
          rw [hup, show bund none (some x) (j.natAbs : Int) = some (x + (if j < 0 then -j else j)) by rw [hab]; rfl]
          rfl
        | some y =>
          rw [hy] at hup
          refine ⟨_, rfl, rfl, _, rfl, iteD (fun e => nomatch e) (fun _ => ?_)⟩
          refine ⟨_, rfl, _, rfl, _, _, rfl, rfl, _, rfl, iteD (fun e => ?_) (fun e => ?_)⟩
          · refine ⟨_, rfl, some (.int j), some (.int ((d : Int) - j * (v : Int))), some (.int (x + (if j < 0 then -j else j))), ?_, rfl⟩
            rw [hup, show bund (some y) (some x) (j.natAbs : Int) = some (x + (if j < 0 then -j else j)) by
              have e' : x + (if j < 0 then -j else j) < y := e
              rw [hab] at e' ⊢
              exact if_pos e']
            rfl
          · refine ⟨some (.int j), some (.int ((d : Int) - j * (v : Int))), some (.int (x + (if j < 0 then -j else j))), ?_, rfl⟩
            rw [hup, show bund (some y) (some x) (j.natAbs : Int) = some y by
              have e' : ¬ x + (if j < 0 then -j else j) < y := e
              rw [hab] at e'
              exact if_neg e']
            rfl
    · rintro σ H' ⟨y5, y6, y7, rfl, rfl⟩
      refine ⟨_, rfl, ?_⟩
      rw [show (((o : Int) + 1) - (0 - (c : Int))).toNat = c + o + 1 by omega]
      exact q
/-! ### what fits -/
theorem scl0 (low high : Nat) : (List.replicate low [V.non]).flatten ++ [V.int 0] ++ (List.replicate high [V.non]).flatten = (row0L low high).map vO := by
  have h : ∀ n, (List.replicate n [V.non]).flatten = (List.replicate n (none : Cell)).map vO := by
    intro n
    induction n with
    | zero => rfl
    | succ n ih =>
      rw [List.replicate_succ, List.replicate_succ, List.flatten_cons, List.map_cons, ih]
      rfl
  rw [h, h]
  unfold row0L
  rw [List.map_append, List.append_assoc]
  rfl
/-- small enough to be told -/
def Fits (us : List (Int × Int)) : Prop := us.length ≤ 1000 ∧ ∀ p ∈ us, 0 ≤ p.1 ∧ p.1 ≤ 100000 ∧ 0 ≤ p.2 ∧ p.2 ≤ 100000
theorem worthP_nn {us : List (Int × Int)} (h : ∀ p ∈ us, 0 ≤ p.1 ∧ 0 ≤ p.2) : 0 ≤ worthP us := by
  unfold worthP
  induction us with
  | nil => exact Int.le_refl _
  | cons p us ih =>
    rw [List.map_cons, List.sum_cons]
    have h1 := ih fun q hq => h q (List.mem_cons_of_mem _ hq)
    have h2 := h p List.mem_cons_self
    have h3 : 0 ≤ p.1 * p.2 := Int.mul_nonneg h2.1 h2.2
    omega
theorem worthP_ge {us : List (Int × Int)} (h : ∀ p ∈ us, 0 ≤ p.1 ∧ 0 ≤ p.2) {p : Int × Int} (hp : p ∈ us) : p.1 * p.2 ≤ worthP us := by
  induction us with
  | nil => cases hp
  | cons q us ih =>
    have h1 := worthP_nn fun r hr => h r (List.mem_cons_of_mem _ hr)
    have h2 := h q List.mem_cons_self
    have h3 : 0 ≤ q.1 * q.2 := Int.mul_nonneg h2.1 h2.2
    show _ ≤ (List.map (fun p : Int × Int => p.1 * p.2) (q :: us)).sum
    rw [List.map_cons, List.sum_cons]
    rcases List.mem_cons.mp hp with e | e
    · rw [e]
      unfold worthP at h1
      omega
    · have := ih (fun r hr => h r (List.mem_cons_of_mem _ hr)) e
      unfold worthP at this
      omega
theorem le_mul_of {a b : Int} (ha : 1 ≤ a) (hb : 0 ≤ b) : b ≤ a * b := by
  have : 1 * b ≤ a * b := Int.mul_le_mul_of_nonneg_right ha hb
  rw [Int.one_mul] at this
  exact this
theorem ownOf_in {us : List (Int × Int)} (h : Fits us) (v : Int) : 0 ≤ ownOf us v ∧ ownOf us v ≤ 100000 := by
  unfold ownOf
  cases e : countIn us v with
  | none => exact ⟨Int.le_refl _, by decide⟩
  | some c =>
    have := h.2 _ (countIn_mem e)
    exact ⟨this.2.2.1, this.2.2.2⟩
def scalesOf (ps us : List (Int × Int)) : List (List Cell) := rowsL (row0L (lowOf ps) (lowOf us)) (kindsOf ps us)
def twoD (ps us : List (Int × Int)) : PyData := .list [.list (ps.map dP), .list (us.map dP)]
theorem shaped_two (ps us : List (Int × Int)) : SeqAt.shaped (twoD ps us) = true := by
  unfold SeqAt.shaped
  have h1 : PyData.canLay0 (twoD ps us) = true := by
    show (PyData.canLayAll0 (ps.map dP) && (PyData.canLayAll0 (us.map dP) && true)) = true
    rw [canLay_dPs, canLay_dPs]
    rfl
  have h2 : PyData.depth (twoD ps us) ≤ 64 := by
    have a := depth_dPs ps
    have b := depth_dPs us
    simp only [twoD, PyData.depth, PyData.depthAll]
    omega
  rw [h1, decide_eq_true h2]
  rfl
def spScaled (K : PySem.W.Frag) : Sp := fun vs H Q _ => ∃ (R t u : Addr) (as : List Addr) (ps us : List (Int × Int)), vs = [.ref R, .ref t, .ref u] ∧ H R = some (.lst (as.map V.ref)) ∧ RowsAt H as (scalesOf ps us) ∧ Till K H t ps ∧ Till K H u us ∧ Fits ps ∧ Fits us ∧ worthP ps + worthP us ≤ 10000 ∧ Ret (.bl true) H Q
theorem ok_scaled (T : Tx K mg) : FnOk P w K mg base CX0 3 T.a__law_scaled T.d__law_scaled P__law_scaled (spScaled K) := by
  have G__law_total := ok_total (P := P) (w := w) (base := base) T
  have G__law_row := ok_row (P := P) (w := w) (base := base) T
  have G__law_own := ok_own (P := P) (w := w) (base := base) T
  have G__law_lightest := ok_lightest (P := P) (w := w) (base := base) T
  refine T.f__law_scaled.ok sc__law_scaled (fun vs H Q E h => ?_) (fun cdv A outer s H vs Q E hr h => ?_)
  · obtain ⟨R, t, u, as, ps, us, rfl, _⟩ := h
    rfl
  · obtain ⟨R, t, u, as, ps, us, rfl, eR, hrows, ⟨xs, hS, hp⟩, hU, hfp, hfu, hw, q⟩ := h
    refine ⟨_, (pss_cons (ps_set (i := 3) sc__law_scaled.nd rfl (.inl rfl) (pe_call G__law_total (hr.mono (by decide)) (by rfl) T.g__law_total T.f__law_total.kp T.p__law_total .nil pass0 (pa_cons (pv 1) pa_nil)))
    (pss_cons (ps_set (i := 4) sc__law_scaled.nd rfl (.inl rfl) (pe_op op_add (pe_op op_add (pv 3) (pe_call G__law_total (hr.mono (by decide)) (by rfl) T.g__law_total T.f__law_total.kp T.p__law_total .nil pass0 (pa_cons (pv 2) pa_nil))) pe_int))
    (pss_cons (ps_if (PW.pt (pw_or (pt_not (pt_val (pe_callB call_isi (by rfl) T.m_isinstance (by decide +kernel) (pa_cons (pv 0) (pa_cons (pe_bltn (v := .ty "list") (by rfl) T.m_list (by decide +kernel) rfl) pa_nil))))) (pw_or (pt_cmpR op_ne (pe_callB call_len_seq (by rfl) T.m_len (by decide +kernel) (pa_cons (pv 0) pa_nil)) (pe_op op_add (pe_callB call_len_seq (by rfl) T.m_len (by decide +kernel) (pa_cons (pv 1) pa_nil)) pe_int) (nomark _)) (pw_or1 (pt_not (pt_val (pe_call G__law_row (hr.mono (by decide)) (by rfl) T.g__law_row T.f__law_row.kp T.p__law_row .nil pass0 (pa_cons (pe_ix ix_list (pv 0) pe_int (fun _ _ => rfl)) (pa_cons (pv 4) pa_nil)))))))))
      (pss_one (ps_ret pe_bl))
      pss_nil)
    (pss_cons (ps_if (pt_cmpR (op_neD hr.units) (pe_ix ix_list (pv 0) pe_int (fun _ _ => rfl)) (pe_op op_cat (pe_op op_cat (pe_op op_rep (pe_lst (pa_cons pe_non pa_nil)) (pv 3)) (pe_lst (pa_cons pe_int pa_nil))) (pe_op op_rep (pe_lst (pa_cons pe_non pa_nil)) (pe_op op_sub (pe_op op_sub (pv 4) (pv 3)) pe_int))) (nomark _))
      (pss_one (ps_ret pe_bl))
      pss_nil)
    (pss_cons (ps_for PassesOwn.never rfl (pi_range1 (by rfl) T.m_range (pa_cons (pe_callB call_len_seq (by rfl) T.m_len (by decide +kernel) (pa_cons (pv 1) pa_nil)) pa_nil)) (pg_name (i := 5) sc__law_scaled.nd rfl (.inl rfl))
      (pss_cons (ps_if (pt_not (pt_val (pe_call G__law_row (hr.mono (by decide)) (by rfl) T.g__law_row T.f__law_row.kp T.p__law_row .nil pass0 (pa_cons (pe_ix ix_list (pv 0) (pe_op op_add (pv 5) pe_int) (fun _ _ => rfl)) (pa_cons (pv 4) pa_nil)))))
        (pss_one (ps_ret pe_bl))
        pss_nil)
      (pss_cons (ps_set (i := 6) sc__law_scaled.nd rfl (.inl rfl) (pe_call G__law_own (hr.mono (by decide)) (by rfl) T.g__law_own T.f__law_own.kp T.p__law_own .nil pass0 (pa_cons (pv 2) (pa_cons (pe_ix ix_tup (pe_ix ix_list (pv 1) (pv 5) (fun _ _ => rfl)) pe_int (fun _ _ => rfl)) pa_nil))))
      (pss_one (ps_for PassesOwn.never rfl (pi_range1 (by rfl) T.m_range (pa_cons (pv 4) pa_nil)) (pg_name (i := 7) sc__law_scaled.nd rfl (.inl rfl))
        (pss_one (ps_if (pt_cmpR op_ne (pe_ix ix_list (pe_ix ix_list (pv 0) (pe_op op_add (pv 5) pe_int) (fun _ _ => rfl)) (pv 7) (fun _ _ => rfl)) (pe_call G__law_lightest (hr.mono (by decide)) (by rfl) T.g__law_lightest T.f__law_lightest.kp T.p__law_lightest .nil pass0 (pa_cons (pe_ix ix_list (pv 0) (pv 5) (fun _ _ => rfl)) (pa_cons (pv 7) (pa_cons (pe_ix ix_list (pv 1) (pv 5) (fun _ _ => rfl)) (pa_cons (pv 6) pa_nil))))) (nomark _))
          (pss_one (ps_ret pe_bl))
          pss_nil)))))))
    (pss_one (ps_ret pe_bl))))))), ?_⟩
    have hpl := hp.len
    have hl0 : worthP ps = (lowOf ps : Int) := (Int.toNat_of_nonneg (worthP_nn fun p hp => ⟨(hfp.2 p hp).1, (hfp.2 p hp).2.2.1⟩)).symm
    have hh0 : worthP us = (lowOf us : Int) := (Int.toNat_of_nonneg (worthP_nn fun p hp => ⟨(hfu.2 p hp).1, (hfu.2 p hp).2.2.1⟩)).symm
    have hal : (as.map V.ref).length = ps.length + 1 := by
      rw [List.length_map, hrows.len]
      show (rowsL _ _).length = _
      rw [rowsL_len, kindsOf_len]
    obtain ⟨a0, i0, _, ea0⟩ := at_row hrows (i := 0) (k := 0) rfl (rowsL_at _ _ (Nat.zero_le _))
    have ea0' : H a0 = some (.lst ((row0L (lowOf ps) (lowOf us)).map vO)) := ea0
    generalize hlo : lowOf ps = low at hl0 ea0'
    generalize hhi : lowOf us = high at hh0 ea0'
    have hrl : (row0L low high).length = low + high + 1 := row0L_len ..
    refine ⟨_, rfl, t, ps, rfl, ⟨xs, hS, hp⟩, fun p hp => by have := hfp.2 p hp; omega, ?_⟩
    rw [hl0]
    refine ⟨_, rfl, _, rfl, u, us, rfl, hU, fun p hp => by have := hfu.2 p hp; omega, ?_⟩
    rw [hh0]
    refine ⟨_, _, rfl, rfl, _, _, rfl, rfl, ?_⟩
    refine ⟨_, rfl, _, _, _, _, true, rfl, .ty "list", .base (.lst eR), kit_ty (by decide +kernel), _, rfl, iteF ?_⟩
    refine ⟨_, rfl, R, _, rfl, .inl (.of eR), _, rfl, t, xs, rfl, .inl hS, _, _, rfl, rfl, rfl, _, rfl, iteVN (fun z => absurd (by rw [hal, hpl]; rfl) z) (fun _ => ?_)⟩
    refine ⟨_, rfl, R, _, _, .ref a0, rfl, rfl, .of eR, i0, _, rfl, a0, row0L low high, _, rfl, ea0', by rw [hrl]; rfl, true, rfl, iteF ?_⟩
    -- the row of no kinds
    refine ⟨_, rfl, R, _, _, .ref a0, rfl, rfl, .of eR, i0, ?_⟩
    refine ⟨len63 (by show 1 ≤ _; decide), fun l1 hl1 => ?_⟩
    (generalize hh : upd H l1 _ = H1; have e1 : Ex H H1 := (by rw [← hh]; exact Ex.nw hl1); have c1 := (show H1 l1 = some _ by rw [← hh]; exact upd_same); clear hh)
    refine ⟨_, rfl, l1, _, _, rfl, rfl, c1, by omega, by omega, len63 (by rw [Int.toNat_natCast]; show 1 * low ≤ _; omega), fun l2 hl2 => ?_⟩
    rw [Int.toNat_natCast]
    (generalize hh : upd H1 l2 _ = H2; have e2 : Ex H1 H2 := (by rw [← hh]; exact Ex.nw hl2); have c2 := (show H2 l2 = some _ by rw [← hh]; exact upd_same); clear hh)
    refine ⟨len63 (by show 1 ≤ _; decide), fun l3 hl3 => ?_⟩
    (generalize hh : upd H2 l3 _ = H3; have e3 : Ex H2 H3 := (by rw [← hh]; exact Ex.nw hl3); have c3 := (show H3 l3 = some _ by rw [← hh]; exact upd_same); clear hh)
    refine ⟨l2, l3, _, _, rfl, rfl, e3 _ _ c2, c3, len63 (by simp; omega), fun l4 hl4 => ?_⟩
    (generalize hh : upd H3 l4 _ = H4; have e4 : Ex H3 H4 := (by rw [← hh]; exact Ex.nw hl4); have c4 := (show H4 l4 = some _ by rw [← hh]; exact upd_same); clear hh)
    refine ⟨len63 (by show 1 ≤ _; decide), fun l5 hl5 => ?_⟩
    (generalize hh : upd H4 l5 _ = H5; have e5 : Ex H4 H5 := (by rw [← hh]; exact Ex.nw hl5); have c5 := (show H5 l5 = some _ by rw [← hh]; exact upd_same); clear hh)
    have hsz : ((low : Int) + (high : Int) + 1 - (low : Int) - 1).toNat = high := by omega
    refine ⟨_, rfl, _, rfl, _, _, rfl, rfl, _, _, rfl, rfl, l5, _, _, rfl, rfl, c5, by omega, by omega, len63 (by rw [hsz]; show 1 * high ≤ _; omega), fun l6 hl6 => ?_⟩
    rw [hsz]
    (generalize hh : upd H5 l6 _ = H6; have e6 : Ex H5 H6 := (by rw [← hh]; exact Ex.nw hl6); have c6 := (show H6 l6 = some _ by rw [← hh]; exact upd_same); clear hh)
    refine ⟨l4, l6, _, _, rfl, rfl, e6 _ _ (e5 _ _ c4), c6, len63 (by simp; omega), fun l7 hl7 => ?_⟩
    rw [scl0]
    (generalize hh : upd H6 l7 _ = H7; have e7 : Ex H6 H7 := (by rw [← hh]; exact Ex.nw hl7); have c7 := (show H7 l7 = some _ by rw [← hh]; exact upd_same); clear hh)
    have ex7 : Ex H H7 := (((((e1.tr e2).tr e3).tr e4).tr e5).tr e6).tr e7
    refine ⟨_, _, row_dp (K := K) (.of (ex7 _ _ ea0')), row_dp (K := K) (.of c7), shaped_row _, shaped_row _, ?_⟩
    rw [eqv_of_shaped (shaped_row _)]
    refine ⟨_, rfl, iteF ?_⟩
    have eR7 := ex7 _ _ eR
    have hrows7 := hrows.ex ex7
    have hS7 := ex7.seq hS
    have hp7 := hp.ex ex7
    have hU7 := hU.ex ex7
    have hll : ∀ j, (lastL (row0L low high) ((kindsOf ps us).take j)).length = low + high + 1 := fun j => by rw [lastL_len, hrl]
    unfold scalesOf at hrows7
    rw [hlo, hhi] at hrows7
    refine ⟨_, rfl, t, xs, rfl, .inl hS7, _, rfl, by have := hfp.1; omega, by have := hfp.1; omega, ?_⟩
    refine for_range (fun i σ H' => ∃ y5 y6 y7, σ = [some (.ref R), some (.ref t), some (.ref u), some (.int (low : Int)), some (.int ((low : Int) + (high : Int) + 1)), y5, y6, y7] ∧ H' = H7) ⟨_, _, _, rfl, rfl⟩ ?_ ?_
    · rintro k σ H' hk ⟨y5, y6, y7, rfl, rfl⟩
      have hk' : k < ps.length := by omega
      obtain ⟨b, ib, _, eb⟩ := at_row hrows7 (i := 0 + (k : Int) + 1) (k := k + 1) (by omega) (rowsL_at _ _ (by rw [kindsOf_len]; omega))
      obtain ⟨a, ia, _, ea⟩ := at_row hrows7 (i := 0 + (k : Int)) (k := k) (by omega) (rowsL_at _ _ (by rw [kindsOf_len]; omega))
      have hpk := List.getElem?_eq_getElem hk'
      obtain ⟨t2, hx0, h3⟩ := Prs.getL hp7 hpk
      have hpv := hfp.2 _ (List.getElem_mem hk')
      generalize ps[k] = p at hpk h3 hpv
      have hx : atI xs (0 + (k : Int)) = some (.ref t2) := at_of (Int.zero_add _) hx0
      have hkk := kindsOf_at (us := us) hpk
      have hown := ownOf_in hfu p.1
      obtain ⟨v, hv0⟩ : ∃ v : Nat, p.1 = (v : Int) := ⟨p.1.toNat, (Int.toNat_of_nonneg (by omega)).symm⟩
      obtain ⟨c, hc0⟩ : ∃ c : Nat, p.2 = (c : Int) := ⟨p.2.toNat, (Int.toNat_of_nonneg (by omega)).symm⟩
      obtain ⟨o, ho0⟩ : ∃ o : Nat, ownOf us p.1 = (o : Int) := ⟨(ownOf us p.1).toNat, (Int.toNat_of_nonneg (by omega)).symm⟩
      have hstep : lastL (row0L low high) ((kindsOf ps us).take (k + 1)) = nextLit (lastL (row0L low high) ((kindsOf ps us).take k)) v c o := by
        rw [take_snoc hkk, lastL_snoc]
        show nextLit _ p.1.toNat p.2.toNat (ownOf us p.1).toNat = _
        rw [show p.1.toNat = v by omega, show p.2.toNat = c by omega, show (ownOf us p.1).toNat = o by omega]
      rw [hv0, hc0] at h3
      refine ⟨_, rfl, _, rfl, _, _, rfl, rfl, R, _, _, _, rfl, rfl, .of eR7, ib, _, rfl, b, _, _, rfl, eb, by rw [hll]; rfl, true, rfl, iteF ?_⟩
      refine ⟨_, rfl, _, rfl, _, rfl, t, xs, _, _, rfl, rfl, hS7, hx, t2, _, 0, .int (v : Int), rfl, rfl, .of h3, rfl, u, us, (v : Int), rfl, hU7, ?_⟩
      rw [← hv0, ho0]
      refine ⟨_, rfl, _, rfl, by omega, by omega, ?_⟩
      refine for_range (fun i σ H9 => ∃ y7, σ = [some (.ref R), some (.ref t), some (.ref u), some (.int (low : Int)), some (.int ((low : Int) + (high : Int) + 1)), some (.int (0 + (k : Int))), some (.int (o : Int)), y7] ∧ H9 = H') ⟨_, rfl, rfl⟩ ?_ ?_
      · rintro d σ H9 hd ⟨y7, rfl, rfl⟩
        have hd' : d < low + high + 1 := by omega
        have c1 : rAt (lastL (row0L low high) ((kindsOf ps us).take (k + 1))) d = litF (lastL (row0L low high) ((kindsOf ps us).take k)) v c o (d : Int) := by
          rw [hstep]
          exact nextLit_at (by rw [hll]; exact hd')
        have id : atI ((lastL (row0L low high) ((kindsOf ps us).take (k + 1))).map vO) (0 + (d : Int)) = some (vO (litF (lastL (row0L low high) ((kindsOf ps us).take k)) v c o (d : Int))) := at_of (Int.zero_add _) (by
          rw [vO_at (by rw [hll]; exact hd'), c1])
        refine ⟨_, rfl, _, rfl, _, _, rfl, rfl, R, _, _, _, rfl, rfl, .of eR7, ib, _, rfl, b, _, _, _, rfl, rfl, .of eb, id, ?_⟩
        refine ⟨_, rfl, _, rfl, R, _, _, _, rfl, rfl, .of eR7, ia, _, rfl, _, rfl, _, rfl, t, xs, _, _, rfl, rfl, hS7, hx, _, rfl, ?_⟩
        refine ⟨a, t2, _, d, v, c, o, by rw [Int.zero_add]; rfl, .of ea, h3, by rw [hll]; omega, by omega, by omega, by omega, by omega, ?_⟩
        generalize litF _ _ _ _ _ = z
        have hsc : scal (vO z) (vO z) = true := by cases z <;> rfl
        exact ⟨hsc, _, rfl, iteDN (fun y => absurd rfl y) (fun _ => ⟨_, rfl, rfl⟩)⟩
      · rintro σ H9 ⟨y7, rfl, rfl⟩
        exact ⟨_, _, _, rfl, rfl⟩
    · rintro σ H' ⟨y5, y6, y7, rfl, rfl⟩
      exact q _ ex7
def spScales (K : PySem.W.Frag) (cK cS : Addr) : Sp := fun vs H Q E => ∃ (t u : Addr) (ps us : List (Int × Int)), vs = [.ref t, .ref u] ∧ Till K H t ps ∧ Till K H u us ∧ Gen2 ps us ∧
  (dueS ps us = "kind" → ∀ H2, Ex H H2 → E (.ref cK) none H2) ∧ (dueS ps us = "sum" → ∀ H2, Ex H H2 → E (.ref cS) none H2) ∧ (dueS ps us = "" → NewRows H (scalesOf ps us) Q)
/-! ### a dict of pairs -/
def dkP (us : List (Int × Int)) : List (Key × V) := us.map fun p => (Sum.inl p.1, V.int p.2)
theorem prs_dk {K : PySem.W.Frag} {H : Hp} : ∀ {xs : List V} {ps : List (Int × Int)}, Prs H xs ps → ∃ as : List Addr, xs = as.map V.ref ∧ Paired (fun p (kv : Key × V) => SqT K H p [kV kv.1, kv.2]) as (dkP ps)
  | _, _, .nil => ⟨[], rfl, .nil⟩
  | _, _, .cons (b := p) ⟨t, h1, h2⟩ r => by
    obtain ⟨as, e, q⟩ := prs_dk (K := K) r
    exact ⟨t :: as, by rw [h1, e]; rfl, .cons (.of h2) q⟩
theorem countIn_none {ps : List (Int × Int)} {v : Int} (h : ∀ p ∈ ps, p.1 ≠ v) : countIn ps v = none := by
  induction ps with
  | nil => rfl
  | cons p ps ih =>
    rw [countIn_cons, if_neg (h p List.mem_cons_self)]
    exact ih fun q hq => h q (List.mem_cons_of_mem _ hq)
theorem valV_merge {v : Int} : ∀ {us : List (Int × Int)} {kvs : List (Key × V)}, (us.map (·.1)).Nodup → valV (mergeK kvs (dkP us)) (Sum.inl v) = (match countIn us v with
  | some c => some (V.int c)
  | none => valV kvs (Sum.inl v))
  | [], kvs, _ => rfl
  | p :: us, kvs, nd => by
    rw [List.map_cons, List.nodup_cons] at nd
    have ih := valV_merge (v := v) (us := us) (kvs := putK kvs (Sum.inl p.1) (V.int p.2)) nd.2
    show valV (mergeK (putK kvs (Sum.inl p.1) (V.int p.2)) (dkP us)) (Sum.inl v) = _
    rw [ih, countIn_cons, valV_put]
    by_cases e : p.1 = v
    · rw [if_pos e, if_pos (by rw [e])]
      rw [countIn_none fun q hq z => nd.1 (by rw [e, ← z]; exact List.mem_map.mpr ⟨q, hq, rfl⟩)]
    · rw [if_neg e, if_neg (fun z => e (Sum.inl.inj z).symm)]
theorem dict_val {us : List (Int × Int)} (nd : (us.map (·.1)).Nodup) (v : Int) : valV (mergeK [] (dkP us)) (Sum.inl v) = (countIn us v).map V.int := by
  rw [valV_merge nd]
  cases countIn us v <;> rfl
theorem countIn_some {ps : List (Int × Int)} {v : Int} (h : v ∈ ps.map fun p : Int × Int => p.1) : ∃ c, countIn ps v = some c := by
  cases e : countIn ps v with
  | some c => exact ⟨c, rfl⟩
  | none =>
    exfalso
    obtain ⟨p, hp, rfl⟩ := List.mem_map.mp h
    induction ps with
    | nil => cases hp
    | cons q ps ih =>
      rw [countIn_cons] at e
      by_cases z : q.1 = p.1
      · rw [if_pos z] at e
        cases e
      · rw [if_neg z] at e
        rcases List.mem_cons.mp hp with y | y
        · exact z (by rw [y])
        · exact ih y (List.mem_map.mpr ⟨p, y, rfl⟩) e
/-! ### a row, turned round -/
theorem rAt_rev {r : List Cell} {i : Nat} (h : i < r.length) : rAt r.reverse i = rAt r (r.length - 1 - i) := by
  unfold rAt
  rw [List.getD_eq_getElem?_getD, List.getD_eq_getElem?_getD, List.getElem?_reverse h]
theorem nextRow_lst {r : List Cell} {v c d : Nat} (hv : 0 < v) (h : d < r.length) : Lst r v c d (rAt (nextRow r v c) d) := by
  rw [show rAt (nextRow r v c) d = leastF r v c d from rAt_map h]
  exact leastF_lst hv
theorem cellAt_nat {r : List Cell} {i : Nat} {x : Int} (h : i < r.length) (hx : rAt r i = some x) : cellAt r (i : Int) = some x := by
  unfold cellAt
  rw [if_pos ⟨by omega, by omega⟩, Int.toNat_natCast]
  exact hx
theorem of_cellAt {r : List Cell} {z x : Int} (h : cellAt r z = some x) : ∃ i : Nat, z = (i : Int) ∧ i < r.length ∧ rAt r i = some x := by
  unfold cellAt at h
  split at h
  · next hz => exact ⟨z.toNat, by omega, by omega, h⟩
  · cases h
theorem turn_lit {r : List Cell} {v c o d : Nat} (hv : 0 < v) (hd : d < r.length) : Lit r v c o (d : Int) (rAt (nextRow (nextRow r v o).reverse v c).reverse d) := by
  have pl : (nextRow r v o).length = r.length := nextRow_len ..
  have prl : (nextRow r v o).reverse.length = r.length := by rw [List.length_reverse, pl]
  have ql : (nextRow (nextRow r v o).reverse v c).length = r.length := by rw [nextRow_len, prl]
  rw [rAt_rev (by rw [ql]; exact hd), ql]
  have hq := nextRow_lst (r := (nextRow r v o).reverse) (v := v) (c := c) (d := r.length - 1 - d) hv (by rw [prl]; omega)
  generalize rAt (nextRow (nextRow r v o).reverse v c) (r.length - 1 - d) = res at hq
  have mid : ∀ b : Nat, b * v ≤ r.length - 1 - d → rAt (nextRow r v o).reverse (r.length - 1 - d - b * v) = rAt (nextRow r v o) (d + b * v) := fun b hb => by
    rw [rAt_rev (by rw [pl]; omega), pl]
    congr 1
    omega
  have hp : ∀ b : Nat, b * v ≤ r.length - 1 - d → Lst r v o (d + b * v) (rAt (nextRow r v o) (d + b * v)) := fun b hb => nextRow_lst hv (by omega)
  have first : ∀ (j x : Int), -(c : Int) ≤ j → j ≤ o → cellAt r ((d : Int) - j * v) = some x → ∃ m, res = some m ∧ m ≤ x + j.natAbs := by
    intro j x h1 h2 hx
    obtain ⟨i, hi, hil, hx'⟩ := of_cellAt hx
    by_cases hj : 0 ≤ j
    · obtain ⟨b, rfl⟩ : ∃ b : Nat, j = (b : Int) := ⟨j.toNat, by omega⟩
      have eb : ((b * v : Nat) : Int) = (b : Int) * v := Int.natCast_mul ..
      obtain ⟨m1, e1, l1⟩ := (hp 0 (by omega)).1 b x (by omega) (by omega) (by rw [show d + 0 * v - b * v = i by omega]; exact hx')
      obtain ⟨m, e2, l2⟩ := hq.1 0 m1 (by omega) (by omega) (by rw [mid 0 (by omega)]; exact e1)
      exact ⟨m, e2, by omega⟩
    · obtain ⟨b, hb⟩ : ∃ b : Nat, j = -(b : Int) := ⟨(-j).toNat, by omega⟩
      subst hb
      have eb : ((b * v : Nat) : Int) = (b : Int) * v := Int.natCast_mul ..
      rw [Int.neg_mul] at hi
      obtain ⟨m1, e1, l1⟩ := (hp b (by omega)).1 0 x (by omega) (by omega) (by rw [show d + b * v - 0 * v = i by omega]; exact hx')
      obtain ⟨m, e2, l2⟩ := hq.1 b m1 (by omega) (by omega) (by rw [mid b (by omega)]; exact e1)
      exact ⟨m, e2, by omega⟩
  refine ⟨first, fun m hm => ?_⟩
  obtain ⟨b, x1, b1, b2, b3, rfl⟩ := hq.2 m hm
  rw [mid b b2] at b3
  obtain ⟨a, x, a1, a2, a3, rfl⟩ := (hp b b2).2 x1 b3
  have ea : ((a * v : Nat) : Int) = (a : Int) * v := Int.natCast_mul ..
  have eb : ((b * v : Nat) : Int) = (b : Int) * v := Int.natCast_mul ..
  have hc : cellAt r ((d : Int) - ((a : Int) - b) * v) = some x := by
    rw [Int.sub_mul, show (d : Int) - ((a : Int) * v - (b : Int) * v) = ((d + b * v - a * v : Nat) : Int) by omega]
    exact cellAt_nat (by omega) a3
  obtain ⟨m', e', l'⟩ := first ((a : Int) - b) x (by omega) (by omega) hc
  rw [hm] at e'
  have := Option.some.inj e'
  exact ⟨(a : Int) - b, x, by omega, by omega, hc, by omega⟩
theorem turn_next {r : List Cell} {v c o : Nat} (hv : 0 < v) : (nextRow (nextRow r v o).reverse v c).reverse = nextLit r v c o := by
  have pl : (nextRow r v o).length = r.length := nextRow_len ..
  refine row_ext (by rw [List.length_reverse, nextRow_len, List.length_reverse, pl]) fun d hd => ?_
  exact Lit.uniq (turn_lit hv hd) litF_lit
/-! ### what pieces are worth -/
def spWorthP (K : PySem.W.Frag) : Sp := fun vs H Q _ => ∃ (a : Addr) (ps : List (Int × Int)), vs = [.ref a] ∧ Till K H a ps ∧ ps.length ≤ 1000 ∧ (∀ p ∈ ps, 0 ≤ p.1 ∧ p.1 ≤ 1000000000) ∧ Ret (.int (worthP ps)) H Q
theorem ok_worth (T : Tx K mg) : FnOk P w K mg base CX0 1 T.a_worth T.d_worth P_worth (spWorthP K) := by
  refine T.f_worth.ok sc_worth (fun vs H Q E h => ?_) (fun cdv A outer s H vs Q E hr h => ?_)
  · obtain ⟨a, ps, rfl, _⟩ := h
    rfl
  · obtain ⟨a, ps, rfl, ⟨xs, hS, hp⟩, hl, hb, q⟩ := h
    refine ⟨_, (pss_one (ps_ret (pe_callB (cr_sum rfl) (by rfl) T.m_sum (by decide +kernel) (pa_cons (pe_lc (own := [("value", 1), ("count", 2)]) (g := gTup K 2 (gCons (gName 1) (gCons (gName 2) gNil))) rfl sc_worth.nd (pi_list (pv 0)) (blkOk_by (own := [("value", 1), ("count", 2)]) (N := N_worth) (sc := defScope s_worth) (by decide +kernel)) (fun _ _ _ _ _ => pg_tup rfl (pgs_cons (pg_name (i := 1) sc_worth.nd rfl (.inl rfl) (.inr rfl)) (pgs_cons (pg_name (i := 2) sc_worth.nd rfl (.inl rfl) (.inr rfl)) pgs_nil))) (fun _ _ _ _ _ => pts_nil) (fun _ _ _ _ _ => (pe_op op_mul (pv 1) (pv 2)))) pa_nil)))), ?_⟩
    refine ⟨_, rfl, a, rfl, ⟨xs, hS⟩, fun D hD => lc_list (xs := xs) (fun i H' => Ex H H' ∧ H' D = some (.lst ((ps.take i).map fun p => .int (p.1 * p.2)))) ⟨Ex.nw hD, upd_same⟩ (fun i H' _ h => h.1.seq hS) ?_ ?_⟩
    · rintro i x H' hx ⟨ex, eD⟩
      obtain ⟨p, t, h1, rfl, h3⟩ := Prs.get hp hx
      have hpm := hb p (List.mem_of_getElem? h1)
      refine ⟨t, _, rfl, .of (ex _ _ h3), rfl, _, _, rfl, _, _, rfl, rfl, rfl, ?_⟩
      refine t_yes ?_
      repeat (first | refine ⟨_, rfl, ?_⟩ | refine ⟨(by show (0 : Int) < _; decide), ?_⟩ | refine ⟨⟨by decide, by decide⟩, ?_⟩ | refine ⟨.inr ⟨by decide, by decide⟩, ?_⟩ | refine ⟨.inl ⟨by decide, by decide⟩, ?_⟩ | refine ⟨⟨by decide, by decide, by decide⟩, ?_⟩ | refine ⟨_, _, rfl, rfl, ?_⟩ | refine ⟨rfl, _, rfl, ?_⟩)
      refine ⟨.inl ⟨by omega, by omega⟩, _, eD, ?_, ?_, ?_⟩
      · rw [List.length_map, List.length_take]
        exact len63' (by omega)
      · exact Ex.mu ex hD
      · rw [upd_same, take_succ_map _ h1]
    · rintro H' ⟨ex, eD⟩
      rw [List.take_of_length_le (by rw [hp.len]; exact Nat.le_refl _)] at eD
      refine ⟨D, ps.map fun p : Int × Int => p.1 * p.2, rfl, .of (by rw [eD, List.map_map]; rfl), q H' ex⟩
/-! ### the scales, as the program makes them -/
theorem rowsL_snoc (r : List Cell) (ks : List Kd) (k : Kd) : rowsL r (ks ++ [k]) = rowsL r ks ++ [lastL r (ks ++ [k])] := by
  unfold rowsL
  rw [List.length_append, show ks.length + [k].length + 1 = (ks.length + 1) + 1 from rfl, List.range_succ, List.map_append]
  congr 1
  · refine List.map_congr_left fun i hi => ?_
    rw [List.take_append_of_le_length (by have := List.mem_range.mp hi; omega)]
  · show [lastL r ((ks ++ [k]).take (ks.length + 1))] = _
    rw [List.take_of_length_le (by rw [List.length_append]; exact Nat.le_refl _)]
def spPurse (K : PySem.W.Frag) (cK : Addr) : Sp := fun vs H Q E => ∃ (t u : Addr) (ps us : List (Int × Int)), vs = [.ref t, .ref u] ∧ Till K H t ps ∧ Till K H u us ∧ (ps.map (·.1)).Nodup ∧
  (lacks ps us = true → ∀ H2, Ex H H2 → E (.ref cK) none H2) ∧ (lacks ps us = false → ∀ H2, Ex H H2 → Q .non H2)
theorem ok_check_purse (T : Tx K mg) : FnOk P w K mg base (L2.CX P w) 1 T.a__check_purse T.d__check_purse P__check_purse (spPurse K T.c_NoKind) := by
  refine T.f__check_purse.okX sc__check_purse (fun vs H Q E h => ?_) (fun cdv A outer s H vs Q E hr h => ?_)
  · obtain ⟨t, u, ps, us, rfl, _⟩ := h
    rfl
  · obtain ⟨t, u, ps, us, rfl, ⟨xs, hS, hp⟩, ⟨ys, hS2, hu⟩, nd, q1, q2⟩ := h
    refine ⟨_, (pss_cons (ps_set (i := 2) sc__check_purse.nd rfl (.inl rfl) (pe_callTy (call_dictP rfl) (by rfl) T.m_dict (by decide +kernel) (pa_cons (pv 0) pa_nil)))
    (pss_one (ps_for (passes_of rfl) rfl (pi_list (pv 1)) (pg_tup rfl (pgs_cons (pg_name (i := 3) sc__check_purse.nd rfl (.inl rfl)) (pgs_cons (pg_name (i := 4) sc__check_purse.nd rfl (.inl rfl)) pgs_nil)))
      (pss_one (ps_if (pt_cmp (pc_dnotin (hu_of hr) (pv 3) (pv 2)))
        (pss_one (ps_raise rfl (takes_of rfl rfl rfl rfl) (pmk_own PySem.F.excBase_ValueError T.x_NoKind T.g_NoKind T.k_NoKind (raises_own T.b_NoKind T.t_NoKind) rfl)))
        pss_nil))))), ?_⟩
    obtain ⟨as, rfl, hd⟩ := prs_dk (K := K) hp
    refine ⟨_, rfl, t, as, dkP ps, rfl, hS, hd, fun D hD => ?_⟩
    (generalize hh : upd H D _ = H1; have e1 : Ex H H1 := (by rw [← hh]; exact Ex.nw hD); have c1 := (show H1 D = some _ by rw [← hh]; exact upd_same); clear hh)
    refine ⟨_, rfl, u, rfl, ⟨ys, e1.seq hS2⟩, for_list (xs := ys) (fun i σ H' => ∃ y3 y4, σ = [some (.ref t), some (.ref u), some (.ref D), y3, y4] ∧ H' = H1 ∧ ∀ q ∈ us.take i, q.1 ∈ ps.map fun p => p.1) ⟨_, _, rfl, rfl, by simp⟩ (fun i σ H' _ h => by obtain ⟨_, _, _, rfl, _⟩ := h; exact e1.seq hS2) ?_ ?_⟩
    · rintro i x σ H' hx ⟨y3, y4, rfl, rfl, hin⟩
      obtain ⟨q, t2, h1, rfl, h3⟩ := Prs.get (hu.ex e1) hx
      refine ⟨t2, _, rfl, .of h3, rfl, _, _, rfl, _, _, rfl, rfl, ?_⟩
      refine ⟨_, rfl, _, rfl, D, _, rfl, DGet.k (k := Sum.inl q.1) c1, _, rfl, ?_⟩
      rw [dict_val nd]
      by_cases hm : q.1 ∈ ps.map fun p : Int × Int => p.1
      · obtain ⟨c, hc⟩ := countIn_some hm
        rw [hc]
        refine iteF ⟨_, _, rfl, rfl, fun z hz => ?_⟩
        rw [take_snoc h1] at hz
        rcases List.mem_append.mp hz with y | y
        · exact hin z y
        · rw [List.mem_singleton.mp y]
          exact hm
      · rw [countIn_none fun p hp z => hm (List.mem_map.mpr ⟨p, hp, z⟩)]
        refine iteT (q1 ?_ _ e1)
        unfold lacks
        rw [List.any_eq_true]
        exact ⟨q, List.mem_of_getElem? h1, by rw [decide_eq_false hm]; rfl⟩
    · rintro σ H' ⟨y3, y4, rfl, rfl, hin⟩
      rw [List.take_of_length_le (by rw [hu.len]; exact Nat.le_refl _)] at hin
      refine q2 ?_ _ e1
      unfold lacks
      rw [List.any_eq_false]
      intro q hq
      rw [decide_eq_true (hin q hq)]
      decide
def spNumbers (K : PySem.W.Frag) : Sp := fun vs H Q _ => ∃ (a : Addr) (r : List Cell) (v c o : Nat), vs = [.ref a, .int (v : Int), .int (c : Int), .int (o : Int)] ∧ Row K H a r ∧ 1 ≤ r.length ∧ r.length ≤ 2000 ∧ 1 ≤ v ∧ v ≤ 100000 ∧ NewRow H (nextLit r v c o) Q
theorem ok_with_numbers (T : Tx K mg) : FnOk P w K mg base CX0 3 T.a__with_numbers T.d__with_numbers P__with_numbers (spNumbers K) := by
  have G_with_kind := ok_with_kind (P := P) (w := w) (base := base) T
  refine T.f__with_numbers.ok sc__with_numbers (fun vs H Q E h => ?_) (fun cdv A outer s H vs Q E hr h => ?_)
  · obtain ⟨a, r, v, c, o, rfl, _⟩ := h
    rfl
  · obtain ⟨a, r, v, c, o, rfl, hS, hl1, hl, hv1, hv2, q⟩ := h
    refine ⟨_, (pss_cons (ps_set (i := 4) sc__with_numbers.nd rfl (.inl rfl) (pe_call G_with_kind (hr.mono (by decide)) (by rfl) T.g_with_kind T.f_with_kind.kp T.p_with_kind .nil pass0 (pa_cons (pv 0) (pa_cons (pv 1) (pa_cons (pv 3) pa_nil)))))
    (pss_one (ps_ret (pe_revL (pe_call G_with_kind (hr.mono (by decide)) (by rfl) T.g_with_kind T.f_with_kind.kp T.p_with_kind .nil pass0 (pa_cons (pe_revL (pv 4)) (pa_cons (pv 1) (pa_cons (pv 2) pa_nil)))))))), ?_⟩
    have pl : (nextRow r v o).length = r.length := nextRow_len ..
    refine ⟨_, rfl, _, rfl, _, rfl, a, r, v, o, rfl, hS, hl1, hl, hv1, hv2, fun p H2 e2 hp ep => ?_⟩
    refine ⟨_, rfl, p, _, rfl, .of ep, fun p2 hp2 => ?_⟩
    rw [← List.map_reverse]
    (generalize hh : upd H2 p2 _ = H3; have e3 : Ex H2 H3 := (by rw [← hh]; exact Ex.nw hp2); have c3 := (show H3 p2 = some _ by rw [← hh]; exact upd_same); clear hh)
    refine ⟨_, rfl, _, rfl, p2, (nextRow r v o).reverse, v, c, rfl, .of c3, by rw [List.length_reverse, pl]; exact hl1, by rw [List.length_reverse, pl]; exact hl, hv1, hv2, fun p3 H4 e4 hp3 ep3 => ?_⟩
    refine ⟨p3, _, rfl, .of ep3, fun p4 hp4 => ?_⟩
    rw [← List.map_reverse, turn_next (by omega)]
    exact q p4 _ (((e2.tr e3).tr e4).tr (Ex.nw hp4)) (none_back ((e2.tr e3).tr e4) hp4) upd_same
theorem gen_worth {ps : List (Int × Int)} (h : ∀ p ∈ ps, 1 ≤ p.1 ∧ p.1 ≤ 5000 ∧ 0 ≤ p.2 ∧ p.2 ≤ 2000000) : worthP ps = (lowOf ps : Int) :=
  (Int.toNat_of_nonneg (worthP_nn fun p hp => by have := h p hp; omega)).symm
theorem ok_scales (T : Tx K mg) : FnOk P w K mg base (L2.CX P w) 4 T.a_scales T.d_scales P_scales (spScales K T.c_NoKind T.c_NoSum) := by
  have G__check_purse := ok_check_purse (P := P) (w := w) (base := base) T
  have G_worth := ok_worth (P := P) (w := w) (base := base) T
  have G__with_numbers := ok_with_numbers (P := P) (w := w) (base := base) T
  refine T.f_scales.okX sc_scales (fun vs H Q E h => ?_) (fun cdv A outer s H vs Q E hr h => ?_)
  · obtain ⟨t, u, ps, us, rfl, _⟩ := h
    rfl
  · obtain ⟨t, u, ps, us, rfl, hT, hU, hg, qk, qs, q0⟩ := h
    refine ⟨_, (pss_cons (ps_expr (pe_call G__check_purse (hr.mono (by decide)) (by rfl) T.g__check_purse T.f__check_purse.kp T.p__check_purse .nil (passes_call (takes_of rfl rfl rfl rfl) fun _ _ _ _ h => h) (pa_cons (pv 0) (pa_cons (pv 1) pa_nil))))
    (pss_cons (ps_set (i := 2) sc_scales.nd rfl (.inl rfl) (pe_call G_worth (hr.mono (by decide)) (by rfl) T.g_worth T.f_worth.kp T.p_worth .nil pass0 (pa_cons (pv 0) pa_nil)))
    (pss_cons (ps_set (i := 3) sc_scales.nd rfl (.inl rfl) (pe_call G_worth (hr.mono (by decide)) (by rfl) T.g_worth T.f_worth.kp T.p_worth .nil pass0 (pa_cons (pv 1) pa_nil)))
    (pss_cons (ps_if (pt_cmpR op_gt (pe_op op_add (pv 2) (pv 3)) (pe_glob (v := .int 1500) (by rfl) T.w_MOST_WORTH.choose_spec ⟨_, rfl⟩) (nomark _))
      (pss_one (ps_raise rfl (takes_of rfl rfl rfl rfl) (pmk_own PySem.F.excBase_ValueError T.x_NoSum T.g_NoSum T.k_NoSum (raises_own T.b_NoSum T.t_NoSum) rfl)))
      pss_nil)
    (pss_cons (ps_set (i := 4) sc_scales.nd rfl (.inl rfl) (pe_callTy (call_dictP rfl) (by rfl) T.m_dict (by decide +kernel) (pa_cons (pv 1) pa_nil)))
    (pss_cons (ps_set (i := 5) sc_scales.nd rfl (.inl rfl) (pe_op op_cat (pe_op op_cat (pe_op op_rep (pe_lst (pa_cons pe_non pa_nil)) (pv 2)) (pe_lst (pa_cons pe_int pa_nil))) (pe_op op_rep (pe_lst (pa_cons pe_non pa_nil)) (pv 3))))
    (pss_cons (ps_set (i := 6) sc_scales.nd rfl (.inl rfl) (pe_lst (pa_cons (pv 5) pa_nil)))
    (pss_cons (ps_for (passes_of rfl) rfl (pi_list (pv 0)) (pg_tup rfl (pgs_cons (pg_name (i := 7) sc_scales.nd rfl (.inl rfl)) (pgs_cons (pg_name (i := 8) sc_scales.nd rfl (.inl rfl)) pgs_nil)))
      (pss_cons (ps_set (i := 5) sc_scales.nd rfl (.inl rfl) (pe_call G__with_numbers (hr.mono (by decide)) (by rfl) T.g__with_numbers T.f__with_numbers.kp T.p__with_numbers .nil pass0 (pa_cons (pv 5) (pa_cons (pv 7) (pa_cons (pv 8) (pa_cons (pe_dget2 (hu_of hr) (pv 4) (pv 7) pe_int ⟨by rfl, by rfl, by rfl, by rfl⟩) pa_nil))))))
      (pss_one (ps_expr (pe_bm PySem.F.plainAttrs_list PySem.F.slot_list_append PySem.F.type_list_append mt_append (pv 6) (pa_cons (pv 5) pa_nil))))))
    (pss_one (ps_ret (pv 6))))))))))), ?_⟩
    have hwp := gen_worth hg.vp
    have hwu := gen_worth hg.vu
    refine ⟨_, rfl, _, rfl, t, u, ps, us, rfl, hT, hU, rising_nd hg.rp, fun hl => qk (by unfold dueS; rw [if_pos hl]), fun hl H2 e2 => ?_⟩
    have hl' : ¬ lacks ps us = true := by rw [hl]; decide
    refine ⟨_, rfl, t, ps, rfl, hT.ex e2, by have := hg.lp; omega, fun p hp => by have := hg.vp p hp; omega, fun H3 e3 => ?_⟩
    rw [hwp]
    refine ⟨_, rfl, u, us, rfl, (hU.ex e2).ex e3, by have := hg.lu; omega, fun p hp => by have := hg.vu p hp; omega, fun H4 e4 => ?_⟩
    rw [hwu]
    have ex4 := (e2.tr e3).tr e4
    refine ⟨_, rfl, _, rfl, _, _, rfl, rfl, _, _, rfl, rfl, _, rfl, iteD (fun e => ?_) (fun e => ?_)⟩
    · have e' : (lowOf ps : Int) + (lowOf us : Int) > 1500 := e
      exact qs (by unfold dueS; rw [if_neg hl', if_pos (by omega)]) _ ex4
    have e' : ¬ (lowOf ps : Int) + (lowOf us : Int) > 1500 := e
    have q1 := q0 (by unfold dueS; rw [if_neg hl', if_neg (by omega)])
    unfold scalesOf at q1
    obtain ⟨ys, hSu, hu⟩ := hU
    obtain ⟨bs, rfl, hdu⟩ := prs_dk (K := K) (hu.ex ex4)
    refine ⟨_, rfl, u, bs, dkP us, rfl, ex4.seq hSu, hdu, fun hd hhd => ?_⟩
    (generalize hh : upd H4 hd _ = H5; have e5 : Ex H4 H5 := (by rw [← hh]; exact Ex.nw hhd); have cd := (show H5 hd = some _ by rw [← hh]; exact upd_same); clear hh)
    generalize hlo : lowOf ps = low at *
    generalize hhi : lowOf us = high at *
    have hrl : (row0L low high).length = low + high + 1 := row0L_len ..
    refine ⟨len63 (by show 1 ≤ _; decide), fun l1 hl1 => ?_⟩
    (generalize hh : upd H5 l1 _ = H6; have e6 : Ex H5 H6 := (by rw [← hh]; exact Ex.nw hl1); have c1 := (show H6 l1 = some _ by rw [← hh]; exact upd_same); clear hh)
    refine ⟨_, rfl, l1, _, _, rfl, rfl, c1, by omega, by omega, len63 (by rw [Int.toNat_natCast]; show 1 * low ≤ _; omega), fun l2 hl2 => ?_⟩
    rw [Int.toNat_natCast]
    (generalize hh : upd H6 l2 _ = H7; have e7 : Ex H6 H7 := (by rw [← hh]; exact Ex.nw hl2); have c2 := (show H7 l2 = some _ by rw [← hh]; exact upd_same); clear hh)
    refine ⟨len63 (by show 1 ≤ _; decide), fun l3 hl3 => ?_⟩
    (generalize hh : upd H7 l3 _ = H8; have e8 : Ex H7 H8 := (by rw [← hh]; exact Ex.nw hl3); have c3 := (show H8 l3 = some _ by rw [← hh]; exact upd_same); clear hh)
    refine ⟨l2, l3, _, _, rfl, rfl, e8 _ _ c2, c3, len63 (by simp; omega), fun l4 hl4 => ?_⟩
    (generalize hh : upd H8 l4 _ = H9; have e9 : Ex H8 H9 := (by rw [← hh]; exact Ex.nw hl4); have c4 := (show H9 l4 = some _ by rw [← hh]; exact upd_same); clear hh)
    refine ⟨len63 (by show 1 ≤ _; decide), fun l5 hl5 => ?_⟩
    (generalize hh : upd H9 l5 _ = H10; have e10 : Ex H9 H10 := (by rw [← hh]; exact Ex.nw hl5); have c5 := (show H10 l5 = some _ by rw [← hh]; exact upd_same); clear hh)
    refine ⟨_, rfl, l5, _, _, rfl, rfl, c5, by omega, by omega, len63 (by rw [Int.toNat_natCast]; show 1 * high ≤ _; omega), fun l6 hl6 => ?_⟩
    rw [Int.toNat_natCast]
    (generalize hh : upd H10 l6 _ = H11; have e11 : Ex H10 H11 := (by rw [← hh]; exact Ex.nw hl6); have c6 := (show H11 l6 = some _ by rw [← hh]; exact upd_same); clear hh)
    refine ⟨l4, l6, _, _, rfl, rfl, e11 _ _ (e10 _ _ c4), c6, len63 (by simp; omega), fun l7 hl7 => ?_⟩
    rw [scl0]
    (generalize hh : upd H11 l7 _ = H12; have e12 : Ex H11 H12 := (by rw [← hh]; exact Ex.nw hl7); have c7 := (show H12 l7 = some _ by rw [← hh]; exact upd_same); clear hh)
    have ex5 := ex4.tr e5
    have ex12 : Ex H5 H12 := (((((e6.tr e7).tr e8).tr e9).tr e10).tr e11).tr e12
    have hl70 : H l7 = none := none_back ((((((ex5.tr e6).tr e7).tr e8).tr e9).tr e10).tr e11) hl7
    refine ⟨_, rfl, len63 (by show 1 ≤ _; decide), fun R hR => ?_⟩
    have exA := ex5.tr ex12
    have hR0 : H R = none := none_back exA hR
    have n7R : l7 ≠ R := ne_of_none c7 hR
    obtain ⟨xs, hS, hp⟩ := hT
    have cd12 := ex12 _ _ cd
    refine ⟨_, rfl, t, rfl, ⟨xs, (exA.tr (Ex.nw hR)).seq hS⟩, for_list (xs := xs) (fun i σ H' => ∃ as b y7 y8, σ = [some (.ref t), some (.ref u), some (.int (low : Int)), some (.int (high : Int)), some (.ref hd), some (.ref b), some (.ref R), y7, y8] ∧ Ex H H' ∧ H' hd = some (.dK (mergeK [] (dkP us))) ∧ (∀ x ∈ R :: as, H x = none) ∧ (R :: as).Nodup ∧
        H' R = some (.lst (as.map V.ref)) ∧ RowsAt H' as (rowsL (row0L low high) ((kindsOf ps us).take i)) ∧ H' b = some (.lst ((lastL (row0L low high) ((kindsOf ps us).take i)).map vO)))
      ⟨[l7], l7, _, _, rfl, exA.tr (Ex.nw hR), (Ex.nw hR) _ _ cd12, ?_, ?_, upd_same, .cons ((Ex.nw hR) _ _ c7) .nil, (Ex.nw hR) _ _ c7⟩ (fun i σ H' _ h => by
        obtain ⟨_, _, _, _, _, e, _⟩ := h
        exact e.seq hS) ?_ ?_⟩
    · intro x hx
      rcases List.mem_cons.mp hx with e | e
      · exact e ▸ hR0
      · rw [List.mem_singleton.mp e]
        exact hl70
    · rw [List.nodup_cons, List.mem_singleton]
      exact ⟨fun e => n7R e.symm, List.nodup_cons.mpr ⟨by simp, List.nodup_nil⟩⟩
    · rintro i x σ H5 hx ⟨as, b, y7, y8, rfl, ex, ehd, hfr, hnd, eR, hrows, eb⟩
      obtain ⟨p, t2, h1, rfl, h3⟩ := Prs.get hp hx
      have hpm := hg.vp p (List.mem_of_getElem? h1)
      have hi : i < ps.length := (List.getElem?_eq_some_iff.mp h1).1
      have hll : (lastL (row0L low high) ((kindsOf ps us).take i)).length = low + high + 1 := by rw [lastL_len, hrl]
      have hkk := kindsOf_at (us := us) h1
      have hown : 0 ≤ ownOf us p.1 := by
        unfold ownOf
        cases e : countIn us p.1 with
        | none => exact Int.le_refl _
        | some c => exact (hg.vu _ (countIn_mem e)).2.2.1
      refine ⟨t2, _, rfl, .of (ex _ _ h3), rfl, _, _, rfl, _, _, rfl, rfl, ?_⟩
      refine ⟨_, rfl, _, rfl, _, rfl, _, rfl, hd, rfl, .inl ⟨_, .inl ehd⟩, _, rfl, _, DGet.k (k := Sum.inl p.1) ehd, ?_⟩
      rw [dict_val (rising_nd hg.ru), show (Option.map V.int (countIn us p.1)).getD (.int 0) = .int (ownOf us p.1) by unfold ownOf; cases countIn us p.1 <;> rfl]
      refine ⟨b, _, p.1.toNat, p.2.toNat, (ownOf us p.1).toNat, by rw [Int.toNat_of_nonneg (by omega), Int.toNat_of_nonneg (by omega), Int.toNat_of_nonneg hown]; rfl, .of eb, by omega, by omega, by omega, by omega, fun p' H6 e6 hp' ep' => ?_⟩
      rw [show nextLit (lastL (row0L low high) ((kindsOf ps us).take i)) p.1.toNat p.2.toNat (ownOf us p.1).toNat = stepL (lastL (row0L low high) ((kindsOf ps us).take i)) (p.1, p.2, ownOf us p.1) from rfl, ← lastL_snoc, ← take_snoc hkk] at ep'
      have hal := hrows.len
      rw [rowsL_len, List.length_take, kindsOf_len] at hal
      refine ⟨_, rfl, .inl ⟨rfl, _, .of (e6 _ _ eR)⟩, _, rfl, R, _, _, rfl, rfl, e6 _ _ eR, len63' (by rw [List.length_map]; have := hg.lp; omega), ?_⟩
      have hRa : R ∉ as := (List.nodup_cons.mp hnd).1
      have hpR : p' ≠ R := (ne_of_none eR hp').symm
      have hdR : hd ≠ R := fun z => by rw [z, eR] at ehd; cases ehd
      have hpa : p' ∉ as := fun z => by
        obtain ⟨o, ho⟩ := hrows.mem z
        rw [ho] at hp'
        cases hp'
      refine ⟨as ++ [p'], p', _, _, rfl, Ex.mu (ex.tr e6) hR0, by rw [upd_ne hdR]; exact e6 _ _ ehd, ?_, ?_, ?_, ?_, ?_⟩
      · intro x hx
        rcases List.mem_cons.mp hx with e | e
        · exact e ▸ hR0
        · rcases List.mem_append.mp e with e | e
          · exact hfr x (List.mem_cons_of_mem _ e)
          · rw [List.mem_singleton.mp e]
            exact none_back ex hp'
      · rw [← List.cons_append]
        refine nd_snoc hnd fun z => ?_
        rcases List.mem_cons.mp z with e | e
        · exact hpR e
        · exact hpa e
      · rw [upd_same, List.map_append]
        rfl
      · rw [take_snoc hkk, rowsL_snoc, ← take_snoc hkk]
        exact RowsAt.snoc ((hrows.ex e6).up hRa) (by rw [upd_ne hpR]; exact ep')
      · rw [upd_ne hpR]
        exact ep'
    · rintro σ H5 ⟨as, b, y7, y8, rfl, ex, ehd, hfr, hnd, eR, hrows, eb⟩
      rw [List.take_of_length_le (by rw [hp.len, kindsOf_len]; exact Nat.le_refl _)] at hrows
      exact ⟨_, rfl, q1 R as H5 ex hfr hnd eR hrows⟩
/-! ### a deal, as the program gives it -/
def cellD (ps us : List (Int × Int)) (c : Int) : Cell := cellAt (lastL (row0L (lowOf ps) (lowOf us)) (kindsOf ps us)) ((lowOf ps : Int) + c)
def wayOf (ps us : List (Int × Int)) (c : Int) : List Int := wayL (row0L (lowOf ps) (lowOf us)) (kindsOf ps us) ps.length ((lowOf ps : Int) + c)
def dueDl (ps us : List (Int × Int)) (c : Int) : Str := if 0 ≤ c ∧ c ≤ 1000 then (if dueS ps us = "" then (if cellD ps us c = none then "change" else "") else dueS ps us) else "sum"
/-- a pair of new lists, in a new tuple -/
def NewDeal (H : Hp) (pa ga : List (Int × Int)) (Q : VK) : Prop := ∀ l a b xs ys H2, Ex H H2 → H l = none → H a = none → H b = none → l ≠ a → l ≠ b → a ≠ b → H2 l = some (.tup [.ref a, .ref b]) → H2 a = some (.lst xs) → H2 b = some (.lst ys) → Prs H2 xs pa → Prs H2 ys ga → Q (.ref l) H2
def spDeal (K : PySem.W.Frag) (cK cS cC : Addr) : Sp := fun vs H Q E => ∃ (t u : Addr) (ps us : List (Int × Int)) (c : Int), vs = [.ref t, .ref u, .int c] ∧ Till K H t ps ∧ Till K H u us ∧ Gen2 ps us ∧
  (dueDl ps us c = "kind" → ∀ H2, Ex H H2 → E (.ref cK) none H2) ∧ (dueDl ps us c = "sum" → ∀ H2, Ex H H2 → E (.ref cS) none H2) ∧ (dueDl ps us c = "change" → ∀ H2, Ex H H2 → E (.ref cC) none H2) ∧
  (dueDl ps us c = "" → NewDeal H (payD (kindsOf ps us) (wayOf ps us c)) (giveD (kindsOf ps us) (wayOf ps us c)) Q)
/-! ### the greatest number that goes -/
def hits (r : List Cell) (v : Nat) (d m lo : Int) (n : Nat) : List Int := ((List.range n).map fun i : Nat => lo + (i : Int)).filter fun j => decide (cellAt r (d - j * v) = some (m - (j.natAbs : Int)))
theorem hits_succ (r : List Cell) (v : Nat) (d m lo : Int) (n : Nat) : hits r v d m lo (n + 1) = hits r v d m lo n ++ (if cellAt r (d - (lo + n) * v) = some (m - ((lo + (n : Int)).natAbs : Int)) then [lo + (n : Int)] else []) := by
  unfold hits
  rw [List.range_succ, List.map_append, List.filter_append]
  congr 1
  show List.filter _ [lo + (n : Int)] = _
  by_cases h : cellAt r (d - (lo + n) * v) = some (m - ((lo + (n : Int)).natAbs : Int))
  · rw [if_pos h, List.filter_cons_of_pos (by simpa using h)]
    rfl
  · rw [if_neg h, List.filter_cons_of_neg (by simpa using h)]
    rfl
theorem hits_len (r : List Cell) (v : Nat) (d m lo : Int) (n : Nat) : (hits r v d m lo n).length ≤ n := by
  unfold hits
  refine Nat.le_trans (List.length_filter_le ..) ?_
  rw [List.length_map, List.length_range]
  exact Nat.le_refl _
theorem hits_in {r : List Cell} {v : Nat} {d m lo : Int} {n : Nat} {j : Int} : j ∈ hits r v d m lo n ↔ lo ≤ j ∧ j < lo + n ∧ cellAt r (d - j * v) = some (m - (j.natAbs : Int)) := by
  unfold hits
  rw [List.mem_filter, List.mem_map]
  constructor
  · rintro ⟨⟨i, hi, rfl⟩, h⟩
    have := List.mem_range.mp hi
    exact ⟨by omega, by omega, by simpa using h⟩
  · rintro ⟨h1, h2, h⟩
    exact ⟨⟨(j - lo).toNat, List.mem_range.mpr (by omega), by omega⟩, by simpa using h⟩
theorem hits_pick {r : List Cell} {v c o d : Nat} {m : Int} (hv : 1 ≤ v) (hd : d < r.length) (hex : ∃ i : Nat, i ≤ c + o ∧ cellAt r (d - (-(c : Int) + i) * v) = some (m - ((-(c : Int) + i).natAbs : Int))) {A B : Nat} (hA : A = min c ((r.length - 1 - d) / v)) (hB : B = min o (d / v)) :
    pickL r v c d m (c + o) ∈ hits r v d m (-(A : Int)) (A + B + 1) ∧ ∀ j ∈ hits r v d m (-(A : Int)) (A + B + 1), j ≤ pickL r v c d m (c + o) := by
  obtain ⟨h1, h2⟩ := pickL_ok hex
  have hin := pickL_in r v c d m (c + o)
  generalize pickL r v c d m (c + o) = g at h1 h2 hin
  refine ⟨hits_in.mpr ?_, fun j hj => ?_⟩
  · obtain ⟨i, hi, hil, _⟩ := of_cellAt h1
    by_cases hg : 0 ≤ g
    · obtain ⟨b, rfl⟩ : ∃ b : Nat, g = (b : Int) := ⟨g.toNat, by omega⟩
      have eb : ((b * v : Nat) : Int) = (b : Int) * v := Int.natCast_mul ..
      have : b ≤ d / v := (Nat.le_div_iff_mul_le (by omega)).mpr (by omega)
      exact ⟨by omega, by omega, h1⟩
    · obtain ⟨b, hb⟩ : ∃ b : Nat, g = -(b : Int) := ⟨(-g).toNat, by omega⟩
      subst hb
      have eb : ((b * v : Nat) : Int) = (b : Int) * v := Int.natCast_mul ..
      rw [Int.neg_mul] at hi
      have : b ≤ (r.length - 1 - d) / v := (Nat.le_div_iff_mul_le (by omega)).mpr (by omega)
      exact ⟨by omega, by omega, h1⟩
  · obtain ⟨a1, a2, a3⟩ := hits_in.mp hj
    by_cases hlt : g < j
    · exact absurd a3 (h2 j hlt (by omega))
    · omega
def spGreatest (K : PySem.W.Frag) : Sp := fun vs H Q _ => ∃ (a : Addr) (r : List Cell) (d v c o : Nat) (m : Int), vs = [.ref a, .int m, .int (d : Int), .int (v : Int), .int (c : Int), .int (o : Int)] ∧ Row K H a r ∧ d < r.length ∧ r.length ≤ 100000 ∧ 1 ≤ v ∧ v ≤ 100000 ∧
  (∃ i : Nat, i ≤ c + o ∧ cellAt r (d - (-(c : Int) + i) * v) = some (m - ((-(c : Int) + i).natAbs : Int))) ∧ ∀ H2, Ex H H2 → Q (.int (pickL r v c d m (c + o))) H2
theorem ok_greatest (T : Tx K mg) : FnOk P w K mg base CX0 1 T.a__greatest_number T.d__greatest_number P__greatest_number (spGreatest K) := by
  refine T.f__greatest_number.ok sc__greatest_number (fun vs H Q E h => ?_) (fun cdv A0 outer s H vs Q E hr h => ?_)
  · obtain ⟨a, r, d, v, c, o, m, rfl, _⟩ := h
    rfl
  · obtain ⟨a, r, d, v, c, o, m, rfl, hS, hd, hl, hv1, hv2, hex, q⟩ := h
    refine ⟨_, (pss_cons (ps_set (i := 6) sc__greatest_number.nd rfl (.inl rfl) (pe_un un_neg (pe_callB (call_min2 rfl) (by rfl) T.m_min (by decide +kernel) (pa_cons (pv 4) (pa_cons (pe_op op_fdiv (pe_op op_sub (pe_op op_sub (pe_callB call_len_seq (by rfl) T.m_len (by decide +kernel) (pa_cons (pv 0) pa_nil)) pe_int) (pv 2)) (pv 3)) pa_nil)))))
    (pss_cons (ps_set (i := 7) sc__greatest_number.nd rfl (.inl rfl) (pe_callB (call_min2 rfl) (by rfl) T.m_min (by decide +kernel) (pa_cons (pv 5) (pa_cons (pe_op op_fdiv (pv 2) (pv 3)) pa_nil))))
    (pss_one (ps_ret (pe_callB (cr_max rfl) (by rfl) T.m_max (by decide +kernel) (pa_cons (pe_lc (own := [("number", 8)]) (g := gName 8) rfl sc__greatest_number.nd (pi_range2 (by rfl) T.m_range (pa_cons (pv 6) (pa_cons (pe_op op_add (pv 7) pe_int) pa_nil))) (blkOk_by (own := [("number", 8)]) (N := N__greatest_number) (sc := defScope s__greatest_number) (by decide +kernel)) (fun _ _ _ _ _ => pg_name (i := 8) sc__greatest_number.nd rfl (.inl rfl) (.inr rfl)) (fun _ _ _ _ _ => (pts_one (pt_cmpR op_eq (pe_ix (r := rIxL K) ix_list (pv 0) (pe_op op_sub (pv 2) (pe_op op_mul (pv 8) (pv 3))) (fun _ _ => rfl)) (pe_op op_sub (pv 1) (pe_callB call_abs (by rfl) T.m_abs (by decide +kernel) (pa_cons (pv 8) pa_nil))) (nomark _)))) (fun _ _ _ _ _ => (pv 8))) pa_nil)))))), ?_⟩
    have hS' : SqL K H a (r.map vO) := hS
    have hrl : (r.map vO).length = r.length := List.length_map _
    obtain ⟨A, hA, hA2⟩ : ∃ A : Nat, (if (((r.map vO).length : Int) - 1 - (d : Int)) / (v : Int) < (c : Int) then (((r.map vO).length : Int) - 1 - (d : Int)) / (v : Int) else (c : Int)) = (A : Int) ∧ A = min c ((r.length - 1 - d) / v) := by
      rw [hrl, show ((r.length : Int) - 1 - (d : Int)) / (v : Int) = (((r.length - 1 - d) / v : Nat) : Int) by
        rw [Int.natCast_ediv]
        congr 1
        omega]
      by_cases h : (((r.length - 1 - d) / v : Nat) : Int) < (c : Int)
      · exact ⟨(r.length - 1 - d) / v, if_pos h, by omega⟩
      · exact ⟨c, if_neg h, by omega⟩
    obtain ⟨B, hB, hB2⟩ : ∃ B : Nat, (if (d : Int) / (v : Int) < (o : Int) then (d : Int) / (v : Int) else (o : Int)) = (B : Int) ∧ B = min o (d / v) := by
      rw [← Int.natCast_ediv]
      by_cases h : ((d / v : Nat) : Int) < (o : Int)
      · exact ⟨d / v, if_pos h, by omega⟩
      · exact ⟨o, if_neg h, by omega⟩
    have hAv : A * v ≤ r.length - 1 - d := by
      rw [hA2]
      exact Nat.le_trans (Nat.mul_le_mul_right _ (Nat.min_le_right ..)) (Nat.div_mul_le_self ..)
    have hBv : B * v ≤ d := by
      rw [hB2]
      exact Nat.le_trans (Nat.mul_le_mul_right _ (Nat.min_le_right ..)) (Nat.div_mul_le_self ..)
    have hAl : A ≤ 100000 := by
      have : A * 1 ≤ A * v := Nat.mul_le_mul_left _ hv1
      omega
    have hBl : B ≤ 100000 := by
      have : B * 1 ≤ B * v := Nat.mul_le_mul_left _ hv1
      omega
    refine ⟨_, rfl, _, rfl, a, _, rfl, .inl hS', _, _, rfl, rfl, _, rfl, _, _, rfl, rfl, _, rfl, _, _, rfl, rfl, ⟨by omega, by omega⟩, _, _, rfl, ?_⟩
    rw [hA]
    refine ⟨_, rfl, ?_⟩
    refine ⟨_, rfl, _, rfl, _, rfl, _, _, rfl, rfl, ⟨by omega, by omega⟩, _, _, rfl, ?_⟩
    rw [hB]
    refine ⟨_, rfl, _, rfl, _, _, rfl, rfl, _, _, rfl, ⟨by omega, by omega, by omega, by omega⟩, fun D hD => ?_⟩
    rw [show ((B : Int) + 1 - -(A : Int)).toNat = A + B + 1 by omega]
    refine lc_range (fun i H' => Ex H H' ∧ H' D = some (.lst ((hits r v d m (-(A : Int)) i).map V.int))) ⟨Ex.nw hD, upd_same⟩ ?_ ?_
    · rintro i H' hi ⟨ex, eD⟩
      have hhl := hits_len r v d m (-(A : Int)) i
      have hsu := hits_succ r v d m (-(A : Int)) i
      generalize hj : -(A : Int) + (i : Int) = j at hsu ⊢
      have eA : ((A * v : Nat) : Int) = (A : Int) * v := Int.natCast_mul ..
      have eB : ((B * v : Nat) : Int) = (B : Int) * v := Int.natCast_mul ..
      have j1 : -(A : Int) * (v : Int) ≤ j * (v : Int) := Int.mul_le_mul_of_nonneg_right (by omega) (by omega)
      have j2 : j * (v : Int) ≤ (B : Int) * (v : Int) := Int.mul_le_mul_of_nonneg_right (by omega) (by omega)
      rw [Int.neg_mul] at j1
      have z0 : 0 ≤ (d : Int) - j * (v : Int) := by omega
      have z1 : (d : Int) - j * (v : Int) < (r.length : Int) := by omega
      have hcz : cellAt r ((d : Int) - j * (v : Int)) = rAt r ((d : Int) - j * (v : Int)).toNat := if_pos ⟨z0, z1⟩
      have a1 : atI (r.map vO) ((d : Int) - j * (v : Int)) = some (vO (cellAt r ((d : Int) - j * (v : Int)))) := at_of (j := ((d : Int) - j * (v : Int)).toNat) (by omega) (by rw [hcz]; exact vO_at (by omega))
      have hab : (if j < 0 then -j else j) = (j.natAbs : Int) := by split <;> omega
      refine ⟨rfl, ?_⟩
      refine ⟨_, rfl, _, rfl, _, rfl, _, rfl, _, _, rfl, rfl, .inr ⟨by omega, by omega⟩, _, _, rfl, rfl, a, _, _, _, rfl, rfl, ex.seq hS', a1, ?_⟩
      refine ⟨_, rfl, _, rfl, _, rfl, ?_⟩
      rw [hab]
      refine ⟨_, _, rfl, rfl, vO_scal _ _, _, rfl, iteD (fun e => ?_) (fun e => ?_)⟩
      · rw [if_pos (vO_int.mp e)] at hsu
        refine ⟨_, rfl, _, eD, len63' (by rw [List.length_map]; omega), Ex.mu ex hD, ?_⟩
        rw [upd_same, hsu, List.map_append]
        rfl
      · rw [if_neg fun z => e (vO_int.mpr z), List.append_nil] at hsu
        rw [hsu]
        exact ⟨ex, eD⟩
    · rintro H' ⟨ex, eD⟩
      obtain ⟨p1, p2⟩ := hits_pick hv1 hd hex hA2 hB2
      refine ⟨D, _, rfl, .of eD, List.length_pos_of_mem p1, fun M hM1 hM2 => ?_⟩
      have : M = pickL r v c d m (c + o) := Int.le_antisymm (p2 M hM1) (hM2 _ p1)
      rw [this]
      exact q _ ex
/-! ### the way, as pairs -/
def pairsW (ks : List Kd) (w : List Int) : List (Int × Int) := (ks.zip w).map fun x => (x.1.1, x.2)
theorem pairsW_snoc {ks : List Kd} {w : List Int} {p : Kd} {j : Int} (h : ks.length = w.length) : pairsW (ks ++ [p]) (w ++ [j]) = pairsW ks w ++ [(p.1, j)] := by
  unfold pairsW
  rw [List.zip_append h, List.map_append]
  rfl
theorem pairsW_len {ks : List Kd} {w : List Int} (h : ks.length = w.length) : (pairsW ks w).length = ks.length := by
  unfold pairsW
  rw [List.length_map, List.length_zip, h, Nat.min_self]
theorem payD_eq (ks : List Kd) (w : List Int) : payD ks w = (pairsW ks w).filter fun p => decide (0 < p.2) := by
  unfold payD pairsW
  rw [List.filter_map]
  rfl
theorem giveD_eq (ks : List Kd) (w : List Int) : giveD ks w = ((pairsW ks w).filter fun p => decide (p.2 < 0)).map fun p => (p.1, -p.2) := by
  unfold giveD pairsW
  rw [List.filter_map, List.map_map]
  rfl
def spBestWay (K : PySem.W.Frag) : Sp := fun vs H Q _ => ∃ (R t u : Addr) (as : List Addr) (ps us : List (Int × Int)) (low high : Nat) (d m : Int), vs = [.ref R, .ref t, .ref u, .int d] ∧ H R = some (.lst (as.map V.ref)) ∧ RowsAt H as (rowsL (row0L low high) (kindsOf ps us)) ∧ Till K H t ps ∧ Till K H u us ∧ Gen2 ps us ∧ low + high ≤ 2000 ∧
  cellAt (lastL (row0L low high) (kindsOf ps us)) d = some m ∧ ∀ p xs H2, Ex H H2 → H p = none → H2 p = some (.lst xs) → Prs H2 xs (pairsW (kindsOf ps us) (wayL (row0L low high) (kindsOf ps us) ps.length d)) → Q (.ref p) H2
theorem ok_best_way (T : Tx K mg) : FnOk P w K mg base CX0 2 T.a__best_way T.d__best_way P__best_way (spBestWay K) := by
  have G__greatest_number := ok_greatest (P := P) (w := w) (base := base) T
  refine T.f__best_way.ok sc__best_way (fun vs H Q E h => ?_) (fun cdv A outer s H vs Q E hr h => ?_)
  · obtain ⟨R, t, u, as, ps, us, low, high, d, m, rfl, _⟩ := h
    rfl
  · obtain ⟨R, t, u, as, ps, us, low, high, d, m, rfl, eR, hrows, ⟨xs, hS, hp⟩, ⟨ys, hSu, hu⟩, hg, hlh, hm, q⟩ := h
    refine ⟨_, (pss_cons (ps_set (i := 4) sc__best_way.nd rfl (.inl rfl) (pe_callTy (call_dictP rfl) (by rfl) T.m_dict (by decide +kernel) (pa_cons (pv 2) pa_nil)))
    (pss_cons (ps_set (i := 5) sc__best_way.nd rfl (.inl rfl) (pe_lst pa_nil))
    (pss_cons (ps_for PassesOwn.never rfl (pi_revR (by rfl) T.m_reversed (prg_1 (by rfl) T.m_range (pe_callB call_len_seq (by rfl) T.m_len (by decide +kernel) (pa_cons (pv 1) pa_nil)))) (pg_name (i := 6) sc__best_way.nd rfl (.inl rfl))
      (pss_cons (ps_asg (pe_ix ix_list (pv 1) (pv 6) (fun _ _ => rfl)) (pg_tup rfl (pgs_cons (pg_name (i := 7) sc__best_way.nd rfl (.inl rfl)) (pgs_cons (pg_name (i := 8) sc__best_way.nd rfl (.inl rfl)) pgs_nil))))
      (pss_cons (ps_set (i := 9) sc__best_way.nd rfl (.inl rfl) (pe_call G__greatest_number (hr.mono (by decide)) (by rfl) T.g__greatest_number T.f__greatest_number.kp T.p__greatest_number .nil pass0 (pa_cons (pe_ix ix_list (pv 0) (pv 6) (fun _ _ => rfl)) (pa_cons (pe_ix ix_list (pe_ix ix_list (pv 0) (pe_op op_add (pv 6) pe_int) (fun _ _ => rfl)) (pv 3) (fun _ _ => rfl)) (pa_cons (pv 3) (pa_cons (pv 7) (pa_cons (pv 8) (pa_cons (pe_dget2 (hu_of hr) (pv 4) (pv 7) pe_int ⟨by rfl, by rfl, by rfl, by rfl⟩) pa_nil))))))))
      (pss_cons (ps_expr (pe_bm PySem.F.plainAttrs_list PySem.F.slot_list_append PySem.F.type_list_append mt_append (pv 5) (pa_cons (pe_tup (pa_cons (pv 7) (pa_cons (pv 9) pa_nil))) pa_nil)))
      (pss_one (ps_aug (i := 3) sc__best_way.nd rfl (.inl rfl) (pe_op op_mul (pv 9) (pv 7)) ip_sub))))))
    (pss_one (ps_ret (pe_revL (pv 5))))))), ?_⟩
    obtain ⟨bs, rfl, hdu⟩ := prs_dk (K := K) hu
    have hpl := hp.len
    have hkl : (kindsOf ps us).length = ps.length := kindsOf_len ..
    have hl12 := hg.lp
    have hll : ∀ j, (lastL (row0L low high) ((kindsOf ps us).take j)).length = low + high + 1 := fun j => by rw [lastL_len, row0L_len]
    refine ⟨_, rfl, u, bs, dkP us, rfl, hSu, hdu, fun hd hhd => ?_⟩
    (generalize hh : upd H hd _ = H1; have e1 : Ex H H1 := (by rw [← hh]; exact Ex.nw hhd); have cd := (show H1 hd = some _ by rw [← hh]; exact upd_same); clear hh)
    refine ⟨Nat.zero_le _, fun ch hch => ?_⟩
    have hch0 : H ch = none := none_back e1 hch
    have e2 := e1.tr (Ex.nw (o := .lst []) hch)
    have ndc : hd ≠ ch := ne_of_none cd hch
    refine ⟨_, rfl, t, xs, rfl, .inl (e2.seq hS), _, rfl, by omega, by omega, by omega, by omega, ?_⟩
    refine for_rangeC (fun i σ H' => ∃ (k : Nat) (dk x : Int) (zs : List V) (acc : List (Int × Int)) (y6 y7 y8 y9 : Option V), k + i = ps.length ∧ σ = [some (.ref R), some (.ref t), some (.ref u), some (.int dk), some (.ref hd), some (.ref ch), y6, y7, y8, y9] ∧
      Ex H H' ∧ H' hd = some (.dK (mergeK [] (dkP us))) ∧ H' ch = some (.lst zs) ∧ Prs H' zs acc ∧ cellAt (lastL (row0L low high) ((kindsOf ps us).take k)) dk = some x ∧
      pairsW (kindsOf ps us) (wayL (row0L low high) (kindsOf ps us) ps.length d) = pairsW ((kindsOf ps us).take k) (wayL (row0L low high) (kindsOf ps us) k dk) ++ acc.reverse ∧ acc.length = i)
      ⟨ps.length, d, m, [], [], none, none, none, none, rfl, rfl, e2, (Ex.nw hch) _ _ cd, upd_same, .nil, by rw [← hkl, List.take_length]; exact hm, by rw [← hkl, List.take_length]; simp, rfl⟩ ?_ ?_
    · rintro i σ H' hi ⟨k, dk, x, zs, acc, y6, y7, y8, y9, hki, rfl, ex, ehd, ech, hacc, hx, hgv, hal⟩
      have hi' : i < ps.length := by omega
      obtain ⟨j, rfl⟩ : ∃ j, k = j + 1 := ⟨k - 1, by omega⟩
      have ej : (0 : Int) + ((((xs.length : Int) - 0).toNat : Nat) : Int) - 1 + (i : Int) * -1 = (j : Int) := by omega
      rw [ej]
      have hj : j < ps.length := by omega
      obtain ⟨t2, hx0, h3⟩ := Prs.getL hp (List.getElem?_eq_getElem hj)
      have hpj := List.getElem?_eq_getElem hj
      have hpv := hg.vp _ (List.getElem_mem hj)
      generalize ps[j] = p at hpj h3 hpv
      have hkj := kindsOf_at (us := us) hpj
      have hown : 0 ≤ ownOf us p.1 := by
        unfold ownOf
        cases e : countIn us p.1 with
        | none => exact Int.le_refl _
        | some c => exact (hg.vu _ (countIn_mem e)).2.2.1
      refine ⟨_, rfl, _, rfl, t, xs, _, _, rfl, rfl, ex.seq hS, at_of rfl hx0, t2, _, rfl, .of (ex _ _ h3), rfl, _, _, rfl, _, _, rfl, rfl, ?_⟩
      have hrows' := hrows.ex ex
      obtain ⟨b, ib, _, eb⟩ := at_row hrows' (i := (j : Int)) (k := j) rfl (rowsL_at _ _ (by omega))
      obtain ⟨b1, ib1, _, eb1⟩ := at_row hrows' (i := (j : Int) + 1) (k := j + 1) rfl (rowsL_at _ _ (by omega))
      have eR' := ex _ _ eR
      obtain ⟨dn, hdn, hdl, hdx⟩ := of_cellAt hx
      subst hdn
      rw [hll] at hdl
      refine ⟨_, rfl, _, rfl, R, _, _, .ref b, rfl, rfl, .of eR', ib, ?_⟩
      refine ⟨_, rfl, _, rfl, _, _, rfl, rfl, R, _, _, .ref b1, rfl, rfl, .of eR', ib1, _, rfl, b1, _, _, _, rfl, rfl, .of eb1, at_of rfl (vO_at (by rw [hll]; omega)), _, rfl, _, rfl, _, rfl, ?_⟩
      rw [hdx]
      refine ⟨_, rfl, hd, rfl, .inl ⟨_, .inl ehd⟩, _, rfl, _, DGet.k (k := Sum.inl p.1) ehd, ?_⟩
      rw [dict_val (rising_nd hg.ru), show (Option.map V.int (countIn us p.1)).getD (.int 0) = .int (ownOf us p.1) by unfold ownOf; cases countIn us p.1 <;> rfl]
      obtain ⟨g1, g2, g3, _⟩ := stepL_ok hkj hx rfl
      have gs := wayL_succ (row0L low high) (kindsOf ps us) j (dn : Int) hkj (g := pickK (lastL (row0L low high) ((kindsOf ps us).take j)) (p.1, p.2, ownOf us p.1) (dn : Int) x) (by rw [hx]; rfl)
      have hback : ∃ i : Nat, i ≤ p.2.toNat + (ownOf us p.1).toNat ∧ cellAt (lastL (row0L low high) ((kindsOf ps us).take j)) ((dn : Int) - (-(p.2.toNat : Int) + i) * p.1.toNat) = some (x - ((-(p.2.toNat : Int) + i).natAbs : Int)) := by
        have hx2 := hx
        rw [take_snoc hkj, lastL_snoc] at hx2
        obtain ⟨_, _, hl⟩ := cellAt_next hx2
        exact back_oneL hl
      refine ⟨b, _, dn, p.1.toNat, p.2.toNat, (ownOf us p.1).toNat, x, by rw [Int.toNat_of_nonneg (by omega), Int.toNat_of_nonneg (by omega), Int.toNat_of_nonneg hown]; rfl, .of eb, by rw [hll]; omega, by rw [hll]; omega, by omega, by omega, hback, fun H3 e3 => ?_⟩
      change wayL _ _ _ _ = wayL _ _ _ (_ - pickL (lastL (row0L low high) ((kindsOf ps us).take j)) p.1.toNat p.2.toNat (dn : Int) x (p.2.toNat + (ownOf us p.1).toNat) * _) ++ [pickL (lastL (row0L low high) ((kindsOf ps us).take j)) p.1.toNat p.2.toNat (dn : Int) x (p.2.toNat + (ownOf us p.1).toNat)] at gs
      change -(p.2.toNat : Int) ≤ pickL (lastL (row0L low high) ((kindsOf ps us).take j)) p.1.toNat p.2.toNat (dn : Int) x (p.2.toNat + (ownOf us p.1).toNat) at g1
      change pickL (lastL (row0L low high) ((kindsOf ps us).take j)) p.1.toNat p.2.toNat (dn : Int) x (p.2.toNat + (ownOf us p.1).toNat) ≤ _ at g2
      change cellAt _ (_ - pickL (lastL (row0L low high) ((kindsOf ps us).take j)) p.1.toNat p.2.toNat (dn : Int) x (p.2.toNat + (ownOf us p.1).toNat) * _) = some (_ - ((pickL (lastL (row0L low high) ((kindsOf ps us).take j)) p.1.toNat p.2.toNat (dn : Int) x (p.2.toNat + (ownOf us p.1).toNat)).natAbs : Int)) at g3
      generalize pickL (lastL (row0L low high) ((kindsOf ps us).take j)) p.1.toNat p.2.toNat (dn : Int) x (p.2.toNat + (ownOf us p.1).toNat) = g at g1 g2 g3 gs ⊢
      have hpv1 : (p.1.toNat : Int) = p.1 := Int.toNat_of_nonneg (by omega)
      have ech3 := e3 _ _ ech
      have hacc3 := hacc.ex e3
      refine ⟨_, rfl, .inl ⟨rfl, zs, .of ech3⟩, _, rfl, _, rfl, len63 (by show 2 ≤ _; decide), fun t3 ht3 => ?_⟩
      have nct : ch ≠ t3 := ne_of_none ech3 ht3
      have ech' : (upd H3 t3 (.tup [.int p.1, .int g])) ch = some (.lst zs) := by rw [upd_ne nct]; exact ech3
      refine ⟨ch, zs, _, rfl, rfl, ech', len63' (by rw [hacc.len]; omega), ?_⟩
      refine ⟨_, rfl, _, rfl, _, rfl, _, _, rfl, rfl, .inr ⟨by omega, by omega⟩, _, _, rfl, rfl, ?_⟩
      refine ⟨j, (dn : Int) - g * p.1, x - (g.natAbs : Int), zs ++ [.ref t3], acc ++ [(p.1, g)], some (.int (j : Int)), some (.int p.1), some (.int p.2), some (.int g), by omega, rfl, Ex.mu ((ex.tr e3).tr (Ex.nw ht3)) hch0, ?_, upd_same, ?_, ?_, ?_, by rw [List.length_append, hal]; rfl⟩
      · rw [upd_ne ndc]
        exact (Ex.nw ht3) _ _ (e3 _ _ ehd)
      · refine Prs.up (by intro ys y; rw [ech'] at y; cases y) ?_
        exact Prs.snoc (hacc3.ex (Ex.nw ht3)) ⟨t3, rfl, upd_same⟩
      · rw [← hpv1]
        exact g3
      · rw [hgv, gs, take_snoc hkj, pairsW_snoc (by rw [wayL_len, List.length_take]; omega), List.reverse_append, List.append_assoc]
        rw [show ((p.1, p.2, ownOf us p.1) : Kd).1.toNat = p.1.toNat from rfl, hpv1]
        rfl
    · rintro σ H' ⟨k, dk, x, zs, acc, y6, y7, y8, y9, hki, rfl, ex, ehd, ech, hacc, hx, hgv, hal⟩
      obtain rfl : k = 0 := by omega
      refine ⟨_, rfl, ch, zs, rfl, .of ech, fun p hp2 => ?_⟩
      refine q p _ _ (ex.tr (Ex.nw hp2)) (none_back ex hp2) upd_same ?_
      rw [hgv]
      exact (Prs.rev hacc).ex (Ex.nw hp2)
theorem at_lastL {H : Hp} {as : List Addr} {r0 : List Cell} {ks : List Kd} (h : RowsAt H as (rowsL r0 ks)) : ∃ a, atI (as.map V.ref) (-1) = some (.ref a) ∧ as[ks.length]? = some a ∧ H a = some (.lst ((lastL r0 ks).map vO)) := by
  obtain ⟨a, h1, h2⟩ := h.get (rowsL_at _ _ (Nat.le_refl _))
  rw [List.take_length] at h2
  refine ⟨a, ?_, h1, h2⟩
  have hal : (as.map V.ref).length = ks.length + 1 := by rw [List.length_map, h.len, rowsL_len]
  unfold atI
  rw [show ixN (as.map V.ref).length (-1) = some ks.length by
    unfold ixN
    rw [if_neg (by omega), if_pos (by omega)]
    congr 1
    omega]
  show (as.map V.ref)[ks.length]? = _
  rw [List.getElem?_map, h1]
  rfl
theorem ok_deal (T : Tx K mg) : FnOk P w K mg base (L2.CX P w) 5 T.a_deal T.d_deal P_deal (spDeal K T.c_NoKind T.c_NoSum T.c_NoChange) := by
  have G_check_sum := ok_check_sum (P := P) (w := w) (base := base) T
  have G_scales := ok_scales (P := P) (w := w) (base := base) T
  have G_worth := ok_worth (P := P) (w := w) (base := base) T
  have G__best_way := ok_best_way (P := P) (w := w) (base := base) T
  refine T.f_deal.okX sc_deal (fun vs H Q E h => ?_) (fun cdv A outer s H vs Q E hr h => ?_)
  · obtain ⟨t, u, ps, us, c, rfl, _⟩ := h
    rfl
  · obtain ⟨t, u, ps, us, c, rfl, hT, hU, hg, qk, qs, qc, q⟩ := h
    refine ⟨_, (pss_cons (ps_expr (pe_call G_check_sum (hr.mono (by decide)) (by rfl) T.g_check_sum T.f_check_sum.kp T.p_check_sum .nil (passes_call (takes_of rfl rfl rfl rfl) fun _ _ _ _ h => h) (pa_cons (pv 2) pa_nil)))
    (pss_cons (ps_set (i := 3) sc_deal.nd rfl (.inl rfl) (pe_call G_scales (hr.mono (by decide)) (by rfl) T.g_scales T.f_scales.kp T.p_scales .nil (passes_call (takes_of rfl rfl rfl rfl) fun _ _ _ _ h => h) (pa_cons (pv 0) (pa_cons (pv 1) pa_nil))))
    (pss_cons (ps_set (i := 4) sc_deal.nd rfl (.inl rfl) (pe_op op_add (pe_call G_worth (hr.mono (by decide)) (by rfl) T.g_worth T.f_worth.kp T.p_worth .nil pass0 (pa_cons (pv 0) pa_nil)) (pv 2)))
    (pss_cons (ps_if (PW.pt (pw_or (pt_cmpR op_ge (pv 4) (pe_callB call_len_seq (by rfl) T.m_len (by decide +kernel) (pa_cons (pe_ix ix_list (pv 3) (pe_un un_neg pe_int) (fun _ _ => rfl)) pa_nil)) (nomark _)) (pw_or1 (pt_cmpR op_isN (pe_ix ix_list (pe_ix ix_list (pv 3) (pe_un un_neg pe_int) (fun _ _ => rfl)) (pv 4) (fun _ _ => rfl)) pe_non (nomark _)))))
      (pss_one (ps_raise rfl (takes_of rfl rfl rfl rfl) (pmk_own PySem.F.excBase_ValueError T.x_NoChange T.g_NoChange T.k_NoChange (raises_own T.b_NoChange T.t_NoChange) rfl)))
      pss_nil)
    (pss_cons (ps_set (i := 5) sc_deal.nd rfl (.inl rfl) (pe_call G__best_way (hr.mono (by decide)) (by rfl) T.g__best_way T.f__best_way.kp T.p__best_way .nil pass0 (pa_cons (pv 3) (pa_cons (pv 0) (pa_cons (pv 1) (pa_cons (pv 4) pa_nil))))))
    (pss_cons (ps_setLc (i := 6) (own := [("value", 8), ("number", 9)]) (g := gTup K 2 (gCons (gName 8) (gCons (gName 9) gNil))) rfl sc_deal.nd rfl rfl (sw_true rfl rfl rfl (by decide +kernel)) (pi_list (pv 5)) (blkOk_by (own := [("value", 8), ("number", 9)]) (N := N_deal) (sc := defScope s_deal) (by decide +kernel)) (fun _ _ _ _ _ => pg_tup rfl (pgs_cons (pg_name (i := 8) sc_deal.nd rfl (.inl rfl) (.inr rfl)) (pgs_cons (pg_name (i := 9) sc_deal.nd rfl (.inl rfl) (.inr rfl)) pgs_nil))) (fun _ _ _ _ _ => (pts_one (pt_cmpR op_gt (pv 9) pe_int (nomark _)))) (fun _ _ _ _ _ => (pe_tup (pa_cons (pv 8) (pa_cons (pv 9) pa_nil)))))
    (pss_cons (ps_setLc (i := 7) (own := [("value", 8), ("number", 9)]) (g := gTup K 2 (gCons (gName 8) (gCons (gName 9) gNil))) rfl sc_deal.nd rfl rfl (sw_true rfl rfl rfl (by decide +kernel)) (pi_list (pv 5)) (blkOk_by (own := [("value", 8), ("number", 9)]) (N := N_deal) (sc := defScope s_deal) (by decide +kernel)) (fun _ _ _ _ _ => pg_tup rfl (pgs_cons (pg_name (i := 8) sc_deal.nd rfl (.inl rfl) (.inr rfl)) (pgs_cons (pg_name (i := 9) sc_deal.nd rfl (.inl rfl) (.inr rfl)) pgs_nil))) (fun _ _ _ _ _ => (pts_one (pt_cmpR op_lt (pv 9) pe_int (nomark _)))) (fun _ _ _ _ _ => (pe_tup (pa_cons (pv 8) (pa_cons (pe_un un_neg (pv 9)) pa_nil)))))
    (pss_one (ps_ret (pe_tup (pa_cons (pv 6) (pa_cons (pv 7) pa_nil)))))))))))), ?_⟩
    refine ⟨_, rfl, c, rfl, fun hc => ?_, fun hc => qs (by unfold dueDl; rw [if_neg hc]) _ Ex.rfl'⟩
    refine ⟨_, rfl, _, rfl, t, u, ps, us, rfl, hT, hU, hg, fun hd H2 e2 => qk (by unfold dueDl; rw [if_pos hc, hd, if_neg (by decide)]) _ e2, fun hd H2 e2 => qs (by unfold dueDl; rw [if_pos hc, hd, if_neg (by decide)]) _ e2, fun hd => ?_⟩
    intro R as H2 e2 hfr hnd eR hrows
    have hw15 : worthP ps + worthP us ≤ 1500 := by
      unfold dueS at hd
      split at hd
      · cases hd
      · split at hd
        · cases hd
        · omega
    have hwp := gen_worth hg.vp
    have hwu := gen_worth hg.vu
    have hdl : dueDl ps us c = if cellD ps us c = none then ("change" : Str) else ("" : Str) := by
      unfold dueDl
      rw [if_pos hc, if_pos hd]
    unfold scalesOf at hrows
    obtain ⟨z, iz, _, ez⟩ := at_lastL hrows
    have hll : (lastL (row0L (lowOf ps) (lowOf us)) (kindsOf ps us)).length = lowOf ps + lowOf us + 1 := by rw [lastL_len, row0L_len]
    refine ⟨_, rfl, t, ps, rfl, hT.ex e2, by have := hg.lp; omega, fun p hp => by have := hg.vp p hp; omega, fun H3 e3 => ?_⟩
    rw [hwp]
    refine ⟨_, rfl, _, _, rfl, rfl, ?_⟩
    have ex3 := e2.tr e3
    have eR3 := e3 _ _ eR
    have ez3 := e3 _ _ ez
    have hrl : ((((lastL (row0L (lowOf ps) (lowOf us)) (kindsOf ps us)).map vO).length : Nat) : Int) = (lowOf ps : Int) + (lowOf us : Int) + 1 := by rw [List.length_map, hll]; omega
    have refuse : cellD ps us c = none → ∀ H4, Ex H3 H4 → E (.ref T.c_NoChange) none H4 := fun hn H4 e4 => qc (by rw [hdl, if_pos hn]) _ (ex3.tr e4)
    refine ⟨_, rfl, _, rfl, _, rfl, R, _, _, .ref z, rfl, rfl, .of eR3, iz, z, _, rfl, .inl (.of ez3), _, _, rfl, rfl, _, rfl, iteD (fun e => ?_) (fun e => ?_)⟩
    · have e' : (lowOf ps : Int) + c ≥ (lowOf ps : Int) + (lowOf us : Int) + 1 := by rw [← hrl]; exact e
      refine iteT (refuse ?_ _ Ex.rfl')
      unfold cellD cellAt
      rw [if_neg fun y => by have := y.2; rw [hll] at this; omega]
    have e' : ¬ (lowOf ps : Int) + c ≥ (lowOf ps : Int) + (lowOf us : Int) + 1 := by rw [← hrl]; exact e
    have hcz : cellD ps us c = rAt (lastL (row0L (lowOf ps) (lowOf us)) (kindsOf ps us)) ((lowOf ps : Int) + c).toNat := if_pos ⟨by omega, by rw [hll]; omega⟩
    have ia : atI ((lastL (row0L (lowOf ps) (lowOf us)) (kindsOf ps us)).map vO) ((lowOf ps : Int) + c) = some (vO (cellD ps us c)) := at_of (j := ((lowOf ps : Int) + c).toNat) (by omega) (by rw [hcz]; exact vO_at (by rw [hll]; omega))
    refine ⟨_, rfl, _, rfl, R, _, _, .ref z, rfl, rfl, .of eR3, iz, _, rfl, z, _, _, _, rfl, rfl, .of ez3, ia, ?_⟩
    cases hx : cellD ps us c with
    | none => exact ⟨rfl, _, rfl, iteD (fun _ => refuse hx _ Ex.rfl') (fun y => absurd rfl y)⟩
    | some m =>
      refine ⟨rfl, _, rfl, iteD (fun y => nomatch y) (fun _ => ?_)⟩
      have q1 := q (by rw [hdl, if_neg (by rw [hx]; exact fun y => nomatch y)])
      refine ⟨_, rfl, _, rfl, _, rfl, _, rfl, R, t, u, as, ps, us, lowOf ps, lowOf us, (lowOf ps : Int) + c, m, rfl, eR3, hrows.ex e3, (hT.ex e2).ex e3, hU.ex ex3, hg, by omega, hx, fun wy xs H4 e4 hwy ewy hpw => ?_⟩
      have ex4 := ex3.tr e4
      change Prs H4 xs (pairsW (kindsOf ps us) (wayOf ps us c)) at hpw
      have hwl : (pairsW (kindsOf ps us) (wayOf ps us c)).length ≤ 12 := by
        unfold wayOf
        rw [pairsW_len (by rw [wayL_len, kindsOf_len]), kindsOf_len]
        exact hg.lp.2
      rw [payD_eq, giveD_eq] at q1
      generalize pairsW (kindsOf ps us) (wayOf ps us c) = ws at hpw hwl q1
      have hxl := hpw.len
      refine ⟨_, rfl, wy, rfl, ⟨xs, .of ewy⟩, fun D hD => lc_list (xs := xs) (fun i H' => ∃ ys, Ex H4 H' ∧ H' D = some (.lst ys) ∧ ys.length ≤ i ∧ Prs H' ys ((ws.take i).filter fun p : Int × Int => decide (0 < p.2))) ⟨[], Ex.nw hD, upd_same, Nat.le_refl _, .nil⟩ (fun i H' _ h => by
        obtain ⟨_, e, _⟩ := h
        exact .of (e _ _ ewy)) ?_ ?_⟩
      · rintro i x H' hx ⟨ys, ex, eD, hyl, hys⟩
        obtain ⟨p, t1, h1, rfl, h3⟩ := Prs.get hpw hx
        have hi : i < ws.length := (List.getElem?_eq_some_iff.mp h1).1
        refine ⟨t1, _, rfl, .of (ex _ _ h3), rfl, _, _, rfl, _, _, rfl, rfl, rfl, ?_⟩
        refine ⟨_, rfl, _, _, rfl, rfl, _, rfl, iteD (fun e => ?_) (fun e => ?_)⟩
        · have e2 : 0 < p.2 := e
          refine ⟨_, rfl, _, rfl, len63 (by show 2 ≤ _; decide), fun t2 ht2 => ?_⟩
          have nDt : D ≠ t2 := ne_of_none eD ht2
          have eD' : (upd H' t2 (.tup [.int p.1, .int p.2])) D = some (.lst ys) := by rw [upd_ne nDt]; exact eD
          refine ⟨ys, eD', len63' (by omega), ys ++ [.ref t2], Ex.mu (ex.tr (Ex.nw ht2)) hD, upd_same, by rw [List.length_append]; show _ + 1 ≤ _; omega, ?_⟩
          rw [take_snoc h1, List.filter_append, show List.filter (fun p : Int × Int => decide (0 < p.2)) [p] = [p] from List.filter_cons_of_pos (by simpa using e2)]
          refine Prs.up (by intro bs y; rw [eD'] at y; cases y) ?_
          exact Prs.snoc (hys.ex (Ex.nw ht2)) ⟨t2, rfl, upd_same⟩
        · have e2 : ¬ 0 < p.2 := e
          refine ⟨ys, ex, eD, by omega, ?_⟩
          rw [take_snoc h1, List.filter_append, show List.filter (fun p : Int × Int => decide (0 < p.2)) [p] = [] from List.filter_cons_of_neg (by simpa using e2), List.append_nil]
          exact hys
      rintro H5 ⟨ys, e5, eD, hyl, hys⟩
      rw [List.take_of_length_le (by omega)] at hys
      have ewy5 := e5 _ _ ewy
      have hpw5 := hpw.ex e5
      refine ⟨_, rfl, wy, rfl, ⟨xs, .of ewy5⟩, fun G hG => lc_list (xs := xs) (fun i H' => ∃ zs, Ex H5 H' ∧ H' G = some (.lst zs) ∧ zs.length ≤ i ∧ Prs H' zs (((ws.take i).filter fun p : Int × Int => decide (p.2 < 0)).map fun p => (p.1, -p.2))) ⟨[], Ex.nw hG, upd_same, Nat.le_refl _, .nil⟩ (fun i H' _ h => by
        obtain ⟨_, e, _⟩ := h
        exact .of (e _ _ ewy5)) ?_ ?_⟩
      · rintro i x H' hx ⟨zs, ex, eG, hzl, hzs⟩
        obtain ⟨p, t1, h1, rfl, h3⟩ := Prs.get hpw5 hx
        have hi : i < ws.length := (List.getElem?_eq_some_iff.mp h1).1
        refine ⟨t1, _, rfl, .of (ex _ _ h3), rfl, _, _, rfl, _, _, rfl, rfl, rfl, ?_⟩
        refine ⟨_, rfl, _, _, rfl, rfl, _, rfl, iteD (fun e => ?_) (fun e => ?_)⟩
        · have e2 : p.2 < 0 := e
          refine ⟨_, rfl, _, rfl, _, rfl, len63 (by show 2 ≤ _; decide), fun t2 ht2 => ?_⟩
          have nDt : G ≠ t2 := ne_of_none eG ht2
          have eG' : (upd H' t2 (.tup [.int p.1, .int (-p.2)])) G = some (.lst zs) := by rw [upd_ne nDt]; exact eG
          refine ⟨zs, eG', len63' (by omega), zs ++ [.ref t2], Ex.mu (ex.tr (Ex.nw ht2)) hG, upd_same, by rw [List.length_append]; show _ + 1 ≤ _; omega, ?_⟩
          rw [take_snoc h1, List.filter_append, show List.filter (fun p : Int × Int => decide (p.2 < 0)) [p] = [p] from List.filter_cons_of_pos (by simpa using e2), List.map_append]
          refine Prs.up (by intro bs y; rw [eG'] at y; cases y) ?_
          exact Prs.snoc (hzs.ex (Ex.nw ht2)) ⟨t2, rfl, upd_same⟩
        · have e2 : ¬ p.2 < 0 := e
          refine ⟨zs, ex, eG, by omega, ?_⟩
          rw [take_snoc h1, List.filter_append, show List.filter (fun p : Int × Int => decide (p.2 < 0)) [p] = [] from List.filter_cons_of_neg (by simpa using e2), List.append_nil]
          exact hzs
      rintro H6 ⟨zs, e6, eG, hzl, hzs⟩
      rw [List.take_of_length_le (by omega)] at hzs
      have eD6 := e6 _ _ eD
      refine ⟨_, rfl, _, rfl, len63 (by show 2 ≤ _; decide), fun l hl => ?_⟩
      have ex6 := (ex4.tr e5).tr e6
      exact q1 l D G ys zs _ (ex6.tr (Ex.nw hl)) (none_back ex6 hl) (none_back ex4 hD) (none_back (ex4.tr e5) hG) (ne_of_none eD6 hl).symm (ne_of_none eG hl).symm (ne_of_none eD hG) upd_same ((Ex.nw hl) _ _ eD6) ((Ex.nw hl) _ _ eG) (((hys.ex e6)).ex (Ex.nw hl)) (hzs.ex (Ex.nw hl))
/-! ### what is in the purse, told by the kinds of the till -/
theorem sum_same {ps : List (Int × Int)} {f g : Int → Int} (h : ∀ p ∈ ps, f p.1 = g p.1) : (ps.map fun p => f p.1).sum = (ps.map fun p => g p.1).sum := by
  congr 1
  exact List.map_congr_left h
theorem sum_split {v : Int} {f g : Int → Int} (hfg : ∀ x, x ≠ v → f x = g x) : ∀ {ps : List (Int × Int)}, (ps.map (·.1)).Nodup → v ∈ ps.map (·.1) → (ps.map fun p => f p.1).sum = (ps.map fun p => g p.1).sum + (f v - g v)
  | [], _, h => by cases h
  | p :: ps, nd, h => by
    rw [List.map_cons, List.nodup_cons] at nd
    rw [List.map_cons, List.map_cons, List.sum_cons, List.sum_cons]
    by_cases e : p.1 = v
    · rw [e, sum_same (f := f) (g := g) (ps := ps) fun q hq => hfg _ fun z => nd.1 (by rw [e, ← z]; exact List.mem_map.mpr ⟨q, hq, rfl⟩)]
      omega
    · rw [List.map_cons] at h
      rcases List.mem_cons.mp h with z | z
      · exact absurd z.symm e
      · rw [hfg _ e, sum_split hfg nd.2 z]
        omega
theorem own_sum {ps : List (Int × Int)} (nd : (ps.map (·.1)).Nodup) : ∀ {us : List (Int × Int)}, (us.map (·.1)).Nodup → (∀ u ∈ us, u.1 ∈ ps.map (·.1)) → (ps.map fun p => p.1 * ownOf us p.1).sum = worthP us
  | [], _, _ => by
    show (ps.map fun p => p.1 * 0).sum = 0
    induction ps with
    | nil => rfl
    | cons p ps ih =>
      rw [List.map_cons, List.sum_cons, ih (by rw [List.map_cons, List.nodup_cons] at nd; exact nd.2) (fun u hu => by cases hu), Int.mul_zero]
      rfl
  | u :: us, nu, h => by
    rw [List.map_cons, List.nodup_cons] at nu
    have ih := own_sum nd nu.2 fun q hq => h q (List.mem_cons_of_mem _ hq)
    have h0 : ownOf us u.1 = 0 := by
      unfold ownOf
      rw [countIn_none fun q hq z => nu.1 (by rw [← z]; exact List.mem_map.mpr ⟨q, hq, rfl⟩)]
      rfl
    have := sum_split (v := u.1) (f := fun x => x * ownOf (u :: us) x) (g := fun x => x * ownOf us x) (fun x hx => by
      show x * ownOf (u :: us) x = x * ownOf us x
      rw [ownOf_cons, if_neg fun z => hx z.symm]) nd (h u List.mem_cons_self)
    have h1 : ownOf (u :: us) u.1 = u.2 := by rw [ownOf_cons, if_pos rfl]
    simp only [h0, h1, Int.mul_zero, Int.sub_zero] at this
    rw [this, ih]
    unfold worthP
    rw [List.map_cons, List.sum_cons]
    omega
/-- a till and a purse whose kinds all lie in the till -/
theorem kinds_fit {ps us : List (Int × Int)} (hg : Gen2 ps us) (hl : lacks ps us = false) : KdOk (kindsOf ps us) ∧ loK (kindsOf ps us) = lowOf ps ∧ hiK (kindsOf ps us) = lowOf us := by
  have hin : ∀ u ∈ us, u.1 ∈ ps.map (·.1) := fun u hu => by
    unfold lacks at hl
    rw [List.any_eq_false] at hl
    have := hl u hu
    simpa using this
  refine ⟨fun k hk => ?_, ?_, ?_⟩
  · obtain ⟨p, hp, rfl⟩ := List.mem_map.mp hk
    have := hg.vp p hp
    refine ⟨this.1, this.2.2.1, ?_⟩
    show 0 ≤ ownOf us p.1
    unfold ownOf
    cases e : countIn us p.1 with
    | none => exact Int.le_refl _
    | some c => exact (hg.vu _ (countIn_mem e)).2.2.1
  · rw [← gen_worth hg.vp]
    unfold loK kindsOf worthP
    rw [List.map_map]
    rfl
  · rw [← gen_worth hg.vu, ← own_sum (rising_nd hg.rp) (rising_nd hg.ru) hin]
    unfold hiK kindsOf
    rw [List.map_map]
    rfl
/-- the way told is the best of all -/
theorem way_best {ps us : List (Int × Int)} {c : Int} (hg : Gen2 ps us) (hl : lacks ps us = false) :
    (∀ w ∈ waysD (kindsOf ps us) ps.length, worthD (kindsOf ps us) w = c → ∃ m, cellD ps us c = some m ∧ m ≤ fewD w) ∧
    ∀ m, cellD ps us c = some m → wayOf ps us c ∈ waysD (kindsOf ps us) ps.length ∧ worthD (kindsOf ps us) (wayOf ps us c) = c ∧ fewD (wayOf ps us c) = m ∧
      ∀ w ∈ waysD (kindsOf ps us) ps.length, worthD (kindsOf ps us) w = c → w ≠ wayOf ps us c → betterD (wayOf ps us c) w = true ∧ betterD w (wayOf ps us c) = false := by
  obtain ⟨h1, h2, h3⟩ := kinds_fit hg hl
  have hkl : (kindsOf ps us).length = ps.length := kindsOf_len ..
  have tk : (kindsOf ps us).take ps.length = kindsOf ps us := by rw [← hkl, List.take_length]
  have some_of : ∀ w ∈ waysD (kindsOf ps us) ps.length, worthD (kindsOf ps us) w = c → ∃ m, cellD ps us c = some m ∧ m ≤ fewD w := fun w hw hwc => by
    have := wayD_some h1 h2 h3 (k := ps.length) (by omega) hw
    rw [tk, hwc] at this
    exact this
  refine ⟨some_of, fun m hm => ?_⟩
  obtain ⟨g1, g2, g3, g4⟩ := wayL_best h1 h2 h3 (k := ps.length) (d := (lowOf ps : Int) + c) (m := m) (by omega) (by rw [tk]; exact hm)
  rw [tk] at g2 g4
  change wayOf ps us c ∈ _ at g1
  change worthD _ (wayOf ps us c) = _ at g2
  change fewD (wayOf ps us c) = _ at g3
  change ∀ w ∈ _, _ → w ≠ wayOf ps us c → _ → lexI (wayOf ps us c).reverse w.reverse = true ∧ lexI w.reverse (wayOf ps us c).reverse = false at g4
  refine ⟨g1, by omega, g3, fun w hw hwc hne => ?_⟩
  obtain ⟨m', hm', hle⟩ := some_of w hw hwc
  rw [hm] at hm'
  cases hm'
  unfold betterD
  by_cases e : fewD (wayOf ps us c) = fewD w
  · rw [if_pos e, if_pos e.symm]
    exact g4 w hw (by omega) hne (by omega)
  · rw [if_neg e, if_neg (Ne.symm e)]
    exact ⟨decide_eq_true (by omega), decide_eq_false (by omega)⟩
def pairD (a b : List (Int × Int)) : PyData := .tuple [.list (a.map dP), .list (b.map dP)]
theorem shaped_pair (a b : List (Int × Int)) : SeqAt.shaped (pairD a b) = true := by
  unfold SeqAt.shaped
  have h1 : PyData.canLay0 (pairD a b) = true := by
    show (PyData.canLayAll0 (a.map dP) && (PyData.canLayAll0 (b.map dP) && true)) = true
    rw [canLay_dPs, canLay_dPs]
    rfl
  have h2 : PyData.depth (pairD a b) ≤ 64 := by
    have x := depth_dPs a
    have y := depth_dPs b
    simp only [pairD, PyData.depth, PyData.depthAll]
    omega
  rw [h1, decide_eq_true h2]
  rfl
/-! ### what is paid, by itself -/
def fullP (ps : List (Int × Int)) (vals : List Int) : List (Int × Int) := ps.map fun p => (p.1, p.2 + (vals.count p.1 : Int))
theorem fullP_nil (ps : List (Int × Int)) : fullP ps [] = ps := by
  unfold fullP
  refine (List.map_congr_left fun p _ => ?_).trans (List.map_id ps)
  show (p.1, p.2 + ((List.count p.1 [] : Nat) : Int)) = p
  rw [List.count_nil]
  simp
theorem fullP_len (ps : List (Int × Int)) (vals : List Int) : (fullP ps vals).length = ps.length := List.length_map _
theorem fullP_snoc (ps : List (Int × Int)) (vals : List Int) (v : Int) : fullP ps (vals ++ [v]) = addC (fullP ps vals) v 1 := by
  unfold fullP addC
  rw [List.map_map]
  refine List.map_congr_left fun p _ => ?_
  show (p.1, p.2 + ((List.count p.1 (vals ++ [v]) : Nat) : Int)) = if p.1 = v then (p.1, p.2 + ((List.count p.1 vals : Nat) : Int) + 1) else (p.1, p.2 + ((List.count p.1 vals : Nat) : Int))
  rw [List.count_append]
  by_cases e : p.1 = v
  · rw [if_pos e, e, List.count_singleton_self]
    congr 1
    omega
  · rw [if_neg e, List.count_eq_zero.mpr (fun z => e (List.mem_singleton.mp z))]
    rfl
theorem countIn_full (ps : List (Int × Int)) (vals : List Int) (v : Int) : countIn (fullP ps vals) v = (countIn ps v).map fun t => t + (vals.count v : Int) := by
  induction ps with
  | nil => rfl
  | cons p ps ih =>
    show countIn ((p.1, p.2 + (vals.count p.1 : Int)) :: fullP ps vals) v = _
    rw [countIn_cons, countIn_cons, ih]
    by_cases e : p.1 = v
    · rw [if_pos e, if_pos e, ← e]
      rfl
    · rw [if_neg e, if_neg e]
def pieceDue (ps : List (Int × Int)) (pre : List Int) (v : Int) : Str := match countIn (fullP ps pre) v with
  | none => "kind"
  | some t => if t = 1000000000 then "count" else ""
theorem pieceDue_in (ps : List (Int × Int)) (pre : List Int) (v : Int) : pieceDue ps pre v = "kind" ∨ pieceDue ps pre v = "count" ∨ pieceDue ps pre v = "" := by
  unfold pieceDue
  cases countIn (fullP ps pre) v with
  | none => exact .inl rfl
  | some t =>
    show (if t = 1000000000 then ("count" : Str) else "") = _ ∨ (if t = 1000000000 then ("count" : Str) else "") = _ ∨ (if t = 1000000000 then ("count" : Str) else "") = _
    split
    · exact .inr (.inl rfl)
    · exact .inr (.inr rfl)
def walkDue (ps : List (Int × Int)) : List Int → List Int → Str
  | _, [] => ""
  | pre, v :: r => if pieceDue ps pre v = "" then walkDue ps (pre ++ [v]) r else pieceDue ps pre v
theorem walkDue_cons (ps : List (Int × Int)) (pre : List Int) (v : Int) (r : List Int) : walkDue ps pre (v :: r) = if pieceDue ps pre v = "" then walkDue ps (pre ++ [v]) r else pieceDue ps pre v := rfl
theorem walkDue_in (ps : List (Int × Int)) : ∀ (r pre : List Int), walkDue ps pre r = "kind" ∨ walkDue ps pre r = "count" ∨ walkDue ps pre r = ""
  | [], _ => .inr (.inr rfl)
  | v :: r, pre => by
    unfold walkDue
    split
    · exact walkDue_in ps r _
    · exact pieceDue_in ps pre v
/-- the refusal that is due ahead of the change -/
def dueP (ps : List (Int × Int)) (c : Int) (vals : List Int) : Str :=
  if 0 ≤ c ∧ c ≤ 1000 then (if 60 < vals.length then "count" else if walkDue ps [] vals = "" then (if vals.sum < c then "little" else if vals.sum - c > 1000 then "sum" else "") else walkDue ps [] vals) else "sum"
theorem dueP_walk {ps : List (Int × Int)} {c : Int} {vals : List Int} (hc : 0 ≤ c ∧ c ≤ 1000) (hl : ¬ 60 < vals.length) {s : Str} (h : walkDue ps [] vals = s) (hs : s ≠ "") : dueP ps c vals = s := by
  unfold dueP
  rw [if_pos hc, if_neg hl, if_neg (by rw [h]; exact hs), h]
theorem dueP_end {ps : List (Int × Int)} {c : Int} {vals : List Int} (hc : 0 ≤ c ∧ c ≤ 1000) (hl : ¬ 60 < vals.length) (h : walkDue ps [] vals = "") : dueP ps c vals = if vals.sum < c then ("little" : Str) else if vals.sum - c > 1000 then "sum" else "" := by
  unfold dueP
  rw [if_pos hc, if_neg hl, if_pos h]
theorem dueP_in (ps : List (Int × Int)) (c : Int) (vals : List Int) : dueP ps c vals = "sum" ∨ dueP ps c vals = "count" ∨ dueP ps c vals = "kind" ∨ dueP ps c vals = "little" ∨ dueP ps c vals = "" := by
  unfold dueP
  split
  · split
    · exact .inr (.inl rfl)
    · split
      · split
        · exact .inr (.inr (.inr (.inl rfl)))
        · split
          · exact .inl rfl
          · exact .inr (.inr (.inr (.inr rfl)))
      · rcases walkDue_in ps vals [] with e | e | e <;> rw [e]
        · exact .inr (.inr (.inl rfl))
        · exact .inr (.inl rfl)
        · exact .inr (.inr (.inr (.inr rfl)))
  · exact .inl rfl
theorem dueP_ok {ps : List (Int × Int)} {c : Int} {vals : List Int} (h : dueP ps c vals = "") : (0 ≤ c ∧ c ≤ 1000) ∧ vals.length ≤ 60 ∧ walkDue ps [] vals = "" ∧ 0 ≤ vals.sum - c ∧ vals.sum - c ≤ 1000 := by
  unfold dueP at h
  split at h
  · next hc =>
    split at h
    · cases h
    · split at h
      · next hw =>
        split at h
        · cases h
        · split at h
          · cases h
          · exact ⟨hc, by omega, hw, by omega, by omega⟩
      · next hw => exact absurd h hw
  · cases h
theorem addC_tl {ps : List (Int × Int)} {v : Int} (h : Tl ps) (hc : ∀ t, countIn ps v = some t → t < 1000000000) : Tl (addC ps v 1) := by
  have hm : ∀ p ∈ addC ps v 1, ∃ q ∈ ps, p.1 = q.1 ∧ (p.2 = q.2 ∨ (q.1 = v ∧ p.2 = q.2 + 1)) := fun p hp => by
    obtain ⟨q, hq, rfl⟩ := List.mem_map.mp hp
    refine ⟨q, hq, ?_⟩
    by_cases e : q.1 = v
    · rw [if_pos e]
      exact ⟨rfl, .inr ⟨e, rfl⟩⟩
    · rw [if_neg e]
      exact ⟨rfl, .inl rfl⟩
  refine ⟨?_, fun p hp => ?_, fun p hp => ?_, ?_⟩
  · have h1 := h.ris
    unfold Rising at h1 ⊢
    unfold addC
    rw [List.pairwise_map]
    refine h1.imp fun {a b} hab => ?_
    have e1 : (if a.1 = v then (a.1, a.2 + 1) else a).1 = a.1 := by split <;> rfl
    have e2 : (if b.1 = v then (b.1, b.2 + 1) else b).1 = b.1 := by split <;> rfl
    rw [e1, e2]
    exact hab
  · obtain ⟨q, hq, e, _⟩ := hm p hp
    rw [e]
    exact h.val q hq
  · obtain ⟨q, hq, e, e2⟩ := hm p hp
    have h1 := h.cnt q hq
    rcases e2 with e2 | ⟨e2, e3⟩
    · omega
    · have h2 := countIn_nd h.nd hq
      rw [e2] at h2
      have := hc _ h2
      omega
  · unfold addC
    rw [List.length_map]
    exact h.len
theorem pieceDue_eq {ps : List (Int × Int)} {pre : List Int} (h : Tl (fullP ps pre)) (v : Int) : dueK (fullP ps pre) 0 v 1 = pieceDue ps pre v := by
  unfold dueK pieceDue
  rw [if_pos (by decide)]
  cases e : countIn (fullP ps pre) v with
  | none =>
    rw [there_none e, if_pos (by decide)]
  | some t =>
    have hb := h.there_nn e
    rw [there_some e, if_neg (by omega)]
    show _ = if t = 1000000000 then ("count" : Str) else ""
    by_cases e2 : t = 1000000000
    · rw [if_pos (by omega), if_pos e2]
    · rw [if_neg (by omega), if_neg (fun z => absurd z.1 (by decide)), if_neg e2]
theorem pieceDue_tl {ps : List (Int × Int)} {pre : List Int} (h : Tl (fullP ps pre)) {v : Int} (hd : pieceDue ps pre v = "") : Tl (fullP ps (pre ++ [v])) := by
  rw [fullP_snoc]
  refine addC_tl h fun t ht => ?_
  unfold pieceDue at hd
  rw [ht] at hd
  have hb := h.there_nn ht
  change (if t = 1000000000 then ("count" : Str) else "") = "" at hd
  split at hd
  · cases hd
  · omega
theorem walk_tl {ps : List (Int × Int)} : ∀ {r pre : List Int}, Tl (fullP ps pre) → walkDue ps pre r = "" → Tl (fullP ps (pre ++ r))
  | [], pre, h, _ => by rw [List.append_nil]; exact h
  | v :: r, pre, h, hw => by
    unfold walkDue at hw
    split at hw
    · next hd =>
      have := walk_tl (r := r) (pieceDue_tl h hd) hw
      rw [List.append_assoc] at this
      exact this
    · next hd => exact absurd hw hd
/-- what the table tells of it, the change, the till behind -/
def sumP (c : Int) (vals : List Int) : Nat := (vals.sum - c).toNat
def cellP (ps : List (Int × Int)) (c : Int) (vals : List Int) : Cell := rAt (lastRow (row0 (sumP c vals)) (fullP ps vals)) (sumP c vals)
def gsP (ps : List (Int × Int)) (c : Int) (vals : List Int) : List (Int × Int) := given (row0 (sumP c vals)) (fullP ps vals) (fullP ps vals).length (sumP c vals)
def behP (ps : List (Int × Int)) (c : Int) (vals : List Int) : List (Int × Int) := (fullP ps vals).map fun p => (p.1, p.2 - ownOf (gsP ps c vals) p.1)
theorem gsP_ok {ps : List (Int × Int)} {c : Int} {vals : List Int} (hT : Tl ps) (hd : dueP ps c vals = "") {m : Int} (hm : cellP ps c vals = some m) :
    worthP (gsP ps c vals) = (sumP c vals : Int) ∧ manyP (gsP ps c vals) = m ∧ (∀ q ∈ gsP ps c vals, 1 ≤ q.1 ∧ q.1 ≤ 1000 ∧ 1 ≤ q.2 ∧ ∃ t, (q.1, t) ∈ fullP ps vals ∧ q.2 ≤ t) ∧ Rising (gsP ps c vals) ∧ (gsP ps c vals).length ≤ 10 := by
  obtain ⟨_, _, hw, _, _⟩ := dueP_ok hd
  have ht := walk_tl (r := vals) (pre := []) (by rw [fullP_nil]; exact hT) hw
  rw [List.nil_append] at ht
  obtain ⟨h1, h2, h3, h4, h5⟩ := given_ok (ps := fullP ps vals) (n := sumP c vals) (fun p hp => (ht.val p hp).1) (Nat.le_refl (fullP ps vals).length) (Nat.lt_succ_self (sumP c vals)) (m := m) (by rw [List.take_length]; exact hm)
  refine ⟨h1, h2, fun q hq => ?_, h4 ht.ris, Nat.le_trans h5 ht.len.2⟩
  obtain ⟨a, t, b, b'⟩ := h3 q hq
  rw [List.take_length] at b
  have := ht.val _ b
  exact ⟨this.1, this.2, a, t, b, b'⟩
/-! ### a price, paid -/
def OutP (cS cC cK cL cN : Addr) (ps : List (Int × Int)) (c : Int) (vals : List Int) (H : Hp) (Q : VK) (E : XK) : Prop :=
  (dueP ps c vals = "sum" → ∀ H2, Ex H H2 → E (.ref cS) none H2) ∧ (dueP ps c vals = "count" → ∀ H2, Ex H H2 → E (.ref cC) none H2) ∧ (dueP ps c vals = "kind" → ∀ H2, Ex H H2 → E (.ref cK) none H2) ∧ (dueP ps c vals = "little" → ∀ H2, Ex H H2 → E (.ref cL) none H2) ∧
  (dueP ps c vals = "" → cellP ps c vals = none → ∀ H2, Ex H H2 → E (.ref cN) none H2) ∧ (dueP ps c vals = "" → cellP ps c vals ≠ none → NewDeal H (behP ps c vals) (gsP ps c vals) Q)
def spPaid (K : PySem.W.Frag) (cS cC cK cL cN : Addr) : Sp := fun vs H Q E => ∃ (t u : Addr) (xs : List V) (ps : List (Int × Int)) (c : Int) (vals : List Int), vs = [.ref t, .int c, .ref u] ∧ H t = some (.lst xs) ∧ Prs H xs ps ∧ Tl ps ∧ SqL K H u (vals.map V.int) ∧ OutP cS cC cK cL cN ps c vals H Q E
theorem ok_paid (T : Tx K mg) : FnOk P w K mg base (L2.CX P w) 5 T.a_paid T.d_paid P_paid (spPaid K T.c_NoSum T.c_NoCount T.c_NoKind T.c_TooLittle T.c_NoChange) := by
  have G_check_sum := ok_check_sum (P := P) (w := w) (base := base) T
  have G_brought := ok_brought (P := P) (w := w) (base := base) T
  have G_fewest := ok_fewest (P := P) (w := w) (base := base) T
  refine T.f_paid.okX sc_paid (fun vs H Q E h => ?_) (fun cdv A outer s H vs Q E hr h => ?_)
  · obtain ⟨t, u, xs, ps, c, vals, rfl, _⟩ := h
    rfl
  · obtain ⟨t, u, xs, ps, c, vals, rfl, ht, hp, hT, hS, qs, qc, qk, ql, qn, q⟩ := h
    refine ⟨_, (pss_cons (ps_expr (pe_call G_check_sum (hr.mono (by decide)) (by rfl) T.g_check_sum T.f_check_sum.kp T.p_check_sum .nil (passes_call (takes_of rfl rfl rfl rfl) fun _ _ _ _ h => h) (pa_cons (pv 1) pa_nil)))
    (pss_cons (ps_if (pt_cmpR op_gt (pe_callB call_len_seq (by rfl) T.m_len (by decide +kernel) (pa_cons (pv 2) pa_nil)) (pe_glob (v := .int 60) (by rfl) T.w_MOST_PAID.choose_spec ⟨_, rfl⟩) (nomark _))
      (pss_one (ps_raise rfl (takes_of rfl rfl rfl rfl) (pmk_own PySem.F.excBase_ValueError T.x_NoCount T.g_NoCount T.k_NoCount (raises_own T.b_NoCount T.t_NoCount) rfl)))
      pss_nil)
    (pss_cons (ps_set (i := 3) sc_paid.nd rfl (.inl rfl) (pv 0))
    (pss_cons (ps_for (passes_of rfl) rfl (pi_list (pv 2)) (pg_name (i := 4) sc_paid.nd rfl (.inl rfl))
      (pss_one (ps_set (i := 3) sc_paid.nd rfl (.inl rfl) (pe_call G_brought (hr.mono (by decide)) (by rfl) T.g_brought T.f_brought.kp T.p_brought .nil (passes_call (takes_of rfl rfl rfl rfl) fun _ _ _ _ h => h) (pa_cons (pv 3) (pa_cons (pv 4) (pa_cons pe_int pa_nil)))))))
    (pss_cons (ps_set (i := 5) sc_paid.nd rfl (.inl rfl) (pe_op op_sub (pe_callB (cr_sum rfl) (by rfl) T.m_sum (by decide +kernel) (pa_cons (pv 2) pa_nil)) (pv 1)))
    (pss_cons (ps_if (pt_cmpR op_lt (pv 5) pe_int (nomark _))
      (pss_one (ps_raise rfl (takes_of rfl rfl rfl rfl) (pmk_own PySem.F.excBase_ValueError T.x_TooLittle T.g_TooLittle T.k_TooLittle (raises_own T.b_TooLittle T.t_TooLittle) rfl)))
      pss_nil)
    (pss_cons (ps_set (i := 6) sc_paid.nd rfl (.inl rfl) (pe_call G_fewest (hr.mono (by decide)) (by rfl) T.g_fewest T.f_fewest.kp T.p_fewest .nil (passes_call (takes_of rfl rfl rfl rfl) fun _ _ _ _ h => h) (pa_cons (pv 3) (pa_cons (pv 5) pa_nil))))
    (pss_cons (ps_set (i := 7) sc_paid.nd rfl (.inr rfl) (pe_callTy (call_dictP rfl) (by rfl) T.m_dict (by decide +kernel) (pa_cons (pv 6) pa_nil)))
    (pss_cons (ps_setLc (i := 8) (own := [("value", 4), ("count", 9)]) (g := gTup K 2 (gCons (gName 4) (gCons (gName 9) gNil))) rfl sc_paid.nd rfl rfl (sw_true rfl rfl rfl (by decide +kernel)) (pi_list (pv 3)) (blkOk_by (own := [("value", 4), ("count", 9)]) (N := N_paid) (sc := defScope s_paid) (by decide +kernel)) (fun _ _ _ _ _ => pg_tup rfl (pgs_cons (pg_name (i := 4) sc_paid.nd rfl (.inl rfl) (.inr rfl)) (pgs_cons (pg_name (i := 9) sc_paid.nd rfl (.inl rfl) (.inr rfl)) pgs_nil))) (fun _ _ _ _ _ => pts_nil) (fun _ _ _ _ _ => (pe_tup (pa_cons (pv 4) (pa_cons (pe_op op_sub (pv 9) (pe_dget2 (hu_of hr) (pv 7) (pv 4) pe_int ⟨by rfl, by rfl, by rfl, by rfl⟩)) pa_nil)))))
    (pss_one (ps_ret (pe_tup (pa_cons (pv 8) (pa_cons (pv 6) pa_nil)))))))))))))), ?_⟩
    refine ⟨_, rfl, c, rfl, fun hc => ?_, fun hc => qs (by unfold dueP; rw [if_neg hc]) _ Ex.rfl'⟩
    refine ⟨_, rfl, u, _, rfl, .inl hS, _, _, rfl, rfl, _, rfl, iteD (fun e => ?_) (fun e => ?_)⟩
    · have e' : ((vals.map V.int).length : Int) > 60 := e
      rw [List.length_map] at e'
      exact qc (by unfold dueP; rw [if_pos hc, if_pos (by omega)]) _ Ex.rfl'
    have e' : ¬ ((vals.map V.int).length : Int) > 60 := e
    rw [List.length_map] at e'
    have hl : ¬ 60 < vals.length := by omega
    refine ⟨_, rfl, ?_⟩
    refine ⟨_, rfl, u, rfl, ⟨_, hS⟩, for_list (xs := vals.map V.int) (fun i σ H' => ∃ (f : Addr) (fs : List V) (y4 : Option V), σ = [some (.ref t), some (.int c), some (.ref u), some (.ref f), y4, none, none, none, none, none] ∧ Ex H H' ∧ H' f = some (.lst fs) ∧ Prs H' fs (fullP ps (vals.take i)) ∧ Tl (fullP ps (vals.take i)) ∧ walkDue ps (vals.take i) (vals.drop i) = walkDue ps [] vals)
      ⟨t, xs, _, rfl, Ex.rfl', ht, by rw [List.take_zero, fullP_nil]; exact hp, by rw [List.take_zero, fullP_nil]; exact hT, rfl⟩ (fun i σ H' _ h => by
        obtain ⟨_, _, _, _, e, _⟩ := h
        exact e.seq hS) ?_ ?_⟩
    · rintro i x σ H' hx ⟨f, fs, y4, rfl, ex, ef, hf, hTf, hw⟩
      rw [List.getElem?_map] at hx
      obtain ⟨v, hv, rfl⟩ := Option.map_eq_some_iff.mp hx
      have hd : vals.drop i = v :: vals.drop (i + 1) := drop_at hv
      rw [hd, walkDue_cons] at hw
      have hpe := pieceDue_eq hTf v
      refine ⟨_, rfl, _, rfl, f, fs, fullP ps (vals.take i), v, 1, rfl, ef, hf, hTf, ?_⟩
      unfold OutK
      rw [hpe]
      have bad : ∀ s : Str, s ≠ "kind" → s ≠ "count" → s ≠ "" → pieceDue ps (vals.take i) v = s → False := fun s h1 h2 h3 h => by
        rcases pieceDue_in ps (vals.take i) v with e | e | e
        · exact h1 (h.symm.trans e)
        · exact h2 (h.symm.trans e)
        · exact h3 (h.symm.trans e)
      refine ⟨fun hd0 p ys qs' H2 e2 hp2 ep hpr hb => ?_, fun hd0 H2 e2 => ?_, fun hd0 H2 e2 => ?_, fun h => (bad _ (by decide) (by decide) (by decide) h).elim, fun h => (bad _ (by decide) (by decide) (by decide) h).elim, fun h => (bad _ (by decide) (by decide) (by decide) h).elim, fun h => (bad _ (by decide) (by decide) (by decide) h).elim⟩
      · rw [if_pos hd0] at hw
        have hq : qs' = addC (fullP ps (vals.take i)) v 1 := by
          rcases hb with ⟨_, h⟩ | ⟨h, _⟩ | ⟨h, _⟩ | ⟨h, _⟩
          · exact h
          · exact absurd h (by decide)
          · exact absurd h (by decide)
          · exact absurd h (by decide)
        rw [hq, ← fullP_snoc, ← take_snoc hv] at hpr
        have htl := pieceDue_tl hTf hd0
        rw [← take_snoc hv] at htl hw
        exact ⟨p, ys, _, rfl, ex.tr e2, ep, hpr, htl, hw⟩
      · rw [if_neg (by rw [hd0]; decide), hd0] at hw
        exact qk (dueP_walk hc hl hw.symm (by decide)) _ (ex.tr e2)
      · rw [if_neg (by rw [hd0]; decide), hd0] at hw
        exact qc (dueP_walk hc hl hw.symm (by decide)) _ (ex.tr e2)
    · rintro σ H1 ⟨f, fs, y4, rfl, ex1, ef, hf, hTf, hw⟩
      rw [List.length_map, List.take_length] at hf hTf
      rw [List.length_map, List.drop_length] at hw
      have hde := dueP_end hc hl hw.symm
      refine ⟨_, rfl, u, vals, rfl, ex1.seq hS, _, rfl, _, _, rfl, rfl, ?_⟩
      refine ⟨_, rfl, _, _, rfl, rfl, _, rfl, iteD (fun e1 => ?_) (fun e1 => ?_)⟩
      · have e2 : vals.sum - c < 0 := e1
        exact ql (by rw [hde, if_pos (by omega)]) _ ex1
      have e2 : ¬ vals.sum - c < 0 := e1
      rw [if_neg (by omega)] at hde
      have hsn : (sumP c vals : Int) = vals.sum - c := Int.toNat_of_nonneg (by omega)
      refine ⟨_, rfl, _, rfl, f, fullP ps vals, vals.sum - c, rfl, ⟨fs, .of ef, hf⟩, by have := hTf.len; omega, fun p hp => ⟨(hTf.val p hp).1, (hTf.val p hp).2, (hTf.cnt p hp).1⟩, fun hn => ?_, fun hn hcn H2 e3 => ?_, fun hn hcn g ys H2 e3 hg eg hgs => ?_⟩
      · exact qs (by rw [hde, if_pos (by omega)]) _ ex1
      · rw [if_neg (by omega)] at hde
        exact qn hde hcn _ (ex1.tr e3)
      rw [if_neg (by omega)] at hde
      have q1 := q hde hcn
      change Prs H2 ys (gsP ps c vals) at hgs
      obtain ⟨m, hm⟩ := Option.ne_none_iff_exists'.mp hcn
      obtain ⟨_, _, _, hgr, hgl⟩ := gsP_ok hT hde hm
      unfold behP at q1
      generalize gsP ps c vals = gs at hgs hgr hgl q1
      have ex2 := ex1.tr e3
      have ef2 := e3 _ _ ef
      have hf2 := hf.ex e3
      obtain ⟨as, rfl, hdg⟩ := prs_dk (K := K) hgs
      refine ⟨_, rfl, g, as, dkP gs, rfl, .of eg, hdg, fun d hd => ?_⟩
      (generalize hh : upd H2 d _ = H3; have e4 : Ex H2 H3 := (by rw [← hh]; exact Ex.nw hd); have cd := (show H3 d = some _ by rw [← hh]; exact upd_same); clear hh)
      have ef3 := e4 _ _ ef2
      have hf3 := hf2.ex e4
      have hfl := hf3.len
      have hfl2 := hTf.len
      refine ⟨_, rfl, f, rfl, ⟨fs, .of ef3⟩, fun D hD => lc_list (xs := fs) (fun i H' => ∃ zs, Ex H3 H' ∧ H' D = some (.lst zs) ∧ zs.length = i ∧ Prs H' zs (((fullP ps vals).take i).map fun p => (p.1, p.2 - ownOf gs p.1))) ⟨[], Ex.nw hD, upd_same, rfl, .nil⟩ (fun i H' _ h => by
        obtain ⟨_, e, _⟩ := h
        exact .of (e _ _ ef3)) ?_ ?_⟩
      · rintro i x H' hx ⟨zs, ex, eD, hzl, hzs⟩
        obtain ⟨p, t2, h1, rfl, h3⟩ := Prs.get hf3 hx
        have hi : i < (fullP ps vals).length := (List.getElem?_eq_some_iff.mp h1).1
        refine ⟨t2, _, rfl, .of (ex _ _ h3), rfl, _, _, rfl, _, _, rfl, rfl, rfl, ?_⟩
        refine t_yes ?_
        refine ⟨_, rfl, _, rfl, _, rfl, d, rfl, .inl ⟨_, .inl (ex _ _ cd)⟩, _, rfl, _, DGet.k (k := Sum.inl p.1) (ex _ _ cd), ?_⟩
        rw [dict_val (rising_nd hgr), show (Option.map V.int (countIn gs p.1)).getD (.int 0) = .int (ownOf gs p.1) by unfold ownOf; cases countIn gs p.1 <;> rfl]
        refine ⟨_, _, rfl, rfl, len63 (by show 2 ≤ _; decide), fun t3 ht3 => ?_⟩
        have nDt : D ≠ t3 := ne_of_none eD ht3
        have eD' : (upd H' t3 (.tup [.int p.1, .int (p.2 - ownOf gs p.1)])) D = some (.lst zs) := by rw [upd_ne nDt]; exact eD
        refine ⟨zs, eD', len63' (by omega), zs ++ [.ref t3], Ex.mu (ex.tr (Ex.nw ht3)) hD, upd_same, by rw [List.length_append, hzl]; rfl, ?_⟩
        rw [take_snoc h1, List.map_append]
        refine Prs.up (by intro bs y; rw [eD'] at y; cases y) ?_
        exact Prs.snoc (hzs.ex (Ex.nw ht3)) ⟨t3, rfl, upd_same⟩
      rintro H4 ⟨zs, e5, eD, hzl, hzs⟩
      rw [List.take_of_length_le (by omega)] at hzs
      have e35 := e4.tr e5
      have eg4 := e35 _ _ eg
      have hg4 := hgs.ex e35
      have hD2 : H2 D = none := none_back e4 hD
      refine ⟨_, rfl, _, rfl, len63 (by show 2 ≤ _; decide), fun l hl => ?_⟩
      have ex4 := ex2.tr e35
      have ngD : g ≠ D := fun z => by rw [z, hD2] at eg; cases eg
      exact q1 l D g zs _ _ (ex4.tr (Ex.nw hl)) (none_back ex4 hl) (none_back ex2 hD2) (none_back ex1 hg) (ne_of_none eD hl).symm (ne_of_none eg4 hl).symm ngD.symm upd_same ((Ex.nw hl) _ _ eD) ((Ex.nw hl) _ _ eg4) (hzs.ex (Ex.nw hl)) (hg4.ex (Ex.nw hl))
--@split
/-! ### who pays just what a deal tells -/
def dpos (G : List Int) : List Nat := G.map Int.toNat
def dneg (G : List Int) : List Nat := G.map fun g => (-g).toNat
def wz (ks : List Kd) (w : List Nat) : Int := ((ks.zip w).map fun x => x.1.1 * (x.2 : Int)).sum
theorem wz_cons (k : Kd) (ks : List Kd) (j : Nat) (w : List Nat) : wz (k :: ks) (j :: w) = k.1 * (j : Int) + wz ks w := by
  unfold wz
  rw [List.zip_cons_cons, List.map_cons, List.sum_cons]
theorem payD_cons (k : Kd) (ks : List Kd) (g : Int) (G : List Int) : payD (k :: ks) (g :: G) = (if 0 < g then [(k.1, g)] else []) ++ payD ks G := by
  unfold payD
  rw [List.zip_cons_cons]
  by_cases h : 0 < g
  · rw [if_pos h, List.filter_cons_of_pos (by simpa using h)]
    rfl
  · rw [if_neg h, List.filter_cons_of_neg (by simpa using h)]
    rfl
theorem giveD_cons (k : Kd) (ks : List Kd) (g : Int) (G : List Int) : giveD (k :: ks) (g :: G) = (if g < 0 then [(k.1, -g)] else []) ++ giveD ks G := by
  unfold giveD
  rw [List.zip_cons_cons]
  by_cases h : g < 0
  · rw [if_pos h, List.filter_cons_of_pos (by simpa using h)]
    rfl
  · rw [if_neg h, List.filter_cons_of_neg (by simpa using h)]
    rfl
theorem worth_pay : ∀ (ks : List Kd) (G : List Int), worthP (payD ks G) = wz ks (dpos G)
  | [], _ => by simp [payD, worthP, wz]
  | _ :: _, [] => by simp [payD, worthP, wz, dpos]
  | k :: ks, g :: G => by
    rw [payD_cons, worthP_app, worth_pay ks G, show dpos (g :: G) = g.toNat :: dpos G from rfl, wz_cons]
    congr 1
    by_cases h : 0 < g
    · rw [if_pos h]
      show k.1 * g + 0 = _
      rw [Int.toNat_of_nonneg (by omega), Int.add_zero]
    · rw [if_neg h, show g.toNat = 0 by omega]
      show (0 : Int) = k.1 * 0
      rw [Int.mul_zero]
theorem worth_give : ∀ (ks : List Kd) (G : List Int), worthP (giveD ks G) = wz ks (dneg G)
  | [], _ => by simp [giveD, worthP, wz]
  | _ :: _, [] => by simp [giveD, worthP, wz, dneg]
  | k :: ks, g :: G => by
    rw [giveD_cons, worthP_app, worth_give ks G, show dneg (g :: G) = (-g).toNat :: dneg G from rfl, wz_cons]
    congr 1
    by_cases h : g < 0
    · rw [if_pos h]
      show k.1 * -g + 0 = _
      rw [Int.toNat_of_nonneg (by omega), Int.add_zero]
    · rw [if_neg h, show (-g).toNat = 0 by omega]
      show (0 : Int) = k.1 * 0
      rw [Int.mul_zero]
theorem many_pay : ∀ {ks : List Kd} {G : List Int}, ks.length = G.length → manyP (payD ks G) = ((dpos G).sum : Int)
  | [], [], _ => rfl
  | [], _ :: _, h => by cases h
  | _ :: _, [], h => by cases h
  | k :: ks, g :: G, h => by
    rw [payD_cons, manyP_app, many_pay (by simpa using h), show dpos (g :: G) = g.toNat :: dpos G from rfl, List.sum_cons]
    by_cases h : 0 < g
    · rw [if_pos h]
      show g + 0 + _ = _
      omega
    · rw [if_neg h]
      show (0 : Int) + _ = _
      omega
theorem many_give : ∀ {ks : List Kd} {G : List Int}, ks.length = G.length → manyP (giveD ks G) = ((dneg G).sum : Int)
  | [], [], _ => rfl
  | [], _ :: _, h => by cases h
  | _ :: _, [], h => by cases h
  | k :: ks, g :: G, h => by
    rw [giveD_cons, manyP_app, many_give (by simpa using h), show dneg (g :: G) = (-g).toNat :: dneg G from rfl, List.sum_cons]
    by_cases h : g < 0
    · rw [if_pos h]
      show -g + 0 + _ = _
      omega
    · rw [if_neg h]
      show (0 : Int) + _ = _
      omega
theorem worthD_cons (k : Kd) (ks : List Kd) (g : Int) (G : List Int) : worthD (k :: ks) (g :: G) = k.1 * g + worthD ks G := by
  unfold worthD
  rw [List.zip_cons_cons, List.map_cons, List.sum_cons]
theorem worthD_sub : ∀ {ks : List Kd} {G : List Int}, ks.length = G.length → worthD ks G = wz ks (dpos G) - wz ks (dneg G)
  | [], [], _ => rfl
  | [], _ :: _, h => by cases h
  | _ :: _, [], h => by cases h
  | k :: ks, g :: G, h => by
    rw [worthD_cons, worthD_sub (by simpa using h), show dpos (g :: G) = g.toNat :: dpos G from rfl, show dneg (g :: G) = (-g).toNat :: dneg G from rfl, wz_cons, wz_cons]
    have e : k.1 * g = k.1 * (g.toNat : Int) - k.1 * ((-g).toNat : Int) := by
      rw [← Int.mul_sub]
      congr 1
      omega
    omega
theorem fewD_sum : ∀ (G : List Int), fewD G = ((dpos G).sum : Int) + ((dneg G).sum : Int)
  | [] => rfl
  | g :: G => by
    have ih := fewD_sum G
    unfold fewD at ih ⊢
    rw [List.map_cons, List.sum_cons, ih, show dpos (g :: G) = g.toNat :: dpos G from rfl, show dneg (g :: G) = (-g).toNat :: dneg G from rfl, List.sum_cons, List.sum_cons]
    omega
/-- the pieces, one by one -/
def valsOf (l : List (Int × Int)) : List Int := l.flatMap fun p => List.replicate p.2.toNat p.1
theorem valsOf_app (a b : List (Int × Int)) : valsOf (a ++ b) = valsOf a ++ valsOf b := List.flatMap_append
theorem valsOf_one (p : Int × Int) : valsOf [p] = List.replicate p.2.toNat p.1 := by
  unfold valsOf
  rw [List.flatMap_cons, List.flatMap_nil, List.append_nil]
theorem sum_rep (n : Nat) (v : Int) : (List.replicate n v).sum = v * (n : Int) := by
  induction n with
  | zero => simp
  | succ n ih =>
    rw [List.replicate_succ, List.sum_cons, ih]
    have : v * ((n + 1 : Nat) : Int) = v * (n : Int) + v := by
      rw [Int.natCast_add, Int.mul_add]
      simp
    omega
theorem valsOf_sum : ∀ {l : List (Int × Int)}, (∀ p ∈ l, 0 ≤ p.2) → (valsOf l).sum = worthP l
  | [], _ => rfl
  | p :: l, h => by
    rw [show p :: l = [p] ++ l from rfl, valsOf_app, valsOf_one, List.sum_append, worthP_app, valsOf_sum fun q hq => h q (List.mem_cons_of_mem _ hq), sum_rep, Int.toNat_of_nonneg (h p List.mem_cons_self)]
    show _ = p.1 * p.2 + 0 + _
    omega
theorem valsOf_len : ∀ {l : List (Int × Int)}, (∀ p ∈ l, 0 ≤ p.2) → ((valsOf l).length : Int) = manyP l
  | [], _ => rfl
  | p :: l, h => by
    have := h p List.mem_cons_self
    rw [show p :: l = [p] ++ l from rfl, valsOf_app, valsOf_one, List.length_append, manyP_app, List.length_replicate]
    have ih := valsOf_len fun q hq => h q (List.mem_cons_of_mem _ hq)
    show _ = p.2 + 0 + _
    omega
theorem vals_cons (k : Kd) (ks : List Kd) (g : Int) (G : List Int) : valsOf (payD (k :: ks) (g :: G)) = List.replicate g.toNat k.1 ++ valsOf (payD ks G) := by
  rw [payD_cons, valsOf_app]
  congr 1
  by_cases h : 0 < g
  · rw [if_pos h, valsOf_one]
  · rw [if_neg h, show g.toNat = 0 by omega]
    rfl
theorem vals_in : ∀ {ks : List Kd} {G : List Int} {v : Int}, v ∈ valsOf (payD ks G) → v ∈ ks.map fun k => k.1
  | [], _, v, h => by simp [payD, valsOf] at h
  | _ :: _, [], v, h => by simp [payD, valsOf] at h
  | k :: ks, g :: G, v, h => by
    rw [vals_cons] at h
    rw [List.map_cons]
    rcases List.mem_append.mp h with z | z
    · rw [(List.mem_replicate.mp z).2]
      exact List.mem_cons_self
    · exact List.mem_cons_of_mem _ (vals_in z)
theorem vals_count : ∀ {ks : List Kd} {G : List Int} {i : Nat} {k : Kd} {g : Int}, (ks.map fun k => k.1).Nodup → ks[i]? = some k → G[i]? = some g → (valsOf (payD ks G)).count k.1 = g.toNat
  | [], _, _, _, _, _, h, _ => by simp at h
  | _ :: _, [], _, _, _, _, _, h => by simp at h
  | k0 :: ks, g0 :: G, 0, k, g, nd, h1, h2 => by
    simp at h1 h2
    subst h1 h2
    rw [List.map_cons, List.nodup_cons] at nd
    rw [vals_cons, List.count_append, List.count_replicate_self, List.count_eq_zero.mpr fun z => nd.1 (vals_in z)]
    rfl
  | k0 :: ks, g0 :: G, i + 1, k, g, nd, h1, h2 => by
    rw [List.map_cons, List.nodup_cons] at nd
    have h1' : ks[i]? = some k := by simpa using h1
    have hne : k.1 ≠ k0.1 := fun z => nd.1 (by rw [← z]; exact List.mem_map.mpr ⟨k, List.mem_of_getElem? h1', rfl⟩)
    rw [vals_cons, List.count_append, vals_count nd.2 h1' (by simpa using h2), List.count_eq_zero.mpr fun z => hne (List.mem_replicate.mp z).2]
    omega
/-- the ways of a till, by their bounds -/
theorem waysK_mem {ps : List (Int × Int)} {w : List Nat} (hl : w.length = ps.length) (hb : ∀ (i : Nat) (p : Int × Int) (j : Nat), ps[i]? = some p → w[i]? = some j → j ≤ p.2.toNat) : ∀ {k : Nat}, k ≤ ps.length → w.take k ∈ waysK ps k
  | 0, _ => by
    rw [List.take_zero]
    exact List.mem_singleton.mpr rfl
  | k + 1, hk => by
    have hp := List.getElem?_eq_getElem (show k < ps.length by omega)
    have hj := List.getElem?_eq_getElem (show k < w.length by omega)
    rw [ways_in hp, take_snoc hj]
    exact ⟨_, _, rfl, waysK_mem hl hb (by omega), hb _ _ _ hp hj⟩
theorem waysK_bound {ps : List (Int × Int)} : ∀ {k : Nat} {w : List Nat}, k ≤ ps.length → w ∈ waysK ps k → ∀ (i : Nat) (p : Int × Int) (j : Nat), ps[i]? = some p → w[i]? = some j → j ≤ p.2.toNat
  | 0, w, _, hw, i, p, j, _, hj => by
    rw [List.mem_singleton.mp hw] at hj
    simp at hj
  | k + 1, w, hk, hw, i, p, j, hp, hj => by
    have hpk := List.getElem?_eq_getElem (show k < ps.length by omega)
    obtain ⟨v, j', rfl, hv, hj'⟩ := (ways_in hpk).mp hw
    have hvl := ways_len (by omega) hv
    by_cases h : i < k
    · rw [List.getElem?_append_left (by omega)] at hj
      exact waysK_bound (by omega) hv i p j hp hj
    · rw [List.getElem?_append_right (by omega)] at hj
      have hi : i = k := by
        have := (List.getElem?_eq_some_iff.mp hj).1
        simp at this
        omega
      subst hi
      rw [hvl, Nat.sub_self] at hj
      simp at hj
      rw [hpk] at hp
      cases hp
      omega
theorem waysD_mem {ks : List Kd} {w : List Int} (hl : w.length = ks.length) (hb : ∀ (i : Nat) (p : Kd) (j : Int), ks[i]? = some p → w[i]? = some j → -(p.2.1.toNat : Int) ≤ j ∧ j ≤ p.2.2.toNat) : ∀ {k : Nat}, k ≤ ks.length → w.take k ∈ waysD ks k
  | 0, _ => by
    rw [List.take_zero]
    exact List.mem_singleton.mpr rfl
  | k + 1, hk => by
    have hp := List.getElem?_eq_getElem (show k < ks.length by omega)
    have hj := List.getElem?_eq_getElem (show k < w.length by omega)
    rw [waysD_in hp, take_snoc hj]
    have := hb _ _ _ hp hj
    exact ⟨_, _, rfl, waysD_mem hl hb (by omega), this.1, this.2⟩
theorem waysD_bound {ks : List Kd} : ∀ {k : Nat} {w : List Int}, k ≤ ks.length → w ∈ waysD ks k → ∀ (i : Nat) (p : Kd) (j : Int), ks[i]? = some p → w[i]? = some j → -(p.2.1.toNat : Int) ≤ j ∧ j ≤ p.2.2.toNat
  | 0, w, _, hw, i, p, j, _, hj => by
    rw [List.mem_singleton.mp hw] at hj
    simp at hj
  | k + 1, w, hk, hw, i, p, j, hp, hj => by
    have hpk := List.getElem?_eq_getElem (show k < ks.length by omega)
    obtain ⟨v, j', rfl, hv, hj', hj''⟩ := (waysD_in hpk).mp hw
    have hvl := waysD_len (by omega) hv
    by_cases h : i < k
    · rw [List.getElem?_append_left (by omega)] at hj
      exact waysD_bound (by omega) hv i p j hp hj
    · rw [List.getElem?_append_right (by omega)] at hj
      have hi : i = k := by
        have := (List.getElem?_eq_some_iff.mp hj).1
        simp at this
        omega
      subst hi
      rw [hvl, Nat.sub_self] at hj
      simp at hj
      rw [hpk] at hp
      cases hp
      omega
/-- one way less another -/
def dsub : List Nat → List Nat → List Int
  | a :: x, b :: y => ((a : Int) - (b : Int)) :: dsub x y
  | _, _ => []
theorem dsub_len : ∀ {x y : List Nat}, x.length = y.length → (dsub x y).length = x.length
  | [], [], _ => rfl
  | [], _ :: _, h => by cases h
  | _ :: _, [], h => by cases h
  | a :: x, b :: y, h => by
    show (dsub x y).length + 1 = _
    rw [dsub_len (by simpa using h)]
    rfl
theorem dsub_at : ∀ {x y : List Nat} {i : Nat} {a b : Nat}, x[i]? = some a → y[i]? = some b → (dsub x y)[i]? = some ((a : Int) - b)
  | [], _, _, _, _, h, _ => by simp at h
  | _ :: _, [], _, _, _, _, h => by simp at h
  | a0 :: x, b0 :: y, 0, a, b, h1, h2 => by
    simp at h1 h2
    subst h1 h2
    rfl
  | a0 :: x, b0 :: y, i + 1, a, b, h1, h2 => by
    show (dsub x y)[i]? = _
    exact dsub_at (by simpa using h1) (by simpa using h2)
theorem dsub_worth : ∀ {ks : List Kd} {x y : List Nat}, ks.length = x.length → x.length = y.length → worthD ks (dsub x y) = wz ks x - wz ks y
  | [], [], [], _, _ => rfl
  | [], _ :: _, _, h, _ => by cases h
  | _ :: _, [], _, h, _ => by cases h
  | [], [], _ :: _, _, h => by cases h
  | _ :: _, _ :: _, [], _, h => by cases h
  | k :: ks, a :: x, b :: y, h1, h2 => by
    show worthD (k :: ks) (((a : Int) - b) :: dsub x y) = _
    rw [worthD_cons, dsub_worth (by simpa using h1) (by simpa using h2), wz_cons, wz_cons, Int.mul_sub]
    omega
theorem dsub_few : ∀ {x y : List Nat}, fewD (dsub x y) ≤ (x.sum : Int) + (y.sum : Int)
  | [], y => by
    show (0 : Int) ≤ _
    omega
  | _ :: _, [] => by
    show (0 : Int) ≤ _
    omega
  | a :: x, b :: y => by
    have ih := dsub_few (x := x) (y := y)
    show fewD (((a : Int) - b) :: dsub x y) ≤ _
    unfold fewD at ih ⊢
    rw [List.map_cons, List.sum_cons, List.sum_cons, List.sum_cons]
    omega
theorem walkDue_ok {ps : List (Int × Int)} (hb : ∀ p ∈ ps, p.2 ≤ 2000000) : ∀ {r pre : List Int}, pre.length + r.length ≤ 1000 → (∀ v ∈ r, v ∈ ps.map fun p => p.1) → walkDue ps pre r = ""
  | [], _, _, _ => rfl
  | v :: r, pre, hl, hr => by
    rw [walkDue_cons]
    obtain ⟨t, ht⟩ := countIn_some (hr v List.mem_cons_self)
    have h1 := hb _ (countIn_mem ht)
    have h2 : pre.count v ≤ pre.length := List.count_le_length
    rw [List.length_cons] at hl
    have hp : pieceDue ps pre v = "" := by
      unfold pieceDue
      rw [countIn_full, ht]
      show (if t + (pre.count v : Int) = 1000000000 then ("count" : Str) else "") = ""
      rw [if_neg (by omega)]
    rw [if_pos hp]
    exact walkDue_ok hb (by rw [List.length_append]; show pre.length + 1 + _ ≤ _; omega) fun u hu => hr u (List.mem_cons_of_mem _ hu)
theorem wz_worthV : ∀ {ks : List Kd} {ps : List (Int × Int)} {w : List Nat}, ks.map (fun k => k.1) = ps.map (fun p => p.1) → worthV ps w = wz ks w
  | [], [], _, _ => rfl
  | [], _ :: _, _, h => by cases h
  | _ :: _, [], _, h => by cases h
  | _ :: _, _ :: _, [], _ => rfl
  | k :: ks, p :: ps, j :: w, h => by
    rw [List.map_cons, List.map_cons] at h
    injection h with h1 h2
    rw [wz_cons, ← wz_worthV (ps := ps) h2, h1]
    unfold worthV
    rw [List.zip_cons_cons, List.map_cons, List.sum_cons]
theorem wz_bounds : ∀ (ks : List Kd) (G : List Int), KdOk ks → ks.length = G.length → (∀ (i : Nat) (p : Kd) (j : Int), ks[i]? = some p → G[i]? = some j → -(p.2.1.toNat : Int) ≤ j ∧ j ≤ p.2.2.toNat) → wz ks (dpos G) ≤ hiK ks ∧ wz ks (dneg G) ≤ loK ks ∧ 0 ≤ wz ks (dneg G) := by
  intro ks
  induction ks with
  | nil =>
    intro G _ hl _
    have : G = [] := List.length_eq_zero_iff.mp hl.symm
    subst this
    exact ⟨Int.le_refl _, Int.le_refl _, Int.le_refl _⟩
  | cons k ks ih =>
    intro G hk hl hb
    cases G with
    | nil => cases hl
    | cons g G =>
      obtain ⟨i1, i2, i3⟩ := ih G (fun p hp => hk p (List.mem_cons_of_mem _ hp)) (by simpa using hl) fun i p j hp hj => hb (i + 1) p j (by simpa using hp) (by simpa using hj)
      have hk0 := hk k List.mem_cons_self
      have hb0 := hb 0 k g rfl rfl
      rw [show dpos (g :: G) = g.toNat :: dpos G from rfl, show dneg (g :: G) = (-g).toNat :: dneg G from rfl, wz_cons, wz_cons]
      have a1 : k.1 * (g.toNat : Int) ≤ k.1 * k.2.2 := Int.mul_le_mul_of_nonneg_left (by omega) (by omega)
      have a2 : k.1 * ((-g).toNat : Int) ≤ k.1 * k.2.1 := Int.mul_le_mul_of_nonneg_left (by omega) (by omega)
      have a3 : 0 ≤ k.1 * ((-g).toNat : Int) := Int.mul_nonneg (by omega) (by omega)
      have e1 : hiK (k :: ks) = k.1 * k.2.2 + hiK ks := by
        unfold hiK
        rw [List.map_cons, List.sum_cons]
      have e2 : loK (k :: ks) = k.1 * k.2.1 + loK ks := by
        unfold loK
        rw [List.map_cons, List.sum_cons]
      omega
theorem pays_back {ps us : List (Int × Int)} {c m : Int} (hg : Gen2 ps us) (hc : 0 ≤ c ∧ c ≤ 1000) (hd : dueS ps us = "") (hm : cellD ps us c = some m) (hl : (valsOf (payD (kindsOf ps us) (wayOf ps us c))).length ≤ 60) :
    dueP ps c (valsOf (payD (kindsOf ps us) (wayOf ps us c))) = "" ∧ cellP ps c (valsOf (payD (kindsOf ps us) (wayOf ps us c))) = some (manyP (giveD (kindsOf ps us) (wayOf ps us c))) := by
  have hlk : lacks ps us = false := by
    unfold dueS at hd
    cases z : lacks ps us with
    | false => rfl
    | true =>
      rw [if_pos z] at hd
      cases hd
  have hw15 : worthP ps + worthP us ≤ 1500 := by
    unfold dueS at hd
    rw [if_neg (by rw [hlk]; decide)] at hd
    split at hd
    · cases hd
    · omega
  obtain ⟨some_of, best_of⟩ := way_best (c := c) hg hlk
  obtain ⟨g1, g2, g3, _⟩ := best_of m hm
  obtain ⟨h1, h2, h3⟩ := kinds_fit hg hlk
  have hkl : (kindsOf ps us).length = ps.length := kindsOf_len ..
  have hgl := waysD_len (by omega) g1
  have hin := wayD_in h1 (k := ps.length) (by omega) g1
  have hbd := waysD_bound (by omega) g1
  have tk : (kindsOf ps us).take ps.length = kindsOf ps us := by rw [← hkl, List.take_length]
  have kf : (kindsOf ps us).map (fun k => k.1) = ps.map (fun p => p.1) := by
    unfold kindsOf
    rw [List.map_map]
    rfl
  have nd : ((kindsOf ps us).map fun k => k.1).Nodup := by
    rw [kf]
    exact rising_nd hg.rp
  have hgw := gen_worth hg.vp
  have huw := gen_worth hg.vu
  generalize wayOf ps us c = G at *
  have lk : (kindsOf ps us).length = G.length := by omega
  have pnn : ∀ p ∈ payD (kindsOf ps us) G, 0 ≤ p.2 := fun p hp => by
    obtain ⟨x, hx, rfl⟩ := List.mem_map.mp hp
    have := (List.mem_filter.mp hx).2
    have h : 0 < x.2 := by simpa using this
    show 0 ≤ x.2
    omega
  have hvs := valsOf_sum pnn
  rw [worth_pay] at hvs
  have hsub := worthD_sub lk
  rw [g2] at hsub
  -- what the pieces are worth
  have hposb : wz (kindsOf ps us) (dpos G) ≤ hiK (kindsOf ps us) ∧ wz (kindsOf ps us) (dneg G) ≤ loK (kindsOf ps us) ∧ 0 ≤ wz (kindsOf ps us) (dneg G) := by
    exact wz_bounds _ _ h1 lk hbd
  have hsum : (valsOf (payD (kindsOf ps us) G)).sum - c = wz (kindsOf ps us) (dneg G) := by omega
  have hdue : dueP ps c (valsOf (payD (kindsOf ps us) G)) = "" := by
    rw [dueP_end hc (by omega) (walkDue_ok (fun p hp => by have := hg.vp p hp; omega) (by simp; omega) fun v hv => by rw [← kf]; exact vals_in hv), if_neg (by omega), if_neg (by omega)]
  refine ⟨hdue, ?_⟩
  -- the till with the pieces in it
  have hn : ((sumP c (valsOf (payD (kindsOf ps us) G)) : Nat) : Int) = wz (kindsOf ps us) (dneg G) := by
    unfold sumP
    omega
  have hfat : ∀ (i : Nat) (p : Int × Int), ps[i]? = some p → ∃ g, G[i]? = some g ∧ (fullP ps (valsOf (payD (kindsOf ps us) G)))[i]? = some (p.1, p.2 + (g.toNat : Int)) := fun i p hp => by
    have hi := (List.getElem?_eq_some_iff.mp hp).1
    have hgi := List.getElem?_eq_getElem (show i < G.length by omega)
    refine ⟨_, hgi, ?_⟩
    unfold fullP
    rw [List.getElem?_map, hp]
    have := vals_count nd (kindsOf_at (us := us) hp) hgi
    show some (p.1, p.2 + ((List.count p.1 (valsOf (payD (kindsOf ps us) G)) : Nat) : Int)) = _
    rw [show List.count p.1 (valsOf (payD (kindsOf ps us) G)) = G[i].toNat from this]
  have hfl : (fullP ps (valsOf (payD (kindsOf ps us) G))).length = ps.length := fullP_len ..
  have hff : (kindsOf ps us).map (fun k => k.1) = (fullP ps (valsOf (payD (kindsOf ps us) G))).map (fun p => p.1) := by
    rw [kf]
    unfold fullP
    rw [List.map_map]
    rfl
  have hpos1 : ∀ p ∈ fullP ps (valsOf (payD (kindsOf ps us) G)), 1 ≤ p.1 := fun p hp => by
    obtain ⟨r, hr, rfl⟩ := List.mem_map.mp hp
    exact (hg.vp r hr).1
  unfold cellP
  have hmg := many_give lk
  have hfw := fewD_sum G
  generalize hvv : valsOf (payD (kindsOf ps us) G) = vals at *
  generalize sumP c vals = n at hn ⊢
  generalize fullP ps vals = full at *
  have hback : ∀ (i : Nat) (p : Int × Int), full[i]? = some p → ∃ r g, ps[i]? = some r ∧ G[i]? = some g ∧ p = (r.1, r.2 + (g.toNat : Int)) := fun i p hp => by
    have hi := (List.getElem?_eq_some_iff.mp hp).1
    have hri := List.getElem?_eq_getElem (show i < ps.length by omega)
    obtain ⟨g, e1, e2⟩ := hfat i _ hri
    rw [hp] at e2
    exact ⟨_, g, hri, e1, Option.some.inj e2⟩
  have tkf : full.take full.length = full := List.take_length
  -- no more than are given back
  obtain ⟨m', hm', hle⟩ : ∃ m', rAt (lastRow (row0 n) full) n = some m' ∧ m' ≤ ((dneg G).sum : Int) := by
    have hmem := waysK_mem (ps := full) (w := dneg G) (by unfold dneg; rw [List.length_map]; omega) (fun i p j hp hj => by
      obtain ⟨r, g, e1, e2, rfl⟩ := hback i p hp
      unfold dneg at hj
      rw [List.getElem?_map, e2] at hj
      have hj' : (-g).toNat = j := Option.some.inj hj
      have := (hbd i _ g (kindsOf_at (us := us) e1) e2).1
      have this2 : -(r.2.toNat : Int) ≤ g := this
      show j ≤ (r.2 + (g.toNat : Int)).toNat
      omega) (Nat.le_refl full.length)
    rw [List.take_of_length_le (by unfold dneg; rw [List.length_map]; omega)] at hmem
    have := way_some (n := n) hpos1 (Nat.le_refl full.length) (Nat.lt_succ_self n) hmem (by rw [tkf, wz_worthV hff]; exact hn.symm)
    rw [tkf] at this
    exact this
  rw [hm', hmg]
  congr 1
  -- and no fewer
  obtain ⟨k1, k2, k3, _⟩ := gvec_best (n := n) hpos1 (Nat.le_refl full.length) (Nat.lt_succ_self n) (by rw [tkf]; exact hm')
  rw [tkf, wz_worthV hff] at k2
  have hvl := gvec_len (row0 n) full full.length n
  have hkb := waysK_bound (Nat.le_refl full.length) k1
  generalize gvec (row0 n) full full.length n = V at k1 k2 k3 hvl hkb
  have dpl : (dpos G).length = G.length := List.length_map _
  have hJm := waysD_mem (ks := kindsOf ps us) (w := dsub (dpos G) V) (by rw [dsub_len (by omega)]; omega) (fun i p j hp hj => by
    have hi := (List.getElem?_eq_some_iff.mp hp).1
    have hri := List.getElem?_eq_getElem (show i < ps.length by omega)
    obtain ⟨g, e1, e2⟩ := hfat i _ hri
    have hvi := List.getElem?_eq_getElem (show i < V.length by omega)
    have hkk := kindsOf_at (us := us) hri
    rw [hp] at hkk
    have hpe := Option.some.inj hkk
    have hdp : (dpos G)[i]? = some g.toNat := by
      unfold dpos
      rw [List.getElem?_map, e1]
      rfl
    have hs := dsub_at hdp hvi
    rw [hs] at hj
    have hj' := Option.some.inj hj
    have b1 := hbd i p g hp e1
    have b2 := hkb i _ _ e2 hvi
    have b3 := (hg.vp _ (List.getElem_mem (show i < ps.length by omega))).2.2.1
    have b2' : V[i] ≤ (ps[i].2 + (g.toNat : Int)).toNat := b2
    have b4 : p.2.1 = ps[i].2 := by rw [hpe]
    omega) (show ps.length ≤ (kindsOf ps us).length by omega)
  rw [List.take_of_length_le (by rw [dsub_len (by omega)]; omega)] at hJm
  obtain ⟨m2, e2, le2⟩ := some_of _ hJm (by rw [dsub_worth (by omega) (by omega)]; omega)
  rw [hm] at e2
  have em := Option.some.inj e2
  have hJf := dsub_few (x := dpos G) (y := V)
  omega
/-! ### a value, drawn -/
def valueT (c k : Int) : Int := if c % 3 = 0 then menu.getD (mixed c k % 10).toNat 0 else if c % 3 = 1 then 1 + mixed c k % 12 else 1 + mixed c k % 60
theorem valueT_in (c k : Int) (_ : 1 ≤ k ∧ k ≤ 11) : 1 ≤ valueT c k ∧ valueT c k ≤ 1000 := by
  unfold valueT
  split
  · exact menu_in _ (by have := Int.emod_lt_of_pos (mixed c k) (by decide : (0 : Int) < 10); have := Int.emod_nonneg (mixed c k) (by decide : (10 : Int) ≠ 0); omega)
  · split <;> omega
def spValueT : Sp := fun vs H Q _ => ∃ c k, vs = [.int c, .int k] ∧ (-(2 ^ 64) < k ∧ k < 2 ^ 64) ∧ Ret (.int (valueT c k)) H Q
theorem ok_valueT (T : Tx K mg) : FnOk P w K mg base CX0 2 T.a__law_value T.d__law_value P__law_value spValueT := by
  have G__law_mixed := ok_mixed (P := P) (w := w) (base := base) T
  refine T.f__law_value.ok sc__law_value (fun vs H Q E h => ?_) (fun cdv A outer s H vs Q E hr h => ?_)
  · obtain ⟨c, k, rfl, _⟩ := h
    rfl
  · obtain ⟨c, k, rfl, hk, q⟩ := h
    refine ⟨_, (pss_cons (ps_set (i := 2) sc__law_value.nd rfl (.inl rfl) (pe_call G__law_mixed (hr.mono (by decide)) (by rfl) T.g__law_mixed T.f__law_mixed.kp T.p__law_mixed .nil pass0 (pa_cons (pv 0) (pa_cons (pv 1) pa_nil))))
    (pss_cons (ps_if (pt_cmpR op_eq (pe_op op_mod (pv 0) pe_int) pe_int (nomark _))
      (pss_one (ps_ret (pe_ix ix_list (pe_lst (pa_cons pe_int (pa_cons pe_int (pa_cons pe_int (pa_cons pe_int (pa_cons pe_int (pa_cons pe_int (pa_cons pe_int (pa_cons pe_int (pa_cons pe_int (pa_cons pe_int pa_nil))))))))))) (pe_op op_mod (pv 2) pe_int) (fun _ _ => rfl))))
      pss_nil)
    (pss_cons (ps_if (pt_cmpR op_eq (pe_op op_mod (pv 0) pe_int) pe_int (nomark _))
      (pss_one (ps_ret (pe_op op_add pe_int (pe_op op_mod (pv 2) pe_int))))
      pss_nil)
    (pss_one (ps_ret (pe_op op_add pe_int (pe_op op_mod (pv 2) pe_int))))))), ?_⟩
    unfold valueT at q
    repeat (first | refine ⟨_, rfl, ?_⟩ | refine ⟨(by show (0 : Int) < _; decide), ?_⟩ | refine ⟨⟨by decide, by decide⟩, ?_⟩ | refine ⟨.inr ⟨by decide, by decide⟩, ?_⟩ | refine ⟨.inl ⟨by decide, by decide⟩, ?_⟩ | refine ⟨⟨by decide, by decide, by decide⟩, ?_⟩ | refine ⟨_, _, rfl, rfl, ?_⟩ | refine ⟨rfl, _, rfl, ?_⟩)
    refine ⟨_, _, rfl, hk, ?_⟩
    repeat (first | refine ⟨_, rfl, ?_⟩ | refine ⟨(by show (0 : Int) < _; decide), ?_⟩ | refine ⟨⟨by decide, by decide⟩, ?_⟩ | refine ⟨.inr ⟨by decide, by decide⟩, ?_⟩ | refine ⟨.inl ⟨by decide, by decide⟩, ?_⟩ | refine ⟨⟨by decide, by decide, by decide⟩, ?_⟩ | refine ⟨_, _, rfl, rfl, ?_⟩ | refine ⟨rfl, _, rfl, ?_⟩)
    first | refine iteVI (fun e => ?_) (fun e => ?_) | refine iteVN (fun e => ?_) (fun e => ?_) | refine iteD (fun e => ?_) (fun e => ?_) | refine iteDN (fun e => ?_) (fun e => ?_) | refine iteB (fun e => ?_) (fun e => ?_)
    · rw [if_pos e] at q
      refine ⟨len63 (by decide), fun p hp => ?_⟩
      repeat (first | refine ⟨_, rfl, ?_⟩ | refine ⟨(by show (0 : Int) < _; decide), ?_⟩ | refine ⟨⟨by decide, by decide⟩, ?_⟩ | refine ⟨.inr ⟨by decide, by decide⟩, ?_⟩ | refine ⟨.inl ⟨by decide, by decide⟩, ?_⟩ | refine ⟨⟨by decide, by decide, by decide⟩, ?_⟩ | refine ⟨_, _, rfl, rfl, ?_⟩ | refine ⟨rfl, _, rfl, ?_⟩)
      exact ⟨p, menu.map V.int, _, _, rfl, rfl, .of upd_same, menu_at rfl (Int.emod_nonneg _ (by decide)) (Int.emod_lt_of_pos _ (by decide)), q _ (Ex.nw hp)⟩
    · rw [if_neg e] at q
      repeat (first | refine ⟨_, rfl, ?_⟩ | refine ⟨(by show (0 : Int) < _; decide), ?_⟩ | refine ⟨⟨by decide, by decide⟩, ?_⟩ | refine ⟨.inr ⟨by decide, by decide⟩, ?_⟩ | refine ⟨.inl ⟨by decide, by decide⟩, ?_⟩ | refine ⟨⟨by decide, by decide, by decide⟩, ?_⟩ | refine ⟨_, _, rfl, rfl, ?_⟩ | refine ⟨rfl, _, rfl, ?_⟩)
      first | refine iteVI (fun e => ?_) (fun e => ?_) | refine iteVN (fun e => ?_) (fun e => ?_) | refine iteD (fun e => ?_) (fun e => ?_) | refine iteDN (fun e => ?_) (fun e => ?_) | refine iteB (fun e => ?_) (fun e => ?_)
      · rw [if_pos e] at q
        repeat (first | refine ⟨_, rfl, ?_⟩ | refine ⟨(by show (0 : Int) < _; decide), ?_⟩ | refine ⟨⟨by decide, by decide⟩, ?_⟩ | refine ⟨.inr ⟨by decide, by decide⟩, ?_⟩ | refine ⟨.inl ⟨by decide, by decide⟩, ?_⟩ | refine ⟨⟨by decide, by decide, by decide⟩, ?_⟩ | refine ⟨_, _, rfl, rfl, ?_⟩ | refine ⟨rfl, _, rfl, ?_⟩)
        exact q _ Ex.rfl'
      · rw [if_neg e] at q
        repeat (first | refine ⟨_, rfl, ?_⟩ | refine ⟨(by show (0 : Int) < _; decide), ?_⟩ | refine ⟨⟨by decide, by decide⟩, ?_⟩ | refine ⟨.inr ⟨by decide, by decide⟩, ?_⟩ | refine ⟨.inl ⟨by decide, by decide⟩, ?_⟩ | refine ⟨⟨by decide, by decide, by decide⟩, ?_⟩ | refine ⟨_, _, rfl, rfl, ?_⟩ | refine ⟨rfl, _, rfl, ?_⟩)
        exact q _ Ex.rfl'
/-! ### a till and a purse, drawn -/
theorem perm_sum {l k : List Int} (h : l.Perm k) : l.sum = k.sum := by
  induction h with
  | nil => rfl
  | cons a _ ih => rw [List.sum_cons, List.sum_cons, ih]
  | swap a b l =>
    rw [List.sum_cons, List.sum_cons, List.sum_cons, List.sum_cons]
    omega
  | trans _ _ h1 h2 => exact h1.trans h2
/-- what is drawn: a till and a purse of some of its kinds, not worth too much -/
structure Dp2 (ps us : List (Int × Int)) : Prop where
  nd : (ps.map (·.1)).Nodup
  und : (us.map (·.1)).Nodup
  val : ∀ p ∈ ps, 1 ≤ p.1 ∧ p.1 ≤ 1000 ∧ 0 ≤ p.2 ∧ p.2 ≤ 1000
  own : ∀ u ∈ us, (∃ c, (u.1, c) ∈ ps) ∧ 0 ≤ u.2 ∧ u.2 ≤ 1000
  few : us.length ≤ ps.length
  low : worthP ps + worthP us ≤ 600
def spTaP (K : PySem.W.Frag) : Sp := fun vs H Q _ => ∃ (a : Addr) (ns : List Int) (most : Int), vs = [.ref a, .int most] ∧ SqL K H a (ns.map V.int) ∧ 1 ≤ most ∧ most ≤ 6 ∧
  ∀ l t u xs ys ps us H2, Ex H H2 → H l = none → H2 l = some (.lst [.ref t, .ref u]) → H t = none → H u = none → t ≠ u → t ≠ l → u ≠ l → H2 t = some (.lst xs) → H2 u = some (.lst ys) → Prs H2 xs ps → Prs H2 ys us → Rising ps → Rising us → Dp2 ps us → 1 ≤ ps.length → ps.length ≤ 10 → (most ≤ 3 → (ps.length : Int) ≤ most) → Q (.ref l) H2
theorem ok_tap (T : Tx K mg) : FnOk P w K mg base CX0 3 T.a__law_till_and_purse T.d__law_till_and_purse P__law_till_and_purse (spTaP K) := by
  have G__law_cell_at := ok_cell_at (P := P) (w := w) (base := base) T
  have G__law_value := ok_valueT (P := P) (w := w) (base := base) T
  have G__law_mixed := ok_mixed (P := P) (w := w) (base := base) T
  refine T.f__law_till_and_purse.ok sc__law_till_and_purse (fun vs H Q E h => ?_) (fun cdv A outer s H vs Q E hr h => ?_)
  · obtain ⟨a, ns, most, rfl, _⟩ := h
    rfl
  · obtain ⟨a, ns, most, rfl, hS, hm1, hm6, q⟩ := h
    refine ⟨_, (pss_cons (ps_set (i := 2) sc__law_till_and_purse.nd rfl (.inl rfl) (pe_op op_add pe_int (pe_op op_mod (pe_call G__law_cell_at (hr.mono (by decide)) (by rfl) T.g__law_cell_at T.f__law_cell_at.kp T.p__law_cell_at .nil pass0 (pa_cons (pv 0) (pa_cons pe_int pa_nil))) (pv 1))))
    (Evl.pss_cut (ps_if (PW.pt (pw_and (pt_cmpR op_gt (pv 1) pe_int (nomark _)) (pw_and1 (pt_cmpR op_eq (pe_op op_mod (pe_op op_fdiv (pe_call G__law_cell_at (hr.mono (by decide)) (by rfl) T.g__law_cell_at T.f__law_cell_at.kp T.p__law_cell_at .nil pass0 (pa_cons (pv 0) (pa_cons pe_int pa_nil))) (pv 1)) pe_int) pe_int (nomark _)))))
      (pss_one (ps_set (i := 2) sc__law_till_and_purse.nd rfl (.inl rfl) (pe_op op_add pe_int (pe_op op_mod (pe_op op_fdiv (pe_op op_fdiv (pe_call G__law_cell_at (hr.mono (by decide)) (by rfl) T.g__law_cell_at T.f__law_cell_at.kp T.p__law_cell_at .nil pass0 (pa_cons (pv 0) (pa_cons pe_int pa_nil))) (pv 1)) pe_int) pe_int))))
      pss_nil)
    (pss_cons (ps_set (i := 3) sc__law_till_and_purse.nd rfl (.inl rfl) (pe_lst pa_nil))
    (pss_cons (ps_set (i := 4) sc__law_till_and_purse.nd rfl (.inl rfl) (pe_lst pa_nil))
    (pss_cons (ps_set (i := 5) sc__law_till_and_purse.nd rfl (.inl rfl) pe_dnewK)
    (pss_cons (ps_set (i := 6) sc__law_till_and_purse.nd rfl (.inl rfl) pe_int)
    (pss_cons (ps_for PassesOwn.never rfl (pi_range1 (by rfl) T.m_range (pa_cons (pv 2) pa_nil)) (pg_name (i := 7) sc__law_till_and_purse.nd rfl (.inl rfl))
      (pss_cons (ps_set (i := 8) sc__law_till_and_purse.nd rfl (.inl rfl) (pe_call G__law_value (hr.mono (by decide)) (by rfl) T.g__law_value T.f__law_value.kp T.p__law_value .nil pass0 (pa_cons (pe_call G__law_cell_at (hr.mono (by decide)) (by rfl) T.g__law_cell_at T.f__law_cell_at.kp T.p__law_cell_at .nil pass0 (pa_cons (pv 0) (pa_cons pe_int pa_nil))) (pa_cons (pe_op op_add (pv 7) pe_int) pa_nil))))
      (pss_cons (ps_while PassesOwn.never (pt_cmp (pc_din (hu_of hr) (pv 8) (pv 5)))
        (pss_one (ps_set (i := 8) sc__law_till_and_purse.nd rfl (.inl rfl) (pe_op op_add (pe_op op_mod (pv 8) pe_int) pe_int))))
      (pss_cons (ps_dput (hu_of hr) (pv 5) (pv 8) pe_bl rfl)
      (pss_cons (ps_set (i := 9) sc__law_till_and_purse.nd rfl (.inl rfl) (pe_call G__law_mixed (hr.mono (by decide)) (by rfl) T.g__law_mixed T.f__law_mixed.kp T.p__law_mixed .nil pass0 (pa_cons (pe_call G__law_cell_at (hr.mono (by decide)) (by rfl) T.g__law_cell_at T.f__law_cell_at.kp T.p__law_cell_at .nil pass0 (pa_cons (pv 0) (pa_cons pe_int pa_nil))) (pa_cons (pe_op op_add (pv 7) pe_int) pa_nil))))
      (pss_cons (ps_set (i := 10) sc__law_till_and_purse.nd rfl (.inl rfl) (pe_op op_mod (pe_op op_fdiv (pv 9) pe_int) pe_int))
      (Evl.pss_cut (ps_if (pt_cmpR op_eq (pe_op op_mod (pv 9) pe_int) pe_int (nomark _))
        (pss_one (ps_set (i := 10) sc__law_till_and_purse.nd rfl (.inl rfl) (pe_op op_mod (pe_op op_fdiv (pv 9) pe_int) pe_int)))
        pss_nil)
      (pss_cons (ps_set (i := 11) sc__law_till_and_purse.nd rfl (.inl rfl) (pe_op op_mod (pe_op op_fdiv (pv 9) pe_int) pe_int))
      (Evl.pss_cut (ps_if (pt_cmpR op_eq (pe_op op_mod (pe_op op_fdiv (pv 9) pe_int) pe_int) pe_int (nomark _))
        (pss_one (ps_set (i := 11) sc__law_till_and_purse.nd rfl (.inl rfl) (pe_op op_mod (pe_op op_fdiv (pv 9) pe_int) pe_int)))
        pss_nil)
      (Evl.pss_cut (ps_if (pt_cmpR op_gt (pv 2) pe_int (nomark _))
        (pss_cons (ps_set (i := 10) sc__law_till_and_purse.nd rfl (.inl rfl) (pe_op op_mod (pv 10) pe_int))
        (pss_one (ps_set (i := 11) sc__law_till_and_purse.nd rfl (.inl rfl) (pe_op op_mod (pv 11) pe_int))))
        pss_nil)
      (Evl.pss_cut (ps_if (pt_cmpR op_gt (pe_op op_add (pv 6) (pe_op op_mul (pv 8) (pe_op op_add (pv 10) (pv 11)))) pe_int (nomark _))
        (pss_cons (ps_set (i := 10) sc__law_till_and_purse.nd rfl (.inl rfl) pe_int)
        (pss_one (ps_set (i := 11) sc__law_till_and_purse.nd rfl (.inl rfl) pe_int)))
        pss_nil)
      (pss_cons (ps_set (i := 6) sc__law_till_and_purse.nd rfl (.inl rfl) (pe_op op_add (pv 6) (pe_op op_mul (pv 8) (pe_op op_add (pv 10) (pv 11)))))
      (pss_cons (ps_expr (pe_bm PySem.F.plainAttrs_list PySem.F.slot_list_append PySem.F.type_list_append mt_append (pv 3) (pa_cons (pe_tup (pa_cons (pv 8) (pa_cons (pv 10) pa_nil))) pa_nil)))
      (pss_one (ps_if (pt_cmpR op_gt (pe_op op_mod (pe_op op_fdiv (pv 9) pe_int) pe_int) pe_int (nomark _))
        (pss_one (ps_expr (pe_bm PySem.F.plainAttrs_list PySem.F.slot_list_append PySem.F.type_list_append mt_append (pv 4) (pa_cons (pe_tup (pa_cons (pv 8) (pa_cons (pv 11) pa_nil))) pa_nil))))
        pss_nil)))))))))))))))
    (pss_one (ps_ret (pe_lst (pa_cons (pe_callB cr_sortedPO (by rfl) T.m_sorted (by decide +kernel) (pa_cons (pv 3) pa_nil)) (pa_cons (pe_callB cr_sortedPO (by rfl) T.m_sorted (by decide +kernel) (pa_cons (pv 4) pa_nil)) pa_nil)))))))))))), ?_⟩
    refine ⟨_, rfl, a, ns, 0, rfl, hS, _, rfl, _, _, rfl, rfl, hm1, _, _, rfl, rfl, ?_⟩
    have n0 : 0 ≤ cell ns 0 % most := Int.emod_nonneg _ (by omega)
    have n1 : cell ns 0 % most < most := Int.emod_lt_of_pos _ (by omega)
    -- how many kinds
    refine ⟨fun σ' H' => ∃ m : Int, 1 ≤ m ∧ m ≤ 10 ∧ (most ≤ 3 → m ≤ most) ∧ σ' = [some (.ref a), some (.int most), some (.int m), none, none, none, none, none, none, none, none, none] ∧ H' = H, ?_, ?_⟩
    · repeat (first | refine ⟨_, rfl, ?_⟩ | refine ⟨(by show (0 : Int) < _; decide), ?_⟩ | refine ⟨⟨by decide, by decide⟩, ?_⟩ | refine ⟨.inr ⟨by decide, by decide⟩, ?_⟩ | refine ⟨.inl ⟨by decide, by decide⟩, ?_⟩ | refine ⟨⟨by decide, by decide, by decide⟩, ?_⟩ | refine ⟨_, _, rfl, rfl, ?_⟩ | refine ⟨rfl, _, rfl, ?_⟩)
      first | refine iteVI (fun e => ?_) (fun e => ?_) | refine iteVN (fun e => ?_) (fun e => ?_) | refine iteD (fun e => ?_) (fun e => ?_) | refine iteDN (fun e => ?_) (fun e => ?_) | refine iteB (fun e => ?_) (fun e => ?_)
      · refine ⟨_, rfl, a, ns, 0, rfl, hS, _, rfl, _, _, rfl, rfl, ⟨by omega, by omega⟩, ?_⟩
        repeat (first | refine ⟨_, rfl, ?_⟩ | refine ⟨(by show (0 : Int) < _; decide), ?_⟩ | refine ⟨⟨by decide, by decide⟩, ?_⟩ | refine ⟨.inr ⟨by decide, by decide⟩, ?_⟩ | refine ⟨.inl ⟨by decide, by decide⟩, ?_⟩ | refine ⟨⟨by decide, by decide, by decide⟩, ?_⟩ | refine ⟨_, _, rfl, rfl, ?_⟩ | refine ⟨rfl, _, rfl, ?_⟩)
        first | refine iteVI (fun e2 => ?_) (fun e2 => ?_) | refine iteVN (fun e2 => ?_) (fun e2 => ?_) | refine iteD (fun e2 => ?_) (fun e2 => ?_) | refine iteDN (fun e2 => ?_) (fun e2 => ?_) | refine iteB (fun e2 => ?_) (fun e2 => ?_)
        · refine ⟨_, rfl, a, ns, 0, rfl, hS, _, rfl, _, _, rfl, rfl, ⟨by omega, by omega⟩, ?_⟩
          repeat (first | refine ⟨_, rfl, ?_⟩ | refine ⟨(by show (0 : Int) < _; decide), ?_⟩ | refine ⟨⟨by decide, by decide⟩, ?_⟩ | refine ⟨.inr ⟨by decide, by decide⟩, ?_⟩ | refine ⟨.inl ⟨by decide, by decide⟩, ?_⟩ | refine ⟨⟨by decide, by decide, by decide⟩, ?_⟩ | refine ⟨_, _, rfl, rfl, ?_⟩ | refine ⟨rfl, _, rfl, ?_⟩)
          exact ⟨_, by omega, by omega, by omega, rfl, rfl⟩
        · exact ⟨_, by omega, by omega, by omega, rfl, rfl⟩
      · exact iteF ⟨_, by omega, by omega, by omega, rfl, rfl⟩
    rintro σ' H' ⟨m, hm1, hm10, hm3, rfl, rfl⟩
    refine ⟨Nat.zero_le _, fun f hf => ?_⟩
    refine ⟨Nat.zero_le _, fun g hg d hd => ?_⟩
    have hg0 : H' g = none := none_back (Ex.nw hf) hg
    have hd0 : H' d = none := none_back ((Ex.nw hf).tr (Ex.nw hg)) hd
    have nfg : f ≠ g := ne_of_none upd_same hg
    have nfd : f ≠ d := ne_of_none ((Ex.nw hg) _ _ upd_same) hd
    have ngd : g ≠ d := ne_of_none upd_same hd
    have exd := ((Ex.nw (o := .lst []) hf).tr (Ex.nw (o := .lst []) hg)).tr (Ex.nw (o := .dK (dkv [])) hd)
    refine ⟨_, rfl, m, rfl, by omega, by omega, ?_⟩
    refine for_range (fun i σ H => ∃ (xs ys : List V) (ps us : List (Int × Int)) (low : Int) (y7 y8 y9 y10 y11 : Option V), σ = [some (.ref a), some (.int most), some (.int m), some (.ref f), some (.ref g), some (.ref d), some (.int low), y7, y8, y9, y10, y11] ∧ Ex H' H ∧ H f = some (.lst xs) ∧ H g = some (.lst ys) ∧ H d = some (.dK (dkv (ps.map (·.1)))) ∧
        Prs H xs ps ∧ Prs H ys us ∧ (ps.map (·.1)).Nodup ∧ (us.map (·.1)).Nodup ∧ (∀ p ∈ ps, 1 ≤ p.1 ∧ p.1 ≤ 1000 ∧ 0 ≤ p.2 ∧ p.2 ≤ 1000) ∧ (∀ u ∈ us, (∃ c, (u.1, c) ∈ ps) ∧ 0 ≤ u.2 ∧ u.2 ≤ 1000) ∧ us.length ≤ ps.length ∧ 0 ≤ low ∧ low ≤ 600 ∧ worthP ps + worthP us ≤ low ∧ ps.length = i)
      ⟨[], [], [], [], 0, none, none, none, none, none, rfl, exd, (Ex.nw hd) _ _ ((Ex.nw hg) _ _ upd_same), (Ex.nw hd) _ _ upd_same, upd_same, .nil, .nil, List.nodup_nil, List.nodup_nil, by simp, by simp, Nat.le_refl _, Int.le_refl _, by decide, Int.le_refl _, rfl⟩ ?_ ?_
    · rintro i σ H1 hi ⟨xs, ys, ps, us, low, y7, y8, y9, y10, y11, rfl, ex, ef, eg, ed, hps, hus, hnp, hnu, hvp, hvu, hfew, hlo0, hlo6, hwo, hlen⟩
      have hi' : i < 10 := by omega
      refine ⟨_, rfl, a, ns, 1, rfl, ex.seq hS, ?_⟩
      repeat (first | refine ⟨_, rfl, ?_⟩ | refine ⟨(by show (0 : Int) < _; decide), ?_⟩ | refine ⟨⟨by decide, by decide⟩, ?_⟩ | refine ⟨.inr ⟨by decide, by decide⟩, ?_⟩ | refine ⟨.inl ⟨by decide, by decide⟩, ?_⟩ | refine ⟨⟨by decide, by decide, by decide⟩, ?_⟩ | refine ⟨_, _, rfl, rfl, ?_⟩ | refine ⟨rfl, _, rfl, ?_⟩)
      refine ⟨_, _, rfl, ⟨by omega, by omega⟩, fun H2 e2 => ?_⟩
      have ex2 := Ex.tr ex e2
      have ef2 := e2 _ _ ef
      have eg2 := e2 _ _ eg
      have ed2 := e2 _ _ ed
      have hps2 := hps.ex e2
      have hus2 := hus.ex e2
      have hv := valueT_in (cell ns 1) (0 + (i : Int) + 1) (by omega)
      generalize hvv : valueT (cell ns 1) (0 + (i : Int) + 1) = v0 at hv
      obtain ⟨j, hj, hmin⟩ := least (free_at (ks := ps.map (·.1)) v0 (by rw [List.length_map]; omega))
      refine ⟨fun n σ H => ∃ k, k + n = j ∧ σ = [some (.ref a), some (.int most), some (.int m), some (.ref f), some (.ref g), some (.ref d), some (.int low), some (.int (0 + (i : Int))), some (.int (itn v0 k)), y9, y10, y11] ∧ H = H2,
        ⟨j, 0, by omega, by rw [itn_zero hv.1 hv.2]; rfl, rfl⟩, ?_⟩
      rintro n σ H4 ⟨k, hk, rfl, rfl⟩
      refine ⟨_, rfl, _, rfl, d, _, rfl, DGet.k (k := Sum.inl (itn v0 k)) ed2, _, rfl, ?_⟩
      by_cases hn : n = 0
      · have hkj : k = j := by omega
        subst hkj
        rw [dkv_none hj]
        refine iteF ?_
        refine ⟨_, rfl, _, rfl, d, _, rfl, DPut.k (k := Sum.inl (itn v0 k)) ed2 ?_, ?_⟩
        · unfold dkv
          rw [List.length_map, List.length_map]
          exact len63' (by omega)
        rw [dkv_put hj]
        have hin := itn_in v0 k
        generalize hvk : itn v0 k = v at hin hj
        have ef3 : (upd H4 d (.dK (dkv (ps.map (·.1) ++ [v])))) f = some (.lst xs) := by rw [upd_ne nfd]; exact ef2
        have eg3 : (upd H4 d (.dK (dkv (ps.map (·.1) ++ [v])))) g = some (.lst ys) := by rw [upd_ne ngd]; exact eg2
        have ed3 : (upd H4 d (.dK (dkv (ps.map (·.1) ++ [v])))) d = some (.dK (dkv (ps.map (·.1) ++ [v]))) := upd_same
        have ex3 : Ex H' (upd H4 d (.dK (dkv (ps.map (·.1) ++ [v])))) := Ex.mu ex2 hd0
        have hps3 : Prs (upd H4 d (.dK (dkv (ps.map (·.1) ++ [v])))) xs ps := hps2.up (by intro ys z; rw [ed2] at z; cases z)
        have hus3 : Prs (upd H4 d (.dK (dkv (ps.map (·.1) ++ [v])))) ys us := hus2.up (by intro ys z; rw [ed2] at z; cases z)
        generalize upd H4 d (.dK (dkv (ps.map (·.1) ++ [v]))) = H5 at ef3 eg3 ed3 ex3 hps3 hus3
        refine ⟨_, rfl, a, ns, 2, rfl, ex3.seq hS, ?_⟩
        repeat (first | refine ⟨_, rfl, ?_⟩ | refine ⟨(by show (0 : Int) < _; decide), ?_⟩ | refine ⟨⟨by decide, by decide⟩, ?_⟩ | refine ⟨.inr ⟨by decide, by decide⟩, ?_⟩ | refine ⟨.inl ⟨by decide, by decide⟩, ?_⟩ | refine ⟨⟨by decide, by decide, by decide⟩, ?_⟩ | refine ⟨_, _, rfl, rfl, ?_⟩ | refine ⟨rfl, _, rfl, ?_⟩)
        refine ⟨_, _, rfl, ⟨by omega, by omega⟩, ?_⟩
        generalize hdr : mixed (cell ns 2) (0 + (i : Int) + 1) = dr
        -- the counts
        refine ⟨_, rfl, _, _, rfl, rfl, ⟨by decide, by decide⟩, _, _, rfl, rfl, by show (0 : Int) < 4; decide, ?_⟩
        refine ⟨fun σ' H => ∃ c : Int, 0 ≤ c ∧ c ≤ 30 ∧ σ' = [some (.ref a), some (.int most), some (.int m), some (.ref f), some (.ref g), some (.ref d), some (.int low), some (.int (0 + (i : Int))), some (.int v), some (.int dr), some (.int c), y11] ∧ H = H5, ?_, ?_⟩
        · have c0 : 0 ≤ dr / 2 % 4 := Int.emod_nonneg _ (by decide)
          have c4 : dr / 2 % 4 < 4 := Int.emod_lt_of_pos _ (by decide)
          have f0 : 0 ≤ dr / 12 % 30 := Int.emod_nonneg _ (by decide)
          have f4 : dr / 12 % 30 < 30 := Int.emod_lt_of_pos _ (by decide)
          repeat (first | refine ⟨_, rfl, ?_⟩ | refine ⟨(by show (0 : Int) < _; decide), ?_⟩ | refine ⟨⟨by decide, by decide⟩, ?_⟩ | refine ⟨.inr ⟨by decide, by decide⟩, ?_⟩ | refine ⟨.inl ⟨by decide, by decide⟩, ?_⟩ | refine ⟨⟨by decide, by decide, by decide⟩, ?_⟩ | refine ⟨_, _, rfl, rfl, ?_⟩ | refine ⟨rfl, _, rfl, ?_⟩)
          first | refine iteVI (fun e => ?_) (fun e => ?_) | refine iteVN (fun e => ?_) (fun e => ?_) | refine iteD (fun e => ?_) (fun e => ?_) | refine iteDN (fun e => ?_) (fun e => ?_) | refine iteB (fun e => ?_) (fun e => ?_)
          · repeat (first | refine ⟨_, rfl, ?_⟩ | refine ⟨(by show (0 : Int) < _; decide), ?_⟩ | refine ⟨⟨by decide, by decide⟩, ?_⟩ | refine ⟨.inr ⟨by decide, by decide⟩, ?_⟩ | refine ⟨.inl ⟨by decide, by decide⟩, ?_⟩ | refine ⟨⟨by decide, by decide, by decide⟩, ?_⟩ | refine ⟨_, _, rfl, rfl, ?_⟩ | refine ⟨rfl, _, rfl, ?_⟩)
            exact ⟨_, f0, by omega, rfl, rfl⟩
          · exact ⟨_, c0, by omega, rfl, rfl⟩
        rintro σ' H ⟨c, hc0, hc30, rfl, rfl⟩
        refine ⟨_, rfl, _, _, rfl, rfl, ⟨by decide, by decide⟩, _, _, rfl, rfl, by show (0 : Int) < 4; decide, ?_⟩
        refine ⟨fun σ' H9 => ∃ o : Int, 0 ≤ o ∧ o ≤ 30 ∧ σ' = [some (.ref a), some (.int most), some (.int m), some (.ref f), some (.ref g), some (.ref d), some (.int low), some (.int (0 + (i : Int))), some (.int v), some (.int dr), some (.int c), some (.int o)] ∧ H9 = H, ?_, ?_⟩
        · have c0 : 0 ≤ dr / 360 % 4 := Int.emod_nonneg _ (by decide)
          have c4 : dr / 360 % 4 < 4 := Int.emod_lt_of_pos _ (by decide)
          have f0 : 0 ≤ dr / 360 % 30 := Int.emod_nonneg _ (by decide)
          have f4 : dr / 360 % 30 < 30 := Int.emod_lt_of_pos _ (by decide)
          repeat (first | refine ⟨_, rfl, ?_⟩ | refine ⟨(by show (0 : Int) < _; decide), ?_⟩ | refine ⟨⟨by decide, by decide⟩, ?_⟩ | refine ⟨.inr ⟨by decide, by decide⟩, ?_⟩ | refine ⟨.inl ⟨by decide, by decide⟩, ?_⟩ | refine ⟨⟨by decide, by decide, by decide⟩, ?_⟩ | refine ⟨_, _, rfl, rfl, ?_⟩ | refine ⟨rfl, _, rfl, ?_⟩)
          first | refine iteVI (fun e => ?_) (fun e => ?_) | refine iteVN (fun e => ?_) (fun e => ?_) | refine iteD (fun e => ?_) (fun e => ?_) | refine iteDN (fun e => ?_) (fun e => ?_) | refine iteB (fun e => ?_) (fun e => ?_)
          · repeat (first | refine ⟨_, rfl, ?_⟩ | refine ⟨(by show (0 : Int) < _; decide), ?_⟩ | refine ⟨⟨by decide, by decide⟩, ?_⟩ | refine ⟨.inr ⟨by decide, by decide⟩, ?_⟩ | refine ⟨.inl ⟨by decide, by decide⟩, ?_⟩ | refine ⟨⟨by decide, by decide, by decide⟩, ?_⟩ | refine ⟨_, _, rfl, rfl, ?_⟩ | refine ⟨rfl, _, rfl, ?_⟩)
            exact ⟨_, f0, by omega, rfl, rfl⟩
          · exact ⟨_, c0, by omega, rfl, rfl⟩
        rintro σ' H9 ⟨o, ho0, ho30, rfl, rfl⟩
        refine ⟨fun σ' H => ∃ c o : Int, 0 ≤ c ∧ c ≤ 30 ∧ 0 ≤ o ∧ o ≤ 30 ∧ σ' = [some (.ref a), some (.int most), some (.int m), some (.ref f), some (.ref g), some (.ref d), some (.int low), some (.int (0 + (i : Int))), some (.int v), some (.int dr), some (.int c), some (.int o)] ∧ H = H9, ?_, ?_⟩
        · have c0 : 0 ≤ c % 2 := Int.emod_nonneg _ (by decide)
          have c4 : c % 2 < 2 := Int.emod_lt_of_pos _ (by decide)
          have f0 : 0 ≤ o % 2 := Int.emod_nonneg _ (by decide)
          have f4 : o % 2 < 2 := Int.emod_lt_of_pos _ (by decide)
          repeat (first | refine ⟨_, rfl, ?_⟩ | refine ⟨(by show (0 : Int) < _; decide), ?_⟩ | refine ⟨⟨by decide, by decide⟩, ?_⟩ | refine ⟨.inr ⟨by decide, by decide⟩, ?_⟩ | refine ⟨.inl ⟨by decide, by decide⟩, ?_⟩ | refine ⟨⟨by decide, by decide, by decide⟩, ?_⟩ | refine ⟨_, _, rfl, rfl, ?_⟩ | refine ⟨rfl, _, rfl, ?_⟩)
          first | refine iteVI (fun e => ?_) (fun e => ?_) | refine iteVN (fun e => ?_) (fun e => ?_) | refine iteD (fun e => ?_) (fun e => ?_) | refine iteDN (fun e => ?_) (fun e => ?_) | refine iteB (fun e => ?_) (fun e => ?_)
          · repeat (first | refine ⟨_, rfl, ?_⟩ | refine ⟨(by show (0 : Int) < _; decide), ?_⟩ | refine ⟨⟨by decide, by decide⟩, ?_⟩ | refine ⟨.inr ⟨by decide, by decide⟩, ?_⟩ | refine ⟨.inl ⟨by decide, by decide⟩, ?_⟩ | refine ⟨⟨by decide, by decide, by decide⟩, ?_⟩ | refine ⟨_, _, rfl, rfl, ?_⟩ | refine ⟨rfl, _, rfl, ?_⟩)
            exact ⟨_, _, c0, by omega, f0, by omega, rfl, rfl⟩
          · exact ⟨c, o, hc0, hc30, ho0, ho30, rfl, rfl⟩
        rintro σ' H ⟨c, o, hc0, hc30, ho0, ho30, rfl, rfl⟩
        refine ⟨fun σ' H9 => ∃ c o : Int, 0 ≤ c ∧ c ≤ 30 ∧ 0 ≤ o ∧ o ≤ 30 ∧ low + v * (c + o) ≤ 600 ∧ σ' = [some (.ref a), some (.int most), some (.int m), some (.ref f), some (.ref g), some (.ref d), some (.int low), some (.int (0 + (i : Int))), some (.int v), some (.int dr), some (.int c), some (.int o)] ∧ H9 = H, ?_, ?_⟩
        · refine ⟨_, rfl, _, rfl, _, rfl, _, rfl, _, _, rfl, rfl, _, _, rfl, rfl, .inl ⟨by omega, by omega⟩, _, _, rfl, rfl, _, _, rfl, rfl, _, rfl, iteD (fun e => ?_) (fun e => ?_)⟩
          · exact ⟨0, 0, Int.le_refl _, by decide, Int.le_refl _, by decide, by rw [Int.add_zero, Int.mul_zero]; omega, rfl, rfl⟩
          · have e' : ¬ 600 < low + v * (c + o) := e
            exact ⟨c, o, hc0, hc30, ho0, ho30, by omega, rfl, rfl⟩
        rintro σ' H9 ⟨c, o, hc0, hc30, ho0, ho30, hle, rfl, rfl⟩
        have hvc : 0 ≤ v * c := Int.mul_nonneg (by omega) hc0
        have hvo : 0 ≤ v * o := Int.mul_nonneg (by omega) ho0
        have hvd : v * (c + o) = v * c + v * o := Int.mul_add ..
        refine ⟨_, rfl, _, rfl, _, rfl, _, rfl, _, _, rfl, rfl, _, _, rfl, rfl, .inl ⟨by omega, by omega⟩, _, _, rfl, rfl, ?_⟩
        -- into the till
        refine ⟨_, rfl, .inl ⟨rfl, xs, .of ef3⟩, _, rfl, _, rfl, len63 (by show 2 ≤ _; decide), fun t ht => ?_⟩
        have ntf : f ≠ t := ne_of_none ef3 ht
        have ntg : g ≠ t := ne_of_none eg3 ht
        have ntd : d ≠ t := ne_of_none ed3 ht
        have ef4 : (upd H9 t (.tup [.int v, .int c])) f = some (.lst xs) := by rw [upd_ne ntf]; exact ef3
        refine ⟨f, xs, _, rfl, rfl, ef4, len63' (by rw [hps3.len]; omega), ?_⟩
        generalize hH6 : upd (upd H9 t (.tup [.int v, .int c])) f (.lst (xs ++ [.ref t])) = H6
        have ex6 : Ex H' H6 := hH6 ▸ Ex.mu (ex3.tr (Ex.nw ht)) hf
        have ef6 : H6 f = some (.lst (xs ++ [.ref t])) := by rw [← hH6]; exact upd_same
        have eg6 : H6 g = some (.lst ys) := by rw [← hH6, upd_ne nfg.symm]; exact (Ex.nw ht) _ _ eg3
        have ed6 : H6 d = some (.dK (dkv ((ps ++ [(v, c)]).map (·.1)))) := by rw [← hH6, upd_ne nfd.symm, List.map_append]; exact (Ex.nw ht) _ _ ed3
        have up6 : ∀ {us : List V} {rs : List (Int × Int)}, Prs H9 us rs → Prs H6 us rs := fun h => hH6 ▸ (h.ex (Ex.nw ht)).up (by intro bs y; rw [ef4] at y; cases y)
        have ht6 : H6 t = some (.tup [.int v, .int c]) := by rw [← hH6, upd_ne ntf.symm]; exact upd_same
        have hps6 : Prs H6 (xs ++ [.ref t]) (ps ++ [(v, c)]) := Prs.snoc (up6 hps3) ⟨t, rfl, ht6⟩
        have hus6 := up6 hus3
        have hnp' : ((ps ++ [(v, c)]).map (·.1)).Nodup := by
          rw [List.map_append]
          exact nd_snoc hnp hj
        have hvp' : ∀ p ∈ ps ++ [(v, c)], 1 ≤ p.1 ∧ p.1 ≤ 1000 ∧ 0 ≤ p.2 ∧ p.2 ≤ 1000 := fun p hp => by
          rcases List.mem_append.mp hp with h | h
          · exact hvp p h
          · rw [List.mem_singleton.mp h]
            exact ⟨hin.1, hin.2, hc0, by show c ≤ 1000; omega⟩
        have hvu' : ∀ u ∈ us, (∃ c', (u.1, c') ∈ ps ++ [(v, c)]) ∧ 0 ≤ u.2 ∧ u.2 ≤ 1000 := fun u hu => by
          obtain ⟨⟨c', h1⟩, h2⟩ := hvu u hu
          exact ⟨⟨c', List.mem_append.mpr (.inl h1)⟩, h2⟩
        have hw1 : worthP (ps ++ [(v, c)]) = worthP ps + v * c := by
          rw [worthP_app]
          show _ + (v * c + 0) = _
          omega
        have hpl : (ps ++ [(v, c)]).length = i + 1 := by rw [List.length_append, hlen]; rfl
        refine ⟨_, rfl, _, _, rfl, rfl, ⟨by decide, by decide⟩, _, _, rfl, rfl, by show (0 : Int) < 3; decide, _, _, rfl, rfl, _, rfl, iteD (fun e => ?_) (fun e => ?_)⟩
        · refine ⟨_, rfl, .inl ⟨rfl, ys, .of eg6⟩, _, rfl, _, rfl, len63 (by show 2 ≤ _; decide), fun t2 ht2 => ?_⟩
          have eg7 : (upd H6 t2 (.tup [.int v, .int o])) g = some (.lst ys) := by rw [upd_ne (ne_of_none eg6 ht2)]; exact eg6
          refine ⟨g, ys, _, rfl, rfl, eg7, len63' (by rw [hus.len]; omega), ?_⟩
          have hunv : v ∉ us.map (·.1) := fun hm => by
            obtain ⟨u, hu, hu1⟩ := List.mem_map.mp hm
            obtain ⟨⟨c', h1⟩, _⟩ := hvu u hu
            exact hj (List.mem_map.mpr ⟨_, h1, hu1⟩)
          refine ⟨xs ++ [.ref t], ys ++ [.ref t2], ps ++ [(v, c)], us ++ [(v, o)], low + v * (c + o), _, _, _, _, _, rfl, Ex.mu (ex6.tr (Ex.nw ht2)) hg0, ?_, upd_same, ?_, ?_, ?_, hnp', by rw [List.map_append]; exact nd_snoc hnu hunv, hvp', fun u hu => ?_, by rw [List.length_append, List.length_append]; show us.length + 1 ≤ ps.length + 1; omega, by omega, by omega, ?_, hpl⟩
          · rw [upd_ne nfg]
            exact (Ex.nw ht2) _ _ ef6
          · rw [upd_ne ngd.symm]
            exact (Ex.nw ht2) _ _ ed6
          · exact (hps6.ex (Ex.nw ht2)).up (by intro bs y; rw [eg7] at y; cases y)
          · refine Prs.up (by intro bs y; rw [eg7] at y; cases y) ?_
            exact Prs.snoc (hus6.ex (Ex.nw ht2)) ⟨t2, rfl, upd_same⟩
          · rcases List.mem_append.mp hu with h | h
            · exact hvu' u h
            · rw [List.mem_singleton.mp h]
              exact ⟨⟨c, List.mem_append.mpr (.inr (List.mem_singleton.mpr rfl))⟩, ho0, by show o ≤ 1000; omega⟩
          · rw [hw1, worthP_app, hvd]
            show _ + (_ + (v * o + 0)) ≤ _
            omega
        · exact ⟨xs ++ [.ref t], ys, ps ++ [(v, c)], us, low + v * (c + o), _, _, _, _, _, rfl, ex6, ef6, eg6, ed6, hps6, hus6, hnp', hnu, hvp', hvu', by rw [List.length_append]; omega, by omega, by omega, by rw [hw1, hvd]; omega, hpl⟩
      · have hin : itn v0 k ∈ ps.map (·.1) := by
          by_cases z : itn v0 k ∈ ps.map (·.1)
          · exact z
          · exact absurd z (hmin k (by omega))
        obtain ⟨v, ev⟩ := dkv_some hin
        rw [ev]
        refine iteT ⟨fun σ' H'' => ∃ n', n' < n ∧ ∃ k', k' + n' = j ∧ σ' = [some (.ref a), some (.int most), some (.int m), some (.ref f), some (.ref g), some (.ref d), some (.int low), some (.int (0 + (i : Int))), some (.int (itn v0 k')), y9, y10, y11] ∧ H'' = H4, fun _ _ z => z, ?_⟩
        repeat (first | refine ⟨_, rfl, ?_⟩ | refine ⟨(by show (0 : Int) < _; decide), ?_⟩ | refine ⟨⟨by decide, by decide⟩, ?_⟩ | refine ⟨.inr ⟨by decide, by decide⟩, ?_⟩ | refine ⟨.inl ⟨by decide, by decide⟩, ?_⟩ | refine ⟨⟨by decide, by decide, by decide⟩, ?_⟩ | refine ⟨_, _, rfl, rfl, ?_⟩ | refine ⟨rfl, _, rfl, ?_⟩)
        exact ⟨n - 1, by omega, k + 1, by omega, by rw [itn_succ]; rfl, rfl⟩
    · rintro σ H1 ⟨xs, ys, ps, us, low, y7, y8, y9, y10, y11, rfl, ex, ef, eg, ed, hps, hus, hnp, hnu, hvp, hvu, hfew, hlo0, hlo6, hwo, hlen⟩
      refine ⟨_, rfl, f, xs, pairAt H1, rfl, .of ef, hps.all, fun zs t z1 z2 ht => ?_⟩
      obtain ⟨qs, hq, hpm, hris⟩ := sorted_prs hps hnp z1 z2
      (generalize hh : upd H1 t _ = H2; have e2 : Ex H1 H2 := (by rw [← hh]; exact Ex.nw ht); have ct := (show H2 t = some _ by rw [← hh]; exact upd_same); clear hh)
      have hq2 := hq.ex e2
      have hus2 := hus.ex e2
      refine ⟨_, rfl, g, ys, pairAt H2, rfl, .of (e2 _ _ eg), hus2.all, fun ws u z3 z4 hu => ?_⟩
      obtain ⟨rs, hr, hpm2, hris2⟩ := sorted_prs hus2 hnu z3 z4
      have ntu : t ≠ u := ne_of_none ct hu
      (generalize hh : upd H2 u _ = H3; have e3 : Ex H2 H3 := (by rw [← hh]; exact Ex.nw hu); have cu := (show H3 u = some _ by rw [← hh]; exact upd_same); clear hh)
      refine ⟨len63 (by show 2 ≤ _; decide), fun l hl => ?_⟩
      have ex3 := (ex.tr e2).tr e3
      have ntl : t ≠ l := ne_of_none (e3 _ _ ct) hl
      have nul : u ≠ l := ne_of_none cu hl
      refine q l t u zs ws qs rs _ (ex3.tr (Ex.nw hl)) (none_back ex3 hl) upd_same (none_back ex ht) (none_back (ex.tr e2) hu) ntu ntl nul ((Ex.nw hl) _ _ (e3 _ _ ct)) ((Ex.nw hl) _ _ cu) ((hq2.ex e3).ex (Ex.nw hl)) ((hr.ex e3).ex (Ex.nw hl)) hris hris2 ?_ (by rw [hpm.length_eq]; omega) (by rw [hpm.length_eq]; omega) (fun h => by have := hm3 h; rw [hpm.length_eq]; omega)
      refine ⟨(hpm.map _).nodup_iff.mpr hnp, (hpm2.map _).nodup_iff.mpr hnu, fun p hp => hvp p (hpm.mem_iff.mp hp), fun p hp => ?_, by rw [hpm.length_eq, hpm2.length_eq]; exact hfew, ?_⟩
      · obtain ⟨⟨c, hc⟩, h2, h3⟩ := hvu p (hpm2.mem_iff.mp hp)
        exact ⟨⟨c, hpm.mem_iff.mpr hc⟩, h2, h3⟩
      · have w1 : worthP qs = worthP ps := perm_sum (hpm.map _)
        have w2 : worthP rs = worthP us := perm_sum (hpm2.map _)
        omega
/-! ### whether a number stands in a list -/
theorem flat_ints (l : List Int) : (l.map V.int).all flatV = true := by
  rw [List.all_eq_true]
  intro x hx
  obtain ⟨i, _, rfl⟩ := List.mem_map.mp hx
  rfl
theorem inV_int (z : Int) (l : List Int) : inV (.int z) (l.map V.int) = decide (z ∈ l) := by
  induction l with
  | nil => rfl
  | cons a l ih =>
    unfold inV at ih ⊢
    rw [List.map_cons, List.any_cons, ih]
    have h : eqV (.int a) (.int z) = decide (z = a) := by
      show (a == z) = decide (z = a)
      by_cases e : z = a
      · rw [e]
        simp
      · rw [decide_eq_false e]
        simpa using fun h => e (Eq.symm h)
    rw [h]
    by_cases e : z = a
    · simp [e]
    · simp [e]
theorem fst_ints (ps : List (Int × Int)) : (ps.map fun p => V.int p.1) = (ps.map fun p : Int × Int => p.1).map V.int := by
  rw [List.map_map]
  rfl
/-- a test that is decided, told once -/
theorem ifs_true {t : TT} {a b : TS} {D : Ends} {σ : L2.St} {H : Hp} (ht : ∀ Q : Bool → Hp → Prop, Q true H → t σ H Q) (ha : a D σ H) : tIfS t a b D σ H :=
  ht _ (show if true = true then a D σ H else b D σ H by rw [if_pos rfl]; exact ha)
theorem ifs_false {t : TT} {a b : TS} {D : Ends} {σ : L2.St} {H : Hp} (ht : ∀ Q : Bool → Hp → Prop, Q false H → t σ H Q) (hb : b D σ H) : tIfS t a b D σ H :=
  ht _ (show if false = true then a D σ H else b D σ H by rw [if_neg (by decide)]; exact hb)
theorem test_is {t : TT} {b : Bool} {σ : L2.St} {H : Hp} {F : Bool → Hp → Prop} (ht : ∀ Q : Bool → Hp → Prop, Q b H → t σ H Q) (hf : F b H) : t σ H F := ht F hf
--@split
/-! ### a till and a purse that are worth 1500, or more -/
structure Gen3 (ps us : List (Int × Int)) : Prop where
  g : Gen2 ps us
  t : Tl ps
  k : lacks ps us = false
  u : us.length ≤ 11
def NewTwo3 (H : Hp) (Q : VK) : Prop := ∀ l t u xs ys ps us H2, Ex H H2 → H l = none → H2 l = some (.lst [.ref t, .ref u]) → H2 t = some (.lst xs) → H2 u = some (.lst ys) → Prs H2 xs ps → Prs H2 ys us → Gen3 ps us → Q (.ref l) H2
theorem lacks_no {ps us : List (Int × Int)} (h : ∀ u ∈ us, u.1 ∈ ps.map fun p => p.1) : lacks ps us = false := by
  unfold lacks
  rw [List.any_eq_false]
  intro u hu
  rw [decide_eq_true (h u hu)]
  decide
def spGreat : Sp := fun vs H Q _ => ∃ (t u : Addr) (c : Int) (xs ys : List V) (ps us : List (Int × Int)), vs = [.ref t, .ref u, .int c] ∧ H t = some (.lst xs) ∧ H u = some (.lst ys) ∧ Prs H xs ps ∧ Prs H ys us ∧ Rising ps ∧ Rising us ∧ Dp2 ps us ∧ 1 ≤ ps.length ∧ ps.length < 5 ∧ NewTwo3 H Q
theorem ok_great (T : Tx K mg) : FnOk P w K mg base CX0 2 T.a__law_great T.d__law_great P__law_great spGreat := by
  have G__law_total := ok_total (P := P) (w := w) (base := base) T
  refine T.f__law_great.ok sc__law_great (fun vs H Q E h => ?_) (fun cdv A outer s H vs Q E hr h => ?_)
  · obtain ⟨t, u, c, xs, ys, ps, us, rfl, _⟩ := h
    rfl
  · obtain ⟨t, u, c, xs, ys, ps, us, rfl, ht, hu, hp, hus, hrp, hru, hd, h1, h10, q⟩ := h
    refine ⟨_, (pss_cons (ps_set (i := 3) sc__law_great.nd rfl (.inl rfl) (pe_op op_sub (pe_op op_sub (pe_op op_add pe_int (pe_op op_mod (pv 2) pe_int)) (pe_call G__law_total (hr.mono (by decide)) (by rfl) T.g__law_total T.f__law_total.kp T.p__law_total .nil pass0 (pa_cons (pv 0) pa_nil))) (pe_call G__law_total (hr.mono (by decide)) (by rfl) T.g__law_total T.f__law_total.kp T.p__law_total .nil pass0 (pa_cons (pv 1) pa_nil))))
    (pss_cons (ps_set (i := 4) sc__law_great.nd rfl (.inl rfl) (pe_op op_fdiv (pv 3) pe_int))
    (pss_cons (ps_setLc (i := 5) (own := [("_law_pair", 7)]) (g := gName 7) rfl sc__law_great.nd rfl rfl (sw_true rfl rfl rfl (by decide +kernel)) (pi_list (pv 0)) (blkOk_by (own := [("_law_pair", 7)]) (N := N__law_great) (sc := defScope s__law_great) (by decide +kernel)) (fun _ _ _ _ _ => pg_name (i := 7) sc__law_great.nd rfl (.inl rfl) (.inr rfl)) (fun _ _ _ _ _ => pts_nil) (fun _ _ _ _ _ => (pe_ix (r := rIxT K) ix_tup (pv 7) pe_int (fun _ _ => rfl))))
    (pss_cons (ps_while PassesOwn.never (PW.pt (pw_or (pt_cmpR op_in_seq (pv 4) (pv 5) (by rfl)) (pw_or (pt_cmpR op_in_seq (pe_op op_sub (pv 3) (pv 4)) (pv 5) (by rfl)) (pw_or1 (pt_cmpR op_eq (pe_op op_add (pv 4) (pv 4)) (pv 3) (nomark _))))))
      (pss_one (ps_set (i := 4) sc__law_great.nd rfl (.inl rfl) (pe_op op_sub (pv 4) pe_int))))
    (pss_cons (ps_set (i := 6) sc__law_great.nd rfl (.inl rfl) (pe_ix ix_list (pe_lst (pa_cons pe_int (pa_cons pe_int (pa_cons (pe_op op_add pe_int (pe_op op_mod (pe_op op_fdiv (pv 2) pe_int) (pe_op op_pow pe_int pe_int))) pa_nil)))) (pe_op op_mod (pe_op op_fdiv (pv 2) pe_int) pe_int) (fun _ _ => rfl)))
    (pss_cons (ps_if (pt_cmpR op_eq (pe_op op_mod (pe_op op_fdiv (pv 2) pe_int) pe_int) pe_int (nomark _))
      (pss_one (ps_ret (pe_lst (pa_cons (pe_callB cr_sortedPO (by rfl) T.m_sorted (by decide +kernel) (pa_cons (pe_op op_cat (pv 0) (pe_lst (pa_cons (pe_tup (pa_cons (pv 4) (pa_cons (pv 6) pa_nil))) (pa_cons (pe_tup (pa_cons (pe_op op_sub (pv 3) (pv 4)) (pa_cons pe_int pa_nil))) pa_nil)))) pa_nil)) (pa_cons (pe_callB cr_sortedPO (by rfl) T.m_sorted (by decide +kernel) (pa_cons (pe_op op_cat (pv 1) (pe_lst (pa_cons (pe_tup (pa_cons (pe_op op_sub (pv 3) (pv 4)) (pa_cons pe_int pa_nil))) pa_nil))) pa_nil)) pa_nil)))))
      pss_nil)
    (pss_one (ps_ret (pe_lst (pa_cons (pe_callB cr_sortedPO (by rfl) T.m_sorted (by decide +kernel) (pa_cons (pe_op op_cat (pv 0) (pe_lst (pa_cons (pe_tup (pa_cons (pv 4) (pa_cons (pv 6) pa_nil))) (pa_cons (pe_tup (pa_cons (pe_op op_sub (pv 3) (pv 4)) (pa_cons pe_int pa_nil))) pa_nil)))) pa_nil)) (pa_cons (pv 1) pa_nil))))))))))), ?_⟩
    have hpl := hp.len
    have hul := hus.len
    have hfew := hd.few
    have vup : ∀ p ∈ us, 1 ≤ p.1 ∧ p.1 ≤ 5000 ∧ 0 ≤ p.2 ∧ p.2 ≤ 2000000 := fun p hp => by
      obtain ⟨⟨c', h1⟩, h2, h3⟩ := hd.own p hp
      have := hd.val _ h1
      exact ⟨this.1, by have := this.2.1; omega, h2, by omega⟩
    have vpp : ∀ p ∈ ps, 1 ≤ p.1 ∧ p.1 ≤ 5000 ∧ 0 ≤ p.2 ∧ p.2 ≤ 2000000 := fun p hp => by
      have := hd.val p hp
      exact ⟨this.1, by omega, this.2.2.1, by omega⟩
    have hui : ∀ p ∈ us, p.1 ∈ ps.map fun p => p.1 := fun p hp => by
      obtain ⟨⟨c', h1⟩, _⟩ := hd.own p hp
      exact List.mem_map.mpr ⟨_, h1, rfl⟩
    have hw1 := worthP_nn (us := ps) fun p hp => by have := hd.val p hp; omega
    have hw2 := worthP_nn (us := us) fun p hp => by have := vup p hp; omega
    have hlow := hd.low
    have w1 : 0 ≤ c % 2 := Int.emod_nonneg _ (by decide)
    have w2 : c % 2 < 2 := Int.emod_lt_of_pos _ (by decide)
    repeat (first | refine ⟨_, rfl, ?_⟩ | refine ⟨(by show (0 : Int) < _; decide), ?_⟩ | refine ⟨⟨by decide, by decide⟩, ?_⟩ | refine ⟨.inr ⟨by decide, by decide⟩, ?_⟩ | refine ⟨.inl ⟨by decide, by decide⟩, ?_⟩ | refine ⟨⟨by decide, by decide, by decide⟩, ?_⟩ | refine ⟨_, _, rfl, rfl, ?_⟩ | refine ⟨rfl, _, rfl, ?_⟩)
    refine ⟨t, ps, rfl, ⟨xs, .of ht, hp⟩, fun p hp => by have := hd.val p hp; omega, _, _, rfl, rfl, _, rfl, u, us, rfl, ⟨ys, .of hu, hus⟩, fun p hp => by have := vup p hp; omega, _, _, rfl, rfl, ?_⟩
    obtain ⟨R, hR⟩ : ∃ R : Int, 1500 + c % 2 - worthP ps - worthP us = R := ⟨_, rfl⟩
    have hR1 : 900 ≤ R ∧ R ≤ 1501 := by omega
    refine ⟨_, rfl, _, _, rfl, rfl, ⟨by decide, by decide⟩, ?_⟩
    refine ⟨_, rfl, t, rfl, ⟨xs, .of ht⟩, fun D hD => lc_list (xs := xs) (fun i H' => Ex H H' ∧ H' D = some (.lst ((ps.take i).map fun p => V.int p.1))) ⟨Ex.nw hD, upd_same⟩ (fun i H' _ h => .of (h.1 _ _ ht)) ?_ ?_⟩
    · rintro i x H' hx ⟨ex2, eD⟩
      obtain ⟨p, t2, h1, rfl, h3⟩ := Prs.get hp hx
      refine ⟨rfl, t_yes ?_⟩
      refine ⟨_, rfl, t2, _, 0, .int p.1, rfl, rfl, .of (ex2 _ _ h3), rfl, _, eD, len63' (by rw [List.length_map, List.length_take]; omega), Ex.mu ex2 hD, ?_⟩
      rw [upd_same, take_succ_map _ h1]
    rintro H2 ⟨ex2, eD⟩
    rw [List.take_of_length_le (by omega), fst_ints] at eD
    generalize hVV : (ps.map fun p : Int × Int => p.1) = VV at eD
    have hVl : VV.length = ps.length := by rw [← hVV, List.length_map]
    -- how far it goes down
    obtain ⟨j0, hj0, hf0⟩ := escape (VV ++ VV.map (fun v => R - v) ++ [R / 2]).length (VV ++ VV.map (fun v => R - v) ++ [R / 2]) (fun j : Nat => R / 2 - (j : Int)) rfl (fun i j _ _ e => by
      have e' : R / 2 - (i : Int) = R / 2 - (j : Int) := e
      omega)
    have hkl : (VV ++ VV.map (fun v => R - v) ++ [R / 2]).length ≤ 21 := by
      rw [List.length_append, List.length_append, List.length_map, hVl]
      show ps.length + ps.length + 1 ≤ 21
      omega
    have free0 : ¬ (R / 2 - (j0 : Int) ∈ VV ∨ R - (R / 2 - (j0 : Int)) ∈ VV ∨ R / 2 - (j0 : Int) + (R / 2 - (j0 : Int)) = R) := by
      intro hb
      apply hf0
      rcases hb with h | h | h
      · exact List.mem_append.mpr (.inl (List.mem_append.mpr (.inl h)))
      · exact List.mem_append.mpr (.inl (List.mem_append.mpr (.inr (List.mem_map.mpr ⟨_, h, by show R - (R - (R / 2 - (j0 : Int))) = R / 2 - (j0 : Int); omega⟩))))
      · exact List.mem_append.mpr (.inr (List.mem_singleton.mpr (by show R / 2 - (j0 : Int) = R / 2; omega)))
    obtain ⟨j, hj, hmin⟩ := least (p := fun j : Nat => ¬ (R / 2 - (j : Int) ∈ VV ∨ R - (R / 2 - (j : Int)) ∈ VV ∨ R / 2 - (j : Int) + (R / 2 - (j : Int)) = R)) ⟨j0, free0⟩
    have hj21 : j ≤ 21 := by
      by_cases z : j0 < j
      · exact absurd free0 (hmin j0 z)
      · omega
    refine ⟨fun n σ H' => ∃ k : Nat, k + n = j ∧ σ = [some (.ref t), some (.ref u), some (.int c), some (.int R), some (.int (R / 2 - (k : Int))), some (.ref D), none, none] ∧ H' = H2, ⟨j, 0, by omega, by
      rw [← hR]
      show _ = [_, _, _, _, some (V.int ((1500 + c % 2 - worthP ps - worthP us) / 2 - 0)), _, _, _]
      rw [Int.sub_zero]
      rfl, rfl⟩, ?_⟩
    rintro n σ H3 ⟨k, hk, rfl, rfl⟩
    generalize hone : R / 2 - (k : Int) = one
    have dIn : ∀ z : Int, (if false = true then !inV (.int z) (VV.map V.int) else inV (.int z) (VV.map V.int)) = decide (z ∈ VV) := fun z => by rw [if_neg (by decide), inV_int]
    by_cases hn : n = 0
    · have hkj : k = j := by omega
      subst hkj
      rw [hone] at hj
      have f1 : ¬ one ∈ VV := fun z => hj (.inl z)
      have f2 : ¬ R - one ∈ VV := fun z => hj (.inr (.inl z))
      have f3 : ¬ one + one = R := fun z => hj (.inr (.inr z))
      refine test_is (b := false) (fun Q hq => ?_) ?_
      · refine ⟨_, rfl, _, rfl, D, _, rfl, .inl (.of eD), rfl, flat_ints _, _, rfl, ?_⟩
        rw [dIn]
        refine iteD (fun z => absurd z f1) (fun _ => ?_)
        refine ⟨_, rfl, _, rfl, _, _, rfl, rfl, _, rfl, D, _, rfl, .inl (.of eD), rfl, flat_ints _, _, rfl, ?_⟩
        rw [dIn]
        refine iteD (fun z => absurd z f2) (fun _ => ?_)
        refine ⟨_, rfl, _, rfl, _, _, rfl, rfl, _, rfl, rfl, _, rfl, ?_⟩
        rw [decide_eq_false (show ¬ V.int (one + one) = V.int R from fun z => f3 (V.int.inj z))]
        exact hq
      refine iteF ?_
      have d1 : 0 ≤ c / 2 % 3 := Int.emod_nonneg _ (by decide)
      have d2 : c / 2 % 3 < 3 := Int.emod_lt_of_pos _ (by decide)
      have q1 : 0 ≤ c / 6 % 10 ^ (6 : Int).toNat := Int.emod_nonneg _ (by decide)
      have q2 : c / 6 % 10 ^ (6 : Int).toNat < 10 ^ (6 : Int).toNat := Int.emod_lt_of_pos _ (by decide)
      have q3 : ((10 : Int) ^ (6 : Int).toNat) = 1000000 := by decide
      repeat (first | refine ⟨_, rfl, ?_⟩ | refine ⟨(by show (0 : Int) < _; decide), ?_⟩ | refine ⟨⟨by decide, by decide⟩, ?_⟩ | refine ⟨.inr ⟨by decide, by decide⟩, ?_⟩ | refine ⟨.inl ⟨by decide, by decide⟩, ?_⟩ | refine ⟨⟨by decide, by decide, by decide⟩, ?_⟩ | refine ⟨_, _, rfl, rfl, ?_⟩ | refine ⟨rfl, _, rfl, ?_⟩)
      refine ⟨len63 (by show 3 ≤ _; decide), fun m hm => ?_⟩
      repeat (first | refine ⟨_, rfl, ?_⟩ | refine ⟨(by show (0 : Int) < _; decide), ?_⟩ | refine ⟨⟨by decide, by decide⟩, ?_⟩ | refine ⟨.inr ⟨by decide, by decide⟩, ?_⟩ | refine ⟨.inl ⟨by decide, by decide⟩, ?_⟩ | refine ⟨⟨by decide, by decide, by decide⟩, ?_⟩ | refine ⟨_, _, rfl, rfl, ?_⟩ | refine ⟨rfl, _, rfl, ?_⟩)
      refine ⟨m, [1, 1, 1 + c / 6 % 10 ^ (6 : Int).toNat].map V.int, _, _, rfl, rfl, .of upd_same, menu_at rfl d1 d2, ?_⟩
      have hmb : 0 ≤ [1, 1, 1 + c / 6 % 10 ^ (6 : Int).toNat].getD (c / 2 % 3).toNat 0 ∧ [1, 1, 1 + c / 6 % 10 ^ (6 : Int).toNat].getD (c / 2 % 3).toNat 0 ≤ 2000000 := by
        obtain ⟨i, hi⟩ : ∃ i : Nat, (c / 2 % 3).toNat = i := ⟨_, rfl⟩
        have hi3 : i < 3 := by omega
        rw [hi]
        match i, hi3 with
        | 0, _ => exact ⟨by show (0 : Int) ≤ 1; decide, by show (1 : Int) ≤ 2000000; decide⟩
        | 1, _ => exact ⟨by show (0 : Int) ≤ 1; decide, by show (1 : Int) ≤ 2000000; decide⟩
        | 2, _ => exact ⟨by show (0 : Int) ≤ 1 + c / 6 % 10 ^ (6 : Int).toNat; omega, by show 1 + c / 6 % 10 ^ (6 : Int).toNat ≤ 2000000; omega⟩
      generalize List.getD _ _ _ = mm at hmb ⊢
      (generalize hh : upd H3 m _ = H4; have e4 : Ex H3 H4 := (by rw [← hh]; exact Ex.nw hm); have c4 := (show H4 m = some _ by rw [← hh]; exact upd_same); clear hh)
      have ex4 := ex2.tr e4
      have go : ∀ (z2 : Int) (H5 H6 H7 H8 : Hp) (t1 t2 l1 l2 : Addr), 0 ≤ z2 ∧ z2 ≤ 2000000 → Ex H H8 → H8 t1 = some (.tup [.int one, .int mm]) → H8 t2 = some (.tup [.int (R - one), .int z2]) → H8 l2 = some (.lst (xs ++ [.ref t1, .ref t2])) →
          ∃ hps : Prs H8 (xs ++ [.ref t1, .ref t2]) (ps ++ [(one, mm), (R - one, z2)]), ((ps ++ [(one, mm), (R - one, z2)]).map (·.1)).Nodup := by
        intro z2 H5 H6 H7 H8 t1 t2 l1 l2 hz ex8 c1 c2 c3
        refine ⟨Prs.app (hp.ex ex8) (.cons ⟨t1, rfl, c1⟩ (.cons ⟨t2, rfl, c2⟩ .nil)), ?_⟩
        rw [List.map_append, show ([(one, mm), (R - one, z2)] : List (Int × Int)).map (·.1) = [one] ++ [R - one] from rfl, ← List.append_assoc, hVV]
        refine nd_snoc (nd_snoc (hVV ▸ hd.nd) f1) fun hm => ?_
        rcases List.mem_append.mp hm with z | z
        · exact f2 z
        · have := List.mem_singleton.mp z
          omega
      have okp : ∀ (z2 : Int) (rs : List (Int × Int)), 0 ≤ z2 ∧ z2 ≤ 2000000 → rs.Perm (ps ++ [(one, mm), (R - one, z2)]) → (∀ p ∈ rs, 1 ≤ p.1 ∧ p.1 ≤ 1000 ∧ 0 ≤ p.2 ∧ p.2 ≤ 2000000) ∧ rs.length = ps.length + 2 ∧ ∀ v, v ∈ rs.map (fun p => p.1) ↔ v ∈ ps.map (fun p => p.1) ∨ v = one ∨ v = R - one := by
        intro z2 rs hz hpm
        refine ⟨fun p hp => ?_, by rw [hpm.length_eq, List.length_append]; rfl, fun v => ?_⟩
        · rcases List.mem_append.mp (hpm.mem_iff.mp hp) with h | h
          · have := hd.val p h
            exact ⟨this.1, this.2.1, this.2.2.1, by omega⟩
          · rcases List.mem_cons.mp h with h | h
            · rw [h]
              exact ⟨by show 1 ≤ one; omega, by show one ≤ 1000; omega, hmb.1, hmb.2⟩
            · rw [List.mem_singleton.mp h]
              exact ⟨by show 1 ≤ R - one; omega, by show R - one ≤ 1000; omega, hz.1, hz.2⟩
        · rw [(hpm.map _).mem_iff, List.map_append, List.mem_append]
          simp
      refine ⟨_, rfl, _, _, rfl, rfl, ⟨by decide, by decide⟩, _, _, rfl, rfl, by show (0 : Int) < 2; decide, rfl, _, rfl, iteVI (fun ec => ?_) (fun ec => ?_)⟩
      · -- one in the purse alone
        refine ⟨_, rfl, _, rfl, _, rfl, len63 (by show 2 ≤ _; decide), fun t1 ht1 => ?_⟩
        (generalize hh : upd H4 t1 _ = H5; have e5 : Ex H4 H5 := (by rw [← hh]; exact Ex.nw ht1); have c5 := (show H5 t1 = some _ by rw [← hh]; exact upd_same); clear hh)
        refine ⟨_, rfl, _, rfl, _, _, rfl, rfl, len63 (by show 2 ≤ _; decide), fun t2 ht2 => ?_⟩
        (generalize hh : upd H5 t2 _ = H6; have e6 : Ex H5 H6 := (by rw [← hh]; exact Ex.nw ht2); have c6 := (show H6 t2 = some _ by rw [← hh]; exact upd_same); clear hh)
        refine ⟨len63 (by show 2 ≤ _; decide), fun l1 hl1 => ?_⟩
        (generalize hh : upd H6 l1 _ = H7; have e7 : Ex H6 H7 := (by rw [← hh]; exact Ex.nw hl1); have c7 := (show H7 l1 = some _ by rw [← hh]; exact upd_same); clear hh)
        have ex7 := ((ex4.tr e5).tr e6).tr e7
        refine ⟨t, l1, _, _, rfl, rfl, ex7 _ _ ht, c7, len63 (by show xs.length + 2 ≤ _; omega), fun l2 hl2 => ?_⟩
        (generalize hh : upd H7 l2 _ = H8; have e8 : Ex H7 H8 := (by rw [← hh]; exact Ex.nw hl2); have c8 := (show H8 l2 = some _ by rw [← hh]; exact upd_same); clear hh)
        have ex8 := ex7.tr e8
        obtain ⟨hps, hnu⟩ := go 0 H5 H6 H7 H8 t1 t2 l1 l2 ⟨by decide, by decide⟩ ex8 (e8 _ _ (e7 _ _ (e6 _ _ c5))) (e8 _ _ (e7 _ _ c6)) c8
        refine ⟨l2, _, pairAt H8, rfl, .of c8, hps.all, fun ws t9 z1 z2 ht9 => ?_⟩
        obtain ⟨rs, hr2, hpm, hris⟩ := sorted_prs hps hnu z1 z2
        (generalize hh : upd H8 t9 _ = H9; have e9 : Ex H8 H9 := (by rw [← hh]; exact Ex.nw ht9); have c9 := (show H9 t9 = some _ by rw [← hh]; exact upd_same); clear hh)
        have ex9 := ex8.tr e9
        have hr9 := hr2.ex e9
        obtain ⟨o1, o2, o3⟩ := okp 0 rs ⟨by decide, by decide⟩ hpm
        refine ⟨_, rfl, _, rfl, _, rfl, _, _, rfl, rfl, len63 (by show 2 ≤ _; decide), fun t3 ht3 => ?_⟩
        (generalize hh : upd H9 t3 _ = H10; have e10 : Ex H9 H10 := (by rw [← hh]; exact Ex.nw ht3); have c10 := (show H10 t3 = some _ by rw [← hh]; exact upd_same); clear hh)
        refine ⟨len63 (by show 1 ≤ _; decide), fun l3 hl3 => ?_⟩
        (generalize hh : upd H10 l3 _ = H11; have e11 : Ex H10 H11 := (by rw [← hh]; exact Ex.nw hl3); have c11 := (show H11 l3 = some _ by rw [← hh]; exact upd_same); clear hh)
        have ex11 := (ex9.tr e10).tr e11
        refine ⟨u, l3, _, _, rfl, rfl, ex11 _ _ hu, c11, len63 (by show ys.length + 1 ≤ _; omega), fun l4 hl4 => ?_⟩
        (generalize hh : upd H11 l4 _ = H12; have e12 : Ex H11 H12 := (by rw [← hh]; exact Ex.nw hl4); have c12 := (show H12 l4 = some _ by rw [← hh]; exact upd_same); clear hh)
        have ex12 := ex11.tr e12
        have hps2 : Prs H12 (ys ++ [.ref t3]) (us ++ [(R - one, 1)]) := Prs.snoc (hus.ex ex12) ⟨t3, rfl, e12 _ _ (e11 _ _ c10)⟩
        have hnu2 : ((us ++ [(R - one, (1 : Int))]).map (·.1)).Nodup := by
          rw [List.map_append]
          refine nd_snoc hd.und fun hm => f2 ?_
          obtain ⟨p, hp1, hp2⟩ := List.mem_map.mp hm
          have h8 := hui p hp1
          rw [show p.1 = R - one from hp2, hVV] at h8
          exact h8
        refine ⟨l4, _, pairAt H12, rfl, .of c12, hps2.all, fun ws2 t8 z3 z4 ht8 => ?_⟩
        obtain ⟨rs2, hr3, hpm2, hris2⟩ := sorted_prs hps2 hnu2 z3 z4
        (generalize hh : upd H12 t8 _ = H13; have e13 : Ex H12 H13 := (by rw [← hh]; exact Ex.nw ht8); have c13 := (show H13 t8 = some _ by rw [← hh]; exact upd_same); clear hh)
        have ex13 := ex12.tr e13
        have e913 := ((e10.tr e11).tr e12).tr e13
        refine ⟨len63 (by show 2 ≤ _; decide), fun l hl => ?_⟩
        have okq : ∀ p ∈ rs2, p ∈ us ∨ p = (R - one, 1) := fun p hp => by
          rcases List.mem_append.mp (hpm2.mem_iff.mp hp) with h | h
          · exact .inl h
          · exact .inr (List.mem_singleton.mp h)
        refine q l t9 t8 ws ws2 rs rs2 _ (ex13.tr (Ex.nw hl)) (none_back ex13 hl) upd_same ((Ex.nw hl) _ _ (e913 _ _ c9)) ((Ex.nw hl) _ _ c13) (hr9.ex (e913.tr (Ex.nw hl))) ((hr3.ex e13).ex (Ex.nw hl)) ⟨⟨hris, hris2, fun p hp => by have := o1 p hp; omega, fun p hp => ?_, by omega, by rw [hpm2.length_eq, List.length_append]; show us.length + 1 ≤ 12; omega⟩, ⟨hris, fun p hp => ⟨(o1 p hp).1, (o1 p hp).2.1⟩, fun p hp => ⟨(o1 p hp).2.2.1, by have := (o1 p hp).2.2.2; omega⟩, by omega⟩, lacks_no fun p hp => ?_, by rw [hpm2.length_eq, List.length_append]; show us.length + 1 ≤ 11; omega⟩
        · rcases okq p hp with h | h
          · exact vup p h
          · rw [h]
            exact ⟨by show 1 ≤ R - one; omega, by show R - one ≤ 5000; omega, by show (0 : Int) ≤ 1; decide, by show (1 : Int) ≤ 2000000; decide⟩
        · rw [o3]
          rcases okq p hp with h | h
          · exact .inl (hui p h)
          · rw [h]
            exact .inr (.inr rfl)
      · refine ⟨_, rfl, _, rfl, _, rfl, len63 (by show 2 ≤ _; decide), fun t1 ht1 => ?_⟩
        (generalize hh : upd H4 t1 _ = H5; have e5 : Ex H4 H5 := (by rw [← hh]; exact Ex.nw ht1); have c5 := (show H5 t1 = some _ by rw [← hh]; exact upd_same); clear hh)
        refine ⟨_, rfl, _, rfl, _, _, rfl, rfl, len63 (by show 2 ≤ _; decide), fun t2 ht2 => ?_⟩
        (generalize hh : upd H5 t2 _ = H6; have e6 : Ex H5 H6 := (by rw [← hh]; exact Ex.nw ht2); have c6 := (show H6 t2 = some _ by rw [← hh]; exact upd_same); clear hh)
        refine ⟨len63 (by show 2 ≤ _; decide), fun l1 hl1 => ?_⟩
        (generalize hh : upd H6 l1 _ = H7; have e7 : Ex H6 H7 := (by rw [← hh]; exact Ex.nw hl1); have c7 := (show H7 l1 = some _ by rw [← hh]; exact upd_same); clear hh)
        have ex7 := ((ex4.tr e5).tr e6).tr e7
        refine ⟨t, l1, _, _, rfl, rfl, ex7 _ _ ht, c7, len63 (by show xs.length + 2 ≤ _; omega), fun l2 hl2 => ?_⟩
        (generalize hh : upd H7 l2 _ = H8; have e8 : Ex H7 H8 := (by rw [← hh]; exact Ex.nw hl2); have c8 := (show H8 l2 = some _ by rw [← hh]; exact upd_same); clear hh)
        have ex8 := ex7.tr e8
        obtain ⟨hps, hnu⟩ := go 1 H5 H6 H7 H8 t1 t2 l1 l2 ⟨by decide, by decide⟩ ex8 (e8 _ _ (e7 _ _ (e6 _ _ c5))) (e8 _ _ (e7 _ _ c6)) c8
        refine ⟨l2, _, pairAt H8, rfl, .of c8, hps.all, fun ws t9 z1 z2 ht9 => ?_⟩
        obtain ⟨rs, hr2, hpm, hris⟩ := sorted_prs hps hnu z1 z2
        (generalize hh : upd H8 t9 _ = H9; have e9 : Ex H8 H9 := (by rw [← hh]; exact Ex.nw ht9); have c9 := (show H9 t9 = some _ by rw [← hh]; exact upd_same); clear hh)
        have ex9 := ex8.tr e9
        obtain ⟨o1, o2, o3⟩ := okp 1 rs ⟨by decide, by decide⟩ hpm
        refine ⟨_, rfl, len63 (by show 2 ≤ _; decide), fun l hl => ?_⟩
        refine q l t9 u ws ys rs us _ (ex9.tr (Ex.nw hl)) (none_back ex9 hl) upd_same ((Ex.nw hl) _ _ c9) ((Ex.nw hl) _ _ (ex9 _ _ hu)) ((hr2.ex e9).ex (Ex.nw hl)) (hus.ex (ex9.tr (Ex.nw hl))) ⟨⟨hris, hru, fun p hp => by have := o1 p hp; omega, vup, by omega, by omega⟩, ⟨hris, fun p hp => ⟨(o1 p hp).1, (o1 p hp).2.1⟩, fun p hp => ⟨(o1 p hp).2.2.1, by have := (o1 p hp).2.2.2; omega⟩, by omega⟩, lacks_no fun p hp => (o3 _).mpr (.inl (hui p hp)), by omega⟩
    · have hb : one ∈ VV ∨ R - one ∈ VV ∨ one + one = R := by
        have := hmin k (by omega)
        rw [hone] at this
        exact Classical.not_not.mp this
      refine test_is (b := true) (fun Q hq => ?_) ?_
      · refine ⟨_, rfl, _, rfl, D, _, rfl, .inl (.of eD), rfl, flat_ints _, _, rfl, ?_⟩
        rw [dIn]
        refine iteD (fun _ => hq) (fun f1 => ?_)
        refine ⟨_, rfl, _, rfl, _, _, rfl, rfl, _, rfl, D, _, rfl, .inl (.of eD), rfl, flat_ints _, _, rfl, ?_⟩
        rw [dIn]
        refine iteD (fun _ => hq) (fun f2 => ?_)
        refine ⟨_, rfl, _, rfl, _, _, rfl, rfl, _, rfl, rfl, _, rfl, ?_⟩
        have f3 : one + one = R := by
          rcases hb with z | z | z
          · exact absurd z f1
          · exact absurd z f2
          · exact z
        rw [decide_eq_true (show V.int (one + one) = V.int R from congrArg V.int f3)]
        exact hq
      refine iteT ⟨_, fun σ' H' w => ⟨n - 1, by omega, w⟩, ?_⟩
      refine ⟨_, rfl, _, _, rfl, rfl, k + 1, by omega, ?_, rfl⟩
      rw [← hone]
      show [_, _, _, _, some (V.int (R / 2 - (k : Int) - 1)), _, _, _] = [_, _, _, _, some (V.int (R / 2 - ((k + 1 : Nat) : Int))), _, _, _]
      rw [show R / 2 - (k : Int) - 1 = R / 2 - ((k + 1 : Nat) : Int) by omega]
--@split
/-! ### a part of a deal, looked at -/
def spPart (K : PySem.W.Frag) : Sp := fun vs H Q _ => ∃ (a m : Addr) (xs : List V) (gs us : List (Int × Int)), vs = [.ref a, .ref m] ∧ H a = some (.lst xs) ∧ Prs H xs gs ∧ Till K H m us ∧ Rising gs ∧ (∀ q ∈ gs, 1 ≤ q.1 ∧ q.1 ≤ 5000 ∧ 1 ≤ q.2 ∧ q.2 ≤ ownOf us q.1) ∧ Q (.int (worthP gs)) H
theorem ok_part (T : Tx K mg) : FnOk P w K mg base CX0 2 T.a__law_part T.d__law_part P__law_part (spPart K) := by
  have G__law_whole := ok_whole (P := P) (w := w) (base := base) T
  have G__law_own := ok_own (P := P) (w := w) (base := base) T
  refine T.f__law_part.ok sc__law_part (fun vs H Q E h => ?_) (fun cdv A outer s H vs Q E hr h => ?_)
  · obtain ⟨a, m, xs, gs, us, rfl, _⟩ := h
    rfl
  · obtain ⟨a, m, xs, gs, us, rfl, ha, hp, hU, hri, hgs, q⟩ := h
    refine ⟨_, (pss_cons (ps_if (pt_not (pt_val (pe_callB call_isi (by rfl) T.m_isinstance (by decide +kernel) (pa_cons (pv 0) (pa_cons (pe_bltn (v := .ty "list") (by rfl) T.m_list (by decide +kernel) rfl) pa_nil)))))
      (pss_one (ps_ret (pe_un un_neg pe_int)))
      pss_nil)
    (pss_cons (ps_set (i := 2) sc__law_part.nd rfl (.inl rfl) pe_int)
    (pss_cons (ps_set (i := 3) sc__law_part.nd rfl (.inl rfl) pe_int)
    (pss_cons (ps_for PassesOwn.never rfl (pi_list (pv 0)) (pg_name (i := 4) sc__law_part.nd rfl (.inl rfl))
      (pss_cons (ps_if (PW.pt (pw_or (pt_not (pt_val (pe_callB call_isi (by rfl) T.m_isinstance (by decide +kernel) (pa_cons (pv 4) (pa_cons (pe_bltn (v := .ty "tuple") (by rfl) T.m_tuple (by decide +kernel) rfl) pa_nil))))) (pw_or (pt_cmpR op_ne (pe_callB call_len_seq (by rfl) T.m_len (by decide +kernel) (pa_cons (pv 4) pa_nil)) pe_int (nomark _)) (pw_or (pt_not (pt_val (pe_call G__law_whole (hr.mono (by decide)) (by rfl) T.g__law_whole T.f__law_whole.kp T.p__law_whole .nil pass0 (pa_cons (pe_ix ix_tup (pv 4) pe_int (fun _ _ => rfl)) pa_nil)))) (pw_or1 (pt_not (pt_val (pe_call G__law_whole (hr.mono (by decide)) (by rfl) T.g__law_whole T.f__law_whole.kp T.p__law_whole .nil pass0 (pa_cons (pe_ix ix_tup (pv 4) pe_int (fun _ _ => rfl)) pa_nil)))))))))
        (pss_one (ps_ret (pe_un un_neg pe_int)))
        pss_nil)
      (pss_cons (ps_if (PW.pt (pw_or (pt_cmpR op_le (pe_ix ix_tup (pv 4) pe_int (fun _ _ => rfl)) (pv 2) (nomark _)) (pw_or (pt_cmpR op_lt (pe_ix ix_tup (pv 4) pe_int (fun _ _ => rfl)) pe_int (nomark _)) (pw_or1 (pt_cmpR op_gt (pe_ix ix_tup (pv 4) pe_int (fun _ _ => rfl)) (pe_call G__law_own (hr.mono (by decide)) (by rfl) T.g__law_own T.f__law_own.kp T.p__law_own .nil pass0 (pa_cons (pv 1) (pa_cons (pe_ix ix_tup (pv 4) pe_int (fun _ _ => rfl)) pa_nil))) (nomark _))))))
        (pss_one (ps_ret (pe_un un_neg pe_int)))
        pss_nil)
      (pss_cons (ps_set (i := 2) sc__law_part.nd rfl (.inl rfl) (pe_ix ix_tup (pv 4) pe_int (fun _ _ => rfl)))
      (pss_one (ps_set (i := 3) sc__law_part.nd rfl (.inl rfl) (pe_op op_add (pv 3) (pe_op op_mul (pe_ix ix_tup (pv 4) pe_int (fun _ _ => rfl)) (pe_ix ix_tup (pv 4) pe_int (fun _ _ => rfl))))))))))
    (pss_one (ps_ret (pv 3))))))), ?_⟩
    have hxl := hp.len
    refine ⟨_, rfl, _, _, _, _, true, rfl, .ty "list", .base (.lst ha), kit_ty (by decide +kernel), _, rfl, iteF ?_⟩
    refine ⟨_, rfl, a, rfl, ⟨xs, .of ha⟩, for_list (xs := xs) (fun i σ H' => ∃ (last : Int) (y4 : Option V), σ = [some (.ref a), some (.ref m), some (.int last), some (.int (worthP (gs.take i))), y4] ∧ H' = H ∧ ∀ q ∈ gs.drop i, last < q.1)
      ⟨0, _, rfl, rfl, fun q hq => by have := (hgs q hq).1; omega⟩ (fun i σ H' _ h => by obtain ⟨_, _, _, rfl, _⟩ := h; exact .of ha) ?_ ?_⟩
    · rintro i x σ H' hx ⟨last, y4, rfl, rfl, hlast⟩
      obtain ⟨p, t2, h1, rfl, h3⟩ := Prs.get hp hx
      have hpg := hgs p (List.mem_of_getElem? h1)
      rw [drop_at h1] at hlast
      have hl1 := hlast p List.mem_cons_self
      have hri' : (p :: gs.drop (i + 1)).Pairwise fun p q => p.1 < q.1 := by
        rw [← drop_at h1]
        exact List.Pairwise.sublist (List.drop_sublist ..) hri
      refine ⟨_, rfl, _, _, _, _, true, rfl, .ty "tuple", .base (.tup h3), kit_ty (by decide +kernel), _, rfl, iteF ?_⟩
      refine ⟨_, rfl, t2, _, rfl, .inr (.of h3), rfl, _, rfl, iteVN (fun z => absurd rfl z) (fun _ => ?_)⟩
      refine ⟨_, rfl, t2, _, 0, .int p.1, rfl, rfl, .of h3, rfl, p.1, rfl, true, rfl, iteF ?_⟩
      refine ⟨_, rfl, t2, _, 1, .int p.2, rfl, rfl, .of h3, rfl, p.2, rfl, true, rfl, iteF ?_⟩
      refine ⟨_, rfl, t2, _, 0, .int p.1, rfl, rfl, .of h3, rfl, _, rfl, _, _, rfl, rfl, _, rfl, iteD (fun z => absurd (show p.1 ≤ last from z) (by omega)) (fun _ => ?_)⟩
      refine ⟨_, rfl, t2, _, 1, .int p.2, rfl, rfl, .of h3, rfl, _, _, rfl, rfl, _, rfl, iteD (fun z => absurd (show p.2 < 1 from z) (by omega)) (fun _ => ?_)⟩
      refine ⟨_, rfl, t2, _, 1, .int p.2, rfl, rfl, .of h3, rfl, _, rfl, _, rfl, t2, _, 0, .int p.1, rfl, rfl, .of h3, rfl, m, us, p.1, rfl, hU, ?_⟩
      refine ⟨_, _, rfl, rfl, _, rfl, iteD (fun z => absurd (show p.2 > ownOf us p.1 from z) (by omega)) (fun _ => ?_)⟩
      refine ⟨_, rfl, t2, _, 0, .int p.1, rfl, rfl, .of h3, rfl, ?_⟩
      refine ⟨_, rfl, _, rfl, t2, _, 0, .int p.1, rfl, rfl, .of h3, rfl, _, rfl, t2, _, 1, .int p.2, rfl, rfl, .of h3, rfl, _, _, rfl, rfl, .inl ⟨by omega, by omega⟩, _, _, rfl, rfl, ?_⟩
      refine ⟨p.1, some (.ref t2), ?_, rfl, (List.pairwise_cons.mp hri').1⟩
      rw [take_snoc h1, worthP_app]
      show [_, _, _, some (V.int (worthP (gs.take i) + p.1 * p.2)), _] = [_, _, _, some (V.int (worthP (gs.take i) + (p.1 * p.2 + 0))), _]
      rw [Int.add_zero]
    · rintro σ H' ⟨last, y4, rfl, rfl, _⟩
      rw [List.take_of_length_le (by omega)]
      exact ⟨_, rfl, q⟩
def spPieces11 (K : PySem.W.Frag) : Sp := fun vs H Q _ => ∃ (a : Addr) (ps : List (Int × Int)), vs = [.ref a] ∧ Till K H a ps ∧ ps.length ≤ 1000 ∧ Ret (.int (manyP ps)) H Q
theorem ok_pieces11 (T : Tx K mg) : FnOk P w K mg base CX0 1 T.a__law_pieces T.d__law_pieces P__law_pieces (spPieces11 K) := by
  refine T.f__law_pieces.ok sc__law_pieces (fun vs H Q E h => ?_) (fun cdv A outer s H vs Q E hr h => ?_)
  · obtain ⟨a, ps, rfl, _⟩ := h
    rfl
  · obtain ⟨a, ps, rfl, ⟨xs, hS, hp⟩, hl, q⟩ := h
    refine ⟨_, (pss_one (ps_ret (pe_callB (cr_sum rfl) (by rfl) T.m_sum (by decide +kernel) (pa_cons (pe_lc (own := [("_law_pair", 1)]) (g := gName 1) rfl sc__law_pieces.nd (pi_list (pv 0)) (blkOk_by (own := [("_law_pair", 1)]) (N := N__law_pieces) (sc := defScope s__law_pieces) (by decide +kernel)) (fun _ _ _ _ _ => pg_name (i := 1) sc__law_pieces.nd rfl (.inl rfl) (.inr rfl)) (fun _ _ _ _ _ => pts_nil) (fun _ _ _ _ _ => (pe_ix (r := rIxT K) ix_tup (pv 1) pe_int (fun _ _ => rfl)))) pa_nil)))), ?_⟩
    refine ⟨_, rfl, a, rfl, ⟨xs, hS⟩, fun D hD => lc_list (xs := xs) (fun i H' => Ex H H' ∧ H' D = some (.lst ((ps.take i).map fun p => .int p.2))) ⟨Ex.nw hD, upd_same⟩ (fun i H' _ h => h.1.seq hS) ?_ ?_⟩
    · rintro i x H' hx ⟨ex, eD⟩
      obtain ⟨p, t, h1, rfl, h3⟩ := Prs.get hp hx
      refine ⟨rfl, t_yes ?_⟩
      refine ⟨_, rfl, t, _, 1, .int p.2, rfl, rfl, .of (ex _ _ h3), rfl, _, eD, ?_, ?_, ?_⟩
      · rw [List.length_map, List.length_take]
        exact len63' (by omega)
      · exact Ex.mu ex hD
      · rw [upd_same, take_succ_map _ h1]
    · rintro H' ⟨ex, eD⟩
      rw [List.take_of_length_le (by rw [hp.len]; exact Nat.le_refl _)] at eD
      refine ⟨D, ps.map fun p : Int × Int => p.2, rfl, .of (by rw [eD, List.map_map]; rfl), q H' ex⟩
/-! ### a deal, tried, refused -/
theorem dueDl_in (ps us : List (Int × Int)) (c : Int) : dueDl ps us c = "kind" ∨ dueDl ps us c = "sum" ∨ dueDl ps us c = "change" ∨ dueDl ps us c = "" := by
  unfold dueDl
  split
  · split
    · split
      · exact .inr (.inr (.inl rfl))
      · exact .inr (.inr (.inr rfl))
    · rcases dueS_in ps us with h | h | h
      · exact .inl h
      · exact .inr (.inl h)
      · exact .inr (.inr (.inr h))
  · exact .inr (.inl rfl)
def DealF (ps us : List (Int × Int)) (c : Int) (H H2 : Hp) (l : Addr) (v : V) : Prop := dueDl ps us c = "" → ∃ (p b g : Addr) (xs ys : List V), v = .ref p ∧ H l = none ∧ H p = none ∧ H b = none ∧ H g = none ∧ l ≠ b ∧ l ≠ g ∧ b ≠ g ∧ p ≠ b ∧ p ≠ g ∧ H2 p = some (.tup [.ref b, .ref g]) ∧ H2 b = some (.lst xs) ∧ H2 g = some (.lst ys) ∧ Prs H2 xs (payD (kindsOf ps us) (wayOf ps us c)) ∧ Prs H2 ys (giveD (kindsOf ps us) (wayOf ps us c))
def spDealT (K : PySem.W.Frag) : Sp := fun vs H Q _ => ∃ (t u : Addr) (ps us : List (Int × Int)) (c : Int), vs = [.ref t, .ref u, .int c] ∧ Till K H t ps ∧ Till K H u us ∧ Gen2 ps us ∧
  ∀ l v H2, Ex H H2 → H2 l = some (.lst [.str (dueDl ps us c), v]) → DealF ps us c H H2 l v → Q (.ref l) H2
theorem ok_dealT (T : Tx K mg) : FnOk P w K mg base CX0 6 T.a__law_deal T.d__law_deal P__law_deal (spDealT K) := by
  have G_deal := ok_deal (P := P) (w := w) (base := base) T
  refine T.f__law_deal.ok sc__law_deal (fun vs H Q E h => ?_) (fun cdv A outer s H vs Q E hr h => ?_)
  · obtain ⟨t, u, ps, us, c, rfl, _⟩ := h
    rfl
  · obtain ⟨t, u, ps, us, c, rfl, hT, hU, hg, q1⟩ := h
    refine ⟨_, (pss_one (ps_try_many rfl rfl takes0
      (fun W pn xe tk hp => (pss_one (ps_ret (pe_lst (pa_cons pe_str (pa_cons (pe_callS G_deal (hr.mono (by decide)) rfl T.g_deal T.f_deal.kp T.p_deal (fun σ => passAt tk σ) (pa_cons (pv 0) (pa_cons (pv 1) (pa_cons (pv 2) pa_nil)))) pa_nil))))))
      (.cons ⟨by rfl, by decide, .inl T.g_NoKind⟩ (fun a oe cls d pn hz hf => (pss_one (ps_ret (pe_lst (pa_cons pe_str (pa_cons (pe_tup pa_nil) pa_nil))))))
      (.cons ⟨by rfl, by decide, .inl T.g_NoSum⟩ (fun a oe cls d pn hz hf => (pss_one (ps_ret (pe_lst (pa_cons pe_str (pa_cons (pe_tup pa_nil) pa_nil))))))
      (.cons ⟨by rfl, by decide, .inl T.g_NoChange⟩ (fun a oe cls d pn hz hf => (pss_one (ps_ret (pe_lst (pa_cons pe_str (pa_cons (pe_tup pa_nil) pa_nil))))))
      .nil))))), ?_⟩
    have sx : ∀ (z : Str) (H2 : Hp), dueDl ps us c = z → z ≠ "" → Ex H H2 → ∀ e, H2 e = none → ∀ l, (upd H2 e (.tup [])) l = none → Q (.ref l) (upd (upd H2 e (.tup [])) l (.lst [.str z, .ref e])) := by
      intro z H2 hz hne ex e he l hl'
      refine q1 l (.ref e) _ ((ex.tr (Ex.nw he)).tr (Ex.nw hl')) ?_ fun h => absurd (hz.symm.trans h) hne
      rw [upd_same, hz]
    refine ⟨_, rfl, _, rfl, _, rfl, t, u, ps, us, c, rfl, hT, hU, hg, fun hd H2 ex => ?_, fun hd H2 ex => ?_, fun hd H2 ex => ?_, fun hd => ?_⟩
    · refine ⟨true, exm_mk T.b_NoKind T.i_NoKind T.t_NoKind T.u_NoKind_NoKind, (fun _ x hx => ?_), fun z => nomatch z⟩
      exact ⟨Nat.zero_le _, fun e he => ⟨len63 (by show 2 ≤ _; decide), fun l hl => sx _ H2 hd (by decide) ex e he l hl⟩⟩
    · refine ⟨false, exm_mk T.b_NoKind T.i_NoKind T.t_NoKind T.u_NoSum_NoKind, (fun z => nomatch z), fun _ => ?_⟩
      refine ⟨true, exm_mk T.b_NoSum T.i_NoSum T.t_NoSum T.u_NoSum_NoSum, (fun _ x hx => ?_), fun z => nomatch z⟩
      exact ⟨Nat.zero_le _, fun e he => ⟨len63 (by show 2 ≤ _; decide), fun l hl => sx _ H2 hd (by decide) ex e he l hl⟩⟩
    · refine ⟨false, exm_mk T.b_NoKind T.i_NoKind T.t_NoKind T.u_NoChange_NoKind, (fun z => nomatch z), fun _ => ?_⟩
      refine ⟨false, exm_mk T.b_NoSum T.i_NoSum T.t_NoSum T.u_NoChange_NoSum, (fun z => nomatch z), fun _ => ?_⟩
      refine ⟨true, exm_mk T.b_NoChange T.i_NoChange T.t_NoChange T.u_NoChange_NoChange, (fun _ x hx => ?_), fun z => nomatch z⟩
      exact ⟨Nat.zero_le _, fun e he => ⟨len63 (by show 2 ≤ _; decide), fun l hl => sx _ H2 hd (by decide) ex e he l hl⟩⟩
    · intro p b g ys zs H2 ex hp2 hb hg npb npg nbg ep eb eg hys hzs
      refine ⟨len63 (by show 2 ≤ _; decide), fun l hl => ?_⟩
      have n1 := Ex.nw (o := .lst [.str "", .ref p]) hl
      exact q1 l (.ref p) _ (ex.tr n1) (by rw [upd_same, hd]) fun _ => ⟨p, b, g, ys, zs, rfl, none_back ex hl, hp2, hb, hg, (ne_of_none eb hl).symm, (ne_of_none eg hl).symm, nbg, npb, npg, n1 _ _ ep, n1 _ _ eb, n1 _ _ eg, hys.ex n1, hzs.ex n1⟩
theorem ne_sub {K : PySem.W.Frag} {C D : Addr} (h1 : PySem.W.subIn K (.ref C) (.ref D) = some false) (h2 : PySem.W.subIn K (.ref C) (.ref C) = some true) : C ≠ D := by
  intro e
  rw [← e, h2] at h1
  cases h1
def spAnyD (K : PySem.W.Frag) : Sp := fun vs H Q _ => ∃ (t u : Addr) (ps us : List (Int × Int)) (c : Int), vs = [.ref t, .ref u, .int c] ∧ Till K H t ps ∧ Till K H u us ∧ Gen2 ps us ∧ Ret (.bl (!decide (dueDl ps us c = ""))) H Q
theorem ok_anyD (T : Tx K mg) : FnOk P w K mg base CX0 6 T.a__law_any T.d__law_any P__law_any (spAnyD K) := by
  have G_deal := ok_deal (P := P) (w := w) (base := base) T
  refine T.f__law_any.ok sc__law_any (fun vs H Q E h => ?_) (fun cdv A outer s H vs Q E hr h => ?_)
  · obtain ⟨t, u, ps, us, c, rfl, _⟩ := h
    rfl
  · obtain ⟨t, u, ps, us, c, rfl, hT, hU, hg, q⟩ := h
    refine ⟨_, (pss_cons (ps_try_as (i := 3) rfl rfl sc__law_any.nd rfl rfl ⟨by rfl, by decide, .inl T.g_TillError⟩ takes0
      (fun W pn xe tk hp => (pss_one (ps_expr (pe_callS G_deal (hr.mono (by decide)) rfl T.g_deal T.f_deal.kp T.p_deal (fun σ => passAt tk σ) (pa_cons (pv 0) (pa_cons (pv 1) (pa_cons (pv 2) pa_nil)))))))
      (fun a oe cls d pn hz hf => (pss_cons (ps_set (i := 4) sc__law_any.nd rfl (.inl rfl) (pe_lst (pa_cons (pe_callB (call_isE1 hz hf) (by rfl) T.m_isinstance (by decide +kernel) (pa_cons (pv 3) (pa_cons (pe_glob (v := .ref T.c_NoChange) (by rfl) T.g_NoChange rfl) pa_nil))) (pa_cons (pe_callB (call_isE1 hz hf) (by rfl) T.m_isinstance (by decide +kernel) (pa_cons (pv 3) (pa_cons (pe_glob (v := .ref T.c_NoKind) (by rfl) T.g_NoKind rfl) pa_nil))) (pa_cons (pe_callB (call_isE1 hz hf) (by rfl) T.m_isinstance (by decide +kernel) (pa_cons (pv 3) (pa_cons (pe_glob (v := .ref T.c_NoSum) (by rfl) T.g_NoSum rfl) pa_nil))) pa_nil)))))
      (pss_cons (ps_if (pt_val (pe_callB (call_isET hz hf) (by rfl) T.m_isinstance (by decide +kernel) (pa_cons (pv 3) (pa_cons (pe_tup (pa_cons (pe_glob (v := .ref T.c_NoCount) (by rfl) T.g_NoCount rfl) (pa_cons (pe_glob (v := .ref T.c_NoDeed) (by rfl) T.g_NoDeed rfl) (pa_cons (pe_glob (v := .ref T.c_NoTill) (by rfl) T.g_NoTill rfl) (pa_cons (pe_glob (v := .ref T.c_StillHeld) (by rfl) T.g_StillHeld rfl) (pa_cons (pe_glob (v := .ref T.c_TooFew) (by rfl) T.g_TooFew rfl) (pa_cons (pe_glob (v := .ref T.c_TooLittle) (by rfl) T.g_TooLittle rfl) (pa_cons (pe_glob (v := .ref T.c_Twice) (by rfl) T.g_Twice rfl) pa_nil)))))))) pa_nil))))
        (pss_one (ps_ret pe_bl))
        pss_nil)
      (pss_one (ps_ret (pe_and (pe_callB (call_isE1 hz hf) (by rfl) T.m_isinstance (by decide +kernel) (pa_cons (pv 3) (pa_cons (pe_bltn (v := .ty "ValueError") (by rfl) T.m_ValueError (by decide +kernel) rfl) pa_nil))) (pe_one (pe_cmpR op_eq (pe_countS (pv 4) (pa_cons pe_bl pa_nil)) pe_int (nomark _))))))))))
    (pss_one (ps_ret pe_bl))), ?_⟩
    refine ⟨_, rfl, _, rfl, _, rfl, t, u, ps, us, c, rfl, hT, hU, hg, fun hd H2 ex => ?_, fun hd H2 ex => ?_, fun hd H2 ex => ?_, fun hd => ?_⟩
    · refine ⟨true, exm_mk T.b_TillError T.i_TillError T.t_TillError T.u_NoKind_TillError, (fun _ x hx => ?_), fun z => nomatch z⟩
      refine ⟨_, rfl, _, _, _, false, rfl, rfl, T.e_NoKind, rfl, (fun u r => r), kone_own (ne_sub T.u_NoKind_NoChange T.u_NoKind_NoKind) T.i_NoChange T.t_NoChange T.u_NoKind_NoChange, ⟨_, rfl, _, _, _, true, rfl, rfl, T.e_NoKind, rfl, (fun u r => r), kone_self, ⟨_, rfl, _, _, _, false, rfl, rfl, T.e_NoKind, rfl, (fun u r => r), kone_own (ne_sub T.u_NoKind_NoSum T.u_NoKind_NoKind) T.i_NoSum T.t_NoSum T.u_NoKind_NoSum, ?_⟩⟩⟩
      refine ⟨len63 (by show 3 ≤ _; decide), fun l1 hl1 => ?_⟩
      (generalize hh : upd H2 l1 _ = H3; have e3 : Ex H2 H3 := (by rw [← hh]; exact Ex.nw hl1); have c3 := (show H3 l1 = some _ by rw [← hh]; exact upd_same); clear hh)
      have c3' : H3 l1 = some (.lst ([false, true, false].map V.bl)) := c3
      refine ⟨_, rfl, len63 (by show 7 ≤ _; decide), fun p hp => ?_⟩
      (generalize hh : upd H3 p _ = H4; have e4 : Ex H3 H4 := (by rw [← hh]; exact Ex.nw hp); have c4 := (show H4 p = some _ by rw [← hh]; exact upd_same); clear hh)
      refine ⟨_, p, _, _, false, rfl, rfl, T.e_NoKind, rfl, c4, ?_, T.y_NoKind, false, rfl, iteF ?_⟩
      · repeat (first | exact .nil | refine .cons (.own _) ?_)
      refine ⟨_, rfl, _, _, _, true, rfl, rfl, T.e_NoKind, rfl, (fun u r => r), T.z_NoKind, true, rfl, iteT ?_⟩
      refine ⟨_, rfl, .inl ⟨rfl, _, .of (e4 _ _ c3')⟩, l1, [false, true, false], true, rfl, rfl, .of (e4 _ _ c3'), rfl, ?_⟩
      have qq := q _ ((ex.tr e3).tr e4)
      rw [hd] at qq
      exact qq
    · refine ⟨true, exm_mk T.b_TillError T.i_TillError T.t_TillError T.u_NoSum_TillError, (fun _ x hx => ?_), fun z => nomatch z⟩
      refine ⟨_, rfl, _, _, _, false, rfl, rfl, T.e_NoSum, rfl, (fun u r => r), kone_own (ne_sub T.u_NoSum_NoChange T.u_NoSum_NoSum) T.i_NoChange T.t_NoChange T.u_NoSum_NoChange, ⟨_, rfl, _, _, _, false, rfl, rfl, T.e_NoSum, rfl, (fun u r => r), kone_own (ne_sub T.u_NoSum_NoKind T.u_NoSum_NoSum) T.i_NoKind T.t_NoKind T.u_NoSum_NoKind, ⟨_, rfl, _, _, _, true, rfl, rfl, T.e_NoSum, rfl, (fun u r => r), kone_self, ?_⟩⟩⟩
      refine ⟨len63 (by show 3 ≤ _; decide), fun l1 hl1 => ?_⟩
      (generalize hh : upd H2 l1 _ = H3; have e3 : Ex H2 H3 := (by rw [← hh]; exact Ex.nw hl1); have c3 := (show H3 l1 = some _ by rw [← hh]; exact upd_same); clear hh)
      have c3' : H3 l1 = some (.lst ([false, false, true].map V.bl)) := c3
      refine ⟨_, rfl, len63 (by show 7 ≤ _; decide), fun p hp => ?_⟩
      (generalize hh : upd H3 p _ = H4; have e4 : Ex H3 H4 := (by rw [← hh]; exact Ex.nw hp); have c4 := (show H4 p = some _ by rw [← hh]; exact upd_same); clear hh)
      refine ⟨_, p, _, _, false, rfl, rfl, T.e_NoSum, rfl, c4, ?_, T.y_NoSum, false, rfl, iteF ?_⟩
      · repeat (first | exact .nil | refine .cons (.own _) ?_)
      refine ⟨_, rfl, _, _, _, true, rfl, rfl, T.e_NoSum, rfl, (fun u r => r), T.z_NoSum, true, rfl, iteT ?_⟩
      refine ⟨_, rfl, .inl ⟨rfl, _, .of (e4 _ _ c3')⟩, l1, [false, false, true], true, rfl, rfl, .of (e4 _ _ c3'), rfl, ?_⟩
      have qq := q _ ((ex.tr e3).tr e4)
      rw [hd] at qq
      exact qq
    · refine ⟨true, exm_mk T.b_TillError T.i_TillError T.t_TillError T.u_NoChange_TillError, (fun _ x hx => ?_), fun z => nomatch z⟩
      refine ⟨_, rfl, _, _, _, true, rfl, rfl, T.e_NoChange, rfl, (fun u r => r), kone_self, ⟨_, rfl, _, _, _, false, rfl, rfl, T.e_NoChange, rfl, (fun u r => r), kone_own (ne_sub T.u_NoChange_NoKind T.u_NoChange_NoChange) T.i_NoKind T.t_NoKind T.u_NoChange_NoKind, ⟨_, rfl, _, _, _, false, rfl, rfl, T.e_NoChange, rfl, (fun u r => r), kone_own (ne_sub T.u_NoChange_NoSum T.u_NoChange_NoChange) T.i_NoSum T.t_NoSum T.u_NoChange_NoSum, ?_⟩⟩⟩
      refine ⟨len63 (by show 3 ≤ _; decide), fun l1 hl1 => ?_⟩
      (generalize hh : upd H2 l1 _ = H3; have e3 : Ex H2 H3 := (by rw [← hh]; exact Ex.nw hl1); have c3 := (show H3 l1 = some _ by rw [← hh]; exact upd_same); clear hh)
      have c3' : H3 l1 = some (.lst ([true, false, false].map V.bl)) := c3
      refine ⟨_, rfl, len63 (by show 7 ≤ _; decide), fun p hp => ?_⟩
      (generalize hh : upd H3 p _ = H4; have e4 : Ex H3 H4 := (by rw [← hh]; exact Ex.nw hp); have c4 := (show H4 p = some _ by rw [← hh]; exact upd_same); clear hh)
      refine ⟨_, p, _, _, false, rfl, rfl, T.e_NoChange, rfl, c4, ?_, T.y_NoChange, false, rfl, iteF ?_⟩
      · repeat (first | exact .nil | refine .cons (.own _) ?_)
      refine ⟨_, rfl, _, _, _, true, rfl, rfl, T.e_NoChange, rfl, (fun u r => r), T.z_NoChange, true, rfl, iteT ?_⟩
      refine ⟨_, rfl, .inl ⟨rfl, _, .of (e4 _ _ c3')⟩, l1, [true, false, false], true, rfl, rfl, .of (e4 _ _ c3'), rfl, ?_⟩
      have qq := q _ ((ex.tr e3).tr e4)
      rw [hd] at qq
      exact qq
    · rw [hd, decide_eq_true rfl] at q
      intro p b g ys zs H2 ex _ _ _ _ _ _ _ _ _ _ _
      exact q _ ex
/-! ### a price, drawn -/
def spPrice (K : PySem.W.Frag) : Sp := fun vs H Q _ => ∃ (t u : Addr) (ps us : List (Int × Int)) (c : Int), vs = [.ref t, .ref u, .int c] ∧ Till K H t ps ∧ Till K H u us ∧ ps.length ≤ 1000 ∧ us.length ≤ 1000 ∧ (∀ p ∈ us, 0 ≤ p.1 ∧ p.1 ≤ 100000 ∧ 0 ≤ p.2) ∧ ∀ c' : Int, Q (.int c') H
theorem ok_price (T : Tx K mg) : FnOk P w K mg base CX0 2 T.a__law_price T.d__law_price P__law_price (spPrice K) := by
  have G__law_mixed := ok_mixed (P := P) (w := w) (base := base) T
  refine T.f__law_price.ok sc__law_price (fun vs H Q E h => ?_) (fun cdv A outer s H vs Q E hr h => ?_)
  · obtain ⟨t, u, ps, us, c, rfl, _⟩ := h
    rfl
  · obtain ⟨t, u, ps, us, c, rfl, ⟨xs, hS, hp⟩, ⟨ys, hSu, hu⟩, hl1, hl2, hv, q⟩ := h
    refine ⟨_, (pss_cons (ps_set (i := 3) sc__law_price.nd rfl (.inl rfl) pe_int)
    (pss_cons (ps_for PassesOwn.never rfl (pi_range1 (by rfl) T.m_range (pa_cons (pe_callB call_len_seq (by rfl) T.m_len (by decide +kernel) (pa_cons (pv 1) pa_nil)) pa_nil)) (pg_name (i := 4) sc__law_price.nd rfl (.inl rfl))
      (pss_one (ps_set (i := 3) sc__law_price.nd rfl (.inl rfl) (pe_op op_add (pv 3) (pe_op op_mul (pe_ix ix_tup (pe_ix ix_list (pv 1) (pv 4) (fun _ _ => rfl)) pe_int (fun _ _ => rfl)) (pe_op op_mod (pe_call G__law_mixed (hr.mono (by decide)) (by rfl) T.g__law_mixed T.f__law_mixed.kp T.p__law_mixed .nil pass0 (pa_cons (pv 2) (pa_cons (pv 4) pa_nil))) (pe_op op_add (pe_ix ix_tup (pe_ix ix_list (pv 1) (pv 4) (fun _ _ => rfl)) pe_int (fun _ _ => rfl)) pe_int)))))))
    (pss_cons (ps_for PassesOwn.never rfl (pi_range1 (by rfl) T.m_range (pa_cons (pe_callB call_len_seq (by rfl) T.m_len (by decide +kernel) (pa_cons (pv 0) pa_nil)) pa_nil)) (pg_name (i := 4) sc__law_price.nd rfl (.inl rfl))
      (pss_one (ps_if (PW.pt (pw_and (pt_cmpR op_ge (pv 3) (pe_ix ix_tup (pe_ix ix_list (pv 0) (pv 4) (fun _ _ => rfl)) pe_int (fun _ _ => rfl)) (nomark _)) (pw_and (pt_cmpR op_gt (pe_ix ix_tup (pe_ix ix_list (pv 0) (pv 4) (fun _ _ => rfl)) pe_int (fun _ _ => rfl)) pe_int (nomark _)) (pw_and1 (pt_cmpR op_eq (pe_op op_mod (pe_call G__law_mixed (hr.mono (by decide)) (by rfl) T.g__law_mixed T.f__law_mixed.kp T.p__law_mixed .nil pass0 (pa_cons (pv 2) (pa_cons (pe_op op_add pe_int (pv 4)) pa_nil))) pe_int) pe_int (nomark _))))))
        (pss_one (ps_set (i := 3) sc__law_price.nd rfl (.inl rfl) (pe_op op_sub (pv 3) (pe_ix ix_tup (pe_ix ix_list (pv 0) (pv 4) (fun _ _ => rfl)) pe_int (fun _ _ => rfl)))))
        pss_nil)))
    (pss_one (ps_ret (pe_callB (call_min2 rfl) (by rfl) T.m_min (by decide +kernel) (pa_cons pe_int (pa_cons (pv 3) pa_nil)))))))), ?_⟩
    have hpl := hp.len
    have hul := hu.len
    refine ⟨_, rfl, u, ys, rfl, .inl hSu, _, rfl, by omega, by omega, ?_⟩
    refine for_range (fun i σ H' => ∃ (z : Int) (y4 : Option V), σ = [some (.ref t), some (.ref u), some (.int c), some (.int z), y4] ∧ H' = H) ⟨_, _, rfl, rfl⟩ ?_ ?_
    · rintro i σ H' hi ⟨z, y4, rfl, rfl⟩
      have hi' : i < us.length := by omega
      obtain ⟨t2, hx0, h3⟩ := Prs.getL hu (List.getElem?_eq_getElem hi')
      have hpv := hv _ (List.getElem_mem hi')
      generalize us[i] = p at h3 hpv
      have it : atI ys (0 + (i : Int)) = some (.ref t2) := at_of (Int.zero_add _) hx0
      refine ⟨_, rfl, _, rfl, _, rfl, u, ys, _, _, rfl, rfl, hSu, it, t2, _, 0, .int p.1, rfl, rfl, .of h3, rfl, _, rfl, _, rfl, _, _, rfl, ⟨by omega, by omega⟩, _, rfl, _, rfl, u, ys, _, _, rfl, rfl, hSu, it, t2, _, 1, .int p.2, rfl, rfl, .of h3, rfl, _, _, rfl, rfl, _, _, rfl, rfl, by omega, _, _, rfl, rfl, .inl ⟨by omega, by omega⟩, _, _, rfl, rfl, ?_⟩
      exact ⟨_, _, rfl, rfl⟩
    · rintro σ H' ⟨z, y4, rfl, rfl⟩
      refine ⟨_, rfl, t, xs, rfl, .inl hS, _, rfl, by omega, by omega, ?_⟩
      refine for_range (fun i σ H2 => ∃ (z : Int) (y4 : Option V), σ = [some (.ref t), some (.ref u), some (.int c), some (.int z), y4] ∧ H2 = H') ⟨_, _, rfl, rfl⟩ ?_ ?_
      · rintro i σ H2 hi ⟨z, y4, rfl, rfl⟩
        have hi' : i < ps.length := by omega
        obtain ⟨t2, hx0, h3⟩ := Prs.getL hp (List.getElem?_eq_getElem hi')
        generalize ps[i] = p at h3
        have it : atI xs (0 + (i : Int)) = some (.ref t2) := at_of (Int.zero_add _) hx0
        refine ⟨_, rfl, _, rfl, _, rfl, t, xs, _, _, rfl, rfl, hS, it, t2, _, 0, .int p.1, rfl, rfl, .of h3, rfl, _, _, rfl, rfl, _, rfl, iteD (fun _ => ?_) (fun _ => ⟨_, _, rfl, rfl⟩)⟩
        refine ⟨_, rfl, _, rfl, t, xs, _, _, rfl, rfl, hS, it, t2, _, 1, .int p.2, rfl, rfl, .of h3, rfl, _, _, rfl, rfl, _, rfl, iteD (fun _ => ?_) (fun _ => ⟨_, _, rfl, rfl⟩)⟩
        refine ⟨_, rfl, _, rfl, _, _, rfl, rfl, _, _, rfl, ⟨by omega, by omega⟩, _, _, rfl, rfl, by show (0 : Int) < 3; decide, rfl, _, rfl, iteVI (fun _ => ?_) (fun _ => ⟨_, _, rfl, rfl⟩)⟩
        refine ⟨_, rfl, _, rfl, _, rfl, t, xs, _, _, rfl, rfl, hS, it, t2, _, 0, .int p.1, rfl, rfl, .of h3, rfl, _, _, rfl, rfl, ?_⟩
        exact ⟨_, _, rfl, rfl⟩
      · rintro σ H2 ⟨z, y4, rfl, rfl⟩
        exact ⟨_, rfl, _, _, rfl, q _⟩
--@split
/-! ### what a deal that is told is -/
theorem mem_payD {ks : List Kd} {G : List Int} {q : Int × Int} (h : q ∈ payD ks G) : ∃ (i : Nat) (k : Kd) (g : Int), ks[i]? = some k ∧ G[i]? = some g ∧ 0 < g ∧ q = (k.1, g) := by
  obtain ⟨x, hx, rfl⟩ := List.mem_map.mp h
  obtain ⟨hz, hg⟩ := List.mem_filter.mp hx
  obtain ⟨i, hi⟩ := List.mem_iff_getElem?.mp hz
  obtain ⟨a, b⟩ := List.getElem?_zip_eq_some.mp hi
  exact ⟨i, x.1, x.2, a, b, by simpa using hg, rfl⟩
theorem mem_giveD {ks : List Kd} {G : List Int} {q : Int × Int} (h : q ∈ giveD ks G) : ∃ (i : Nat) (k : Kd) (g : Int), ks[i]? = some k ∧ G[i]? = some g ∧ g < 0 ∧ q = (k.1, -g) := by
  obtain ⟨x, hx, rfl⟩ := List.mem_map.mp h
  obtain ⟨hz, hg⟩ := List.mem_filter.mp hx
  obtain ⟨i, hi⟩ := List.mem_iff_getElem?.mp hz
  obtain ⟨a, b⟩ := List.getElem?_zip_eq_some.mp hi
  exact ⟨i, x.1, x.2, a, b, by simpa using hg, rfl⟩
theorem zip_rise {ks : List Kd} {G : List Int} (hl : ks.length = G.length) (h : (ks.map fun k => k.1).Pairwise (· < ·)) : (ks.zip G).Pairwise fun x y => x.1.1 < y.1.1 := by
  have e : (ks.zip G).map Prod.fst = ks := List.map_fst_zip (by omega)
  rw [← e, List.map_map, List.pairwise_map] at h
  exact h
structure Facts (ps us : List (Int × Int)) (c m : Int) (pa ga : List (Int × Int)) : Prop where
  w : worthP pa - worthP ga = c
  n : manyP pa + manyP ga = m
  rp : Rising pa
  rg : Rising ga
  p : ∀ q ∈ pa, 1 ≤ q.1 ∧ q.1 ≤ 5000 ∧ 1 ≤ q.2 ∧ q.2 ≤ ownOf us q.1
  g : ∀ q ∈ ga, 1 ≤ q.1 ∧ q.1 ≤ 5000 ∧ 1 ≤ q.2 ∧ q.2 ≤ ownOf ps q.1
  d : ∀ q ∈ pa, ownOf ga q.1 = 0
  b : worthP pa ≤ 1500
  z : 0 ≤ worthP pa ∧ 0 ≤ worthP ga
  l : pa.length ≤ 12 ∧ ga.length ≤ 12
theorem way_facts {ps us : List (Int × Int)} {c m : Int} (hg : Gen2 ps us) (hd : dueS ps us = "") (hm : cellD ps us c = some m) : Facts ps us c m (payD (kindsOf ps us) (wayOf ps us c)) (giveD (kindsOf ps us) (wayOf ps us c)) := by
  have hlk : lacks ps us = false := by
    unfold dueS at hd
    cases z : lacks ps us with
    | false => rfl
    | true =>
      rw [if_pos z] at hd
      cases hd
  have hw15 : worthP ps + worthP us ≤ 1500 := by
    unfold dueS at hd
    rw [if_neg (by rw [hlk]; decide)] at hd
    split at hd
    · cases hd
    · omega
  obtain ⟨_, best_of⟩ := way_best (c := c) hg hlk
  obtain ⟨g1, g2, g3, _⟩ := best_of m hm
  obtain ⟨h1, h2, h3⟩ := kinds_fit hg hlk
  have hkl : (kindsOf ps us).length = ps.length := kindsOf_len ..
  have hgl := waysD_len (by omega) g1
  have hbd := waysD_bound (by omega) g1
  have kf : (kindsOf ps us).map (fun k => k.1) = ps.map (fun p => p.1) := by
    unfold kindsOf
    rw [List.map_map]
    rfl
  have hris : ((kindsOf ps us).map fun k => k.1).Pairwise (· < ·) := by
    rw [kf, List.pairwise_map]
    exact hg.rp
  have nd : ((kindsOf ps us).map fun k => k.1).Nodup := hris.imp fun h => by omega
  have hgw := gen_worth hg.vp
  have huw := gen_worth hg.vu
  generalize wayOf ps us c = G at *
  have lk : (kindsOf ps us).length = G.length := by omega
  obtain ⟨b1, b2, b3⟩ := wz_bounds _ _ h1 lk hbd
  have hsub := worthD_sub lk
  rw [g2] at hsub
  have hz := zip_rise lk hris
  have at_kind : ∀ (i : Nat) (k : Kd), (kindsOf ps us)[i]? = some k → ∃ p, ps[i]? = some p ∧ k = (p.1, p.2, ownOf us p.1) := fun i k hk => by
    have hi := (List.getElem?_eq_some_iff.mp hk).1
    have hp := List.getElem?_eq_getElem (show i < ps.length by omega)
    rw [kindsOf_at hp] at hk
    exact ⟨_, hp, (Option.some.inj hk).symm⟩
  have hp15 : worthP us ≤ 1500 ∧ 0 ≤ worthP ps ∧ 0 ≤ worthP us := by omega
  refine ⟨by rw [worth_pay, worth_give]; omega, by rw [many_pay lk, many_give lk, ← fewD_sum]; exact g3, ?_, ?_, fun q hq => ?_, fun q hq => ?_, fun q hq => ?_, by rw [worth_pay]; omega, ⟨?_, by rw [worth_give]; exact b3⟩, ⟨?_, ?_⟩⟩
  · unfold Rising payD
    rw [List.pairwise_map]
    exact hz.filter _
  · unfold Rising giveD
    rw [List.pairwise_map]
    exact hz.filter _
  · obtain ⟨i, k, g, e1, e2, e3, rfl⟩ := mem_payD hq
    obtain ⟨p, hp, rfl⟩ := at_kind i k e1
    have hv := hg.vp p (List.mem_of_getElem? hp)
    have := (hbd i _ g e1 e2).2
    have h2 : g ≤ ((ownOf us p.1).toNat : Int) := this
    exact ⟨hv.1, hv.2.1, by show 1 ≤ g; omega, by show g ≤ ownOf us p.1; omega⟩
  · obtain ⟨i, k, g, e1, e2, e3, rfl⟩ := mem_giveD hq
    obtain ⟨p, hp, rfl⟩ := at_kind i k e1
    have hv := hg.vp p (List.mem_of_getElem? hp)
    have := (hbd i _ g e1 e2).1
    have h2 : -(p.2.toNat : Int) ≤ g := this
    have h5 := countIn_nd (rising_nd hg.rp) (List.mem_of_getElem? hp)
    refine ⟨hv.1, hv.2.1, by show 1 ≤ -g; omega, ?_⟩
    show -g ≤ ownOf ps p.1
    unfold ownOf
    rw [h5]
    show -g ≤ p.2
    omega
  · obtain ⟨i, k, g, e1, e2, e3, rfl⟩ := mem_payD hq
    unfold ownOf
    rw [countIn_none fun r hr z => ?_]
    · rfl
    obtain ⟨i', k', g', f1, f2, f3, rfl⟩ := mem_giveD hr
    have hii : i' = i := nodup_at nd (x := k.1) (by rw [List.getElem?_map, f1]; exact congrArg some z) (by rw [List.getElem?_map, e1]; rfl)
    subst hii
    rw [e2] at f2
    have := Option.some.inj f2
    omega
  · refine worthP_nn fun q hq => ?_
    obtain ⟨i, k, g, e1, _, e3, rfl⟩ := mem_payD hq
    have := h1 k (List.mem_of_getElem? e1)
    exact ⟨by show 0 ≤ k.1; omega, by show 0 ≤ g; omega⟩
  · unfold payD
    rw [List.length_map]
    have := List.length_filter_le (fun x : Kd × Int => decide (0 < x.2)) ((kindsOf ps us).zip G)
    rw [List.length_zip] at this
    have := hg.lp
    omega
  · unfold giveD
    rw [List.length_map]
    have := List.length_filter_le (fun x : Kd × Int => decide (x.2 < 0)) ((kindsOf ps us).zip G)
    rw [List.length_zip] at this
    have := hg.lp
    omega
theorem many_le_worth : ∀ {l : List (Int × Int)}, (∀ q ∈ l, 1 ≤ q.1 ∧ 0 ≤ q.2) → 0 ≤ manyP l ∧ manyP l ≤ worthP l
  | [], _ => ⟨Int.le_refl _, Int.le_refl _⟩
  | q :: l, h => by
    have h1 := many_le_worth fun r hr => h r (List.mem_cons_of_mem _ hr)
    have h2 := h q List.mem_cons_self
    have h3 := le_mul_of h2.1 h2.2
    rw [show q :: l = [q] ++ l from rfl, manyP_app, worthP_app]
    show 0 ≤ q.2 + 0 + manyP l ∧ q.2 + 0 + manyP l ≤ q.1 * q.2 + 0 + worthP l
    omega
/-! ### pays back -/
def spBack (K : PySem.W.Frag) : Sp := fun vs H Q _ => ∃ (t p a b : Addr) (xs ya yb : List V) (ps us : List (Int × Int)) (c m : Int), vs = [.ref t, .ref p, .int c] ∧ H t = some (.lst xs) ∧ Prs H xs ps ∧ Tl ps ∧ Gen2 ps us ∧ dueS ps us = "" ∧ (0 ≤ c ∧ c ≤ 1000) ∧ cellD ps us c = some m ∧
  H p = some (.tup [.ref a, .ref b]) ∧ H a = some (.lst ya) ∧ H b = some (.lst yb) ∧ Prs H ya (payD (kindsOf ps us) (wayOf ps us c)) ∧ Prs H yb (giveD (kindsOf ps us) (wayOf ps us c)) ∧ Ret (.bl true) H Q
theorem ok_back (T : Tx K mg) : FnOk P w K mg base CX0 6 T.a__law_pays_back T.d__law_pays_back P__law_pays_back (spBack K) := by
  have G__law_pieces := ok_pieces11 (P := P) (w := w) (base := base) T
  have G_paid := ok_paid (P := P) (w := w) (base := base) T
  refine T.f__law_pays_back.ok sc__law_pays_back (fun vs H Q E h => ?_) (fun cdv A outer s H vs Q E hr h => ?_)
  · obtain ⟨t, p, a, b, xs, ya, yb, ps, us, c, m, rfl, _⟩ := h
    rfl
  · obtain ⟨t, p, a, b, xs, ya, yb, ps, us, c, m, rfl, ht, hp, hT, hg, hd, hc, hm, ep, ea, eb, hya, hyb, q⟩ := h
    refine ⟨_, (pss_cons (ps_set (i := 3) sc__law_pays_back.nd rfl (.inl rfl) (pe_lst pa_nil))
    (pss_cons (ps_for PassesOwn.never rfl (pi_list (pe_ix ix_tup (pv 1) pe_int (fun _ _ => rfl))) (pg_name (i := 4) sc__law_pays_back.nd rfl (.inl rfl))
      (pss_one (ps_set (i := 3) sc__law_pays_back.nd rfl (.inl rfl) (pe_op op_cat (pv 3) (pe_op op_rep (pe_lst (pa_cons (pe_ix ix_tup (pv 4) pe_int (fun _ _ => rfl)) pa_nil)) (pe_ix ix_tup (pv 4) pe_int (fun _ _ => rfl)))))))
    (pss_cons (ps_if (pt_cmpR op_gt (pe_callB call_len_seq (by rfl) T.m_len (by decide +kernel) (pa_cons (pv 3) pa_nil)) pe_int (nomark _))
      (pss_one (ps_ret pe_bl))
      pss_nil)
    (pss_one (ps_ret (pe_cmpR op_eq (pe_call G__law_pieces (hr.mono (by decide)) (by rfl) T.g__law_pieces T.f__law_pieces.kp T.p__law_pieces .nil pass0 (pa_cons (pe_ix ix_tup (pe_call G_paid (hr.mono (by decide)) (by rfl) T.g_paid T.f_paid.kp T.p_paid .nil passL (pa_cons (pv 0) (pa_cons (pv 2) (pa_cons (pv 3) pa_nil)))) pe_int (fun _ _ => rfl)) pa_nil)) (pe_call G__law_pieces (hr.mono (by decide)) (by rfl) T.g__law_pieces T.f__law_pieces.kp T.p__law_pieces .nil pass0 (pa_cons (pe_ix ix_tup (pv 1) pe_int (fun _ _ => rfl)) pa_nil)) (nomark _))))))), ?_⟩
    have F := way_facts hg hd hm
    have PB := pays_back hg hc hd hm
    generalize payD (kindsOf ps us) (wayOf ps us c) = pa at *
    generalize giveD (kindsOf ps us) (wayOf ps us c) = ga at *
    have hpnn : ∀ (k : Nat), ∀ q ∈ pa.take k, 1 ≤ q.1 ∧ 0 ≤ q.2 := fun k q hq => by
      have := F.p q (List.mem_of_mem_take hq)
      omega
    have hpal := hya.len
    have vlen : ∀ k, (valsOf (pa.take k)).length ≤ 1500 := fun k => by
      have h1 := valsOf_len fun q hq => (hpnn k q hq).2
      have h2 := many_le_worth (hpnn k)
      have h3 : worthP (pa.take k) ≤ worthP pa := by
        have e : worthP pa = worthP (pa.take k) + worthP (pa.drop k) := by rw [← worthP_app, List.take_append_drop]
        have := worthP_nn (us := pa.drop k) fun q hq => by
          have := F.p q (List.mem_of_mem_drop hq)
          omega
        omega
      have := F.b
      omega
    refine ⟨Nat.zero_le _, fun f hf => ?_⟩
    (generalize hh : upd H f _ = H1; have e1 : Ex H H1 := (by rw [← hh]; exact Ex.nw hf); have cf := (show H1 f = some _ by rw [← hh]; exact upd_same); clear hh)
    refine ⟨_, rfl, p, _, _, .ref a, rfl, rfl, .of (e1 _ _ ep), rfl, a, rfl, ⟨ya, .of (e1 _ _ ea)⟩, for_list (xs := ya) (fun i σ H' => ∃ (f : Addr) (y4 : Option V), σ = [some (.ref t), some (.ref p), some (.int c), some (.ref f), y4] ∧ Ex H1 H' ∧ H' f = some (.lst ((valsOf (pa.take i)).map V.int))) ⟨f, _, rfl, Ex.rfl', cf⟩ (fun i σ H' _ h => by
      obtain ⟨_, _, _, e, _⟩ := h
      exact .of (e _ _ (e1 _ _ ea))) ?_ ?_⟩
    · rintro i x σ H2 hx ⟨f2, y4, rfl, ex, ef⟩
      obtain ⟨r, t2, h1, rfl, h3⟩ := Prs.get hya hx
      have h3' := ex _ _ (e1 _ _ h3)
      have hr := F.p r (List.mem_of_getElem? h1)
      have hv1 := vlen i
      have hv2 := vlen (i + 1)
      rw [take_snoc h1, valsOf_app, valsOf_one, List.length_append, List.length_replicate] at hv2
      refine ⟨_, rfl, _, rfl, t2, _, 0, .int r.1, rfl, rfl, .of h3', rfl, len63 (by show 1 ≤ _; decide), fun l1 hl1 => ?_⟩
      (generalize hh : upd H2 l1 _ = H3; have e3 : Ex H2 H3 := (by rw [← hh]; exact Ex.nw hl1); have c3 := (show H3 l1 = some _ by rw [← hh]; exact upd_same); clear hh)
      refine ⟨_, rfl, t2, _, 1, .int r.2, rfl, rfl, .of (e3 _ _ h3'), rfl, l1, _, _, rfl, rfl, c3, by omega, by omega, len63 (by show 1 * _ ≤ _; omega), fun l2 hl2 => ?_⟩
      (generalize hh : upd H3 l2 _ = H4; have e4 : Ex H3 H4 := (by rw [← hh]; exact Ex.nw hl2); have c4 := (show H4 l2 = some _ by rw [← hh]; exact upd_same); clear hh)
      refine ⟨f2, l2, _, _, rfl, rfl, e4 _ _ (e3 _ _ ef), c4, len63 (by rw [List.length_map]; simp; omega), fun l3 hl3 => ?_⟩
      refine ⟨l3, _, rfl, ((ex.tr e3).tr e4).tr (Ex.nw hl3), ?_⟩
      rw [upd_same, take_snoc h1, valsOf_app, valsOf_one, List.map_append, List.map_replicate]
      have e : ∀ n : Nat, (List.replicate n [V.int r.1]).flatten = List.replicate n (V.int r.1) := fun n => by
        induction n with
        | zero => rfl
        | succ n ih => rw [List.replicate_succ, List.replicate_succ, List.flatten_cons, ih]; rfl
      rw [e]
    · rintro σ H2 ⟨f2, y4, rfl, ex, ef⟩
      rw [show pa.take ya.length = pa from List.take_of_length_le (by omega)] at ef
      have ex2 := e1.tr ex
      refine ⟨_, rfl, f2, _, rfl, .inl (.of ef), _, _, rfl, rfl, _, rfl, iteD (fun _ => q _ ex2) (fun e => ?_)⟩
      have e' : ¬ (((valsOf pa).map V.int).length : Int) > 60 := e
      rw [List.length_map] at e'
      obtain ⟨hd0, hcp⟩ := PB (by omega)
      have hcn : cellP ps c (valsOf pa) ≠ none := by rw [hcp]; exact fun y => nomatch y
      refine ⟨_, rfl, _, rfl, _, rfl, t, f2, xs, ps, c, valsOf pa, rfl, ex2 _ _ ht, hp.ex ex2, hT, .of ef, fun h => ?_, fun h => ?_, fun h => ?_, fun h => ?_, fun _ h => absurd h hcn, fun _ _ => ?_⟩
      · rw [hd0] at h; cases h
      · rw [hd0] at h; cases h
      · rw [hd0] at h; cases h
      · rw [hd0] at h; cases h
      obtain ⟨_, w2, _, _, w5⟩ := gsP_ok hT hd0 hcp
      intro pp bb gg xs9 ys9 H3 e3 _ _ _ _ _ _ epp ebb egg hx3 hy3
      refine ⟨pp, _, _, .ref gg, rfl, rfl, .of epp, rfl, gg, gsP ps c (valsOf pa), rfl, ⟨ys9, .of egg, hy3⟩, by omega, fun H4 e4 => ?_⟩
      have e24 := e3.tr e4
      refine ⟨_, rfl, p, _, _, .ref b, rfl, rfl, .of (e24 _ _ (ex2 _ _ ep)), rfl, b, ga, rfl, ⟨yb, .of (e24 _ _ (ex2 _ _ eb)), hyb.ex (ex2.tr e24)⟩, by have := F.l; omega, fun H5 e5 => ?_⟩
      rw [w2]
      refine ⟨rfl, ?_⟩
      rw [decide_eq_true rfl]
      exact q _ (ex2.tr (e24.tr e5))
/-! ### the deal, walked by the law -/
def spMakes (K : PySem.W.Frag) : Sp := fun vs H Q _ => ∃ (a : Addr) (r : List Cell) (z f : Int), vs = [.ref a, .int z, .int f] ∧ Row K H a r ∧ Q (.bl (decide (cellAt r z = some f))) H
theorem ok_makes (T : Tx K mg) : FnOk P w K mg base CX0 1 T.a__law_makes T.d__law_makes P__law_makes (spMakes K) := by
  refine T.f__law_makes.ok sc__law_makes (fun vs H Q E h => ?_) (fun cdv A outer s H vs Q E hr h => ?_)
  · obtain ⟨a, r, z, f, rfl, _⟩ := h
    rfl
  · obtain ⟨a, r, z, f, rfl, hS, q⟩ := h
    refine ⟨_, (pss_one (ps_ret (pe_and (pe_cmpR op_le pe_int (pv 1) (nomark _)) (pe_and (pe_cmpR op_lt (pv 1) (pe_callB call_len_seq (by rfl) T.m_len (by decide +kernel) (pa_cons (pv 0) pa_nil)) (nomark _)) (pe_one (pe_cmpR op_eq (pe_ix ix_list (pv 0) (pv 1) (fun _ _ => rfl)) (pv 2) (nomark _))))))), ?_⟩
    have hS' : SqL K H a (r.map vO) := hS
    have hrl : ((r.map vO).length : Int) = r.length := by rw [List.length_map]
    refine ⟨_, rfl, _, _, rfl, rfl, decide ((0 : Int) ≤ z), rfl, iteD (fun z0 => ?_) (fun z0 => ?_)⟩
    · have z0' : 0 ≤ z := z0
      refine ⟨_, rfl, _, rfl, a, _, rfl, .inl hS', _, _, rfl, rfl, decide (z < ((r.map vO).length : Int)), rfl, iteD (fun z1 => ?_) (fun z1 => ?_)⟩
      · have z1' : z < ((r.map vO).length : Int) := z1
        have hcz : cellAt r z = rAt r z.toNat := if_pos ⟨z0', by omega⟩
        have a1 : atI (r.map vO) z = some (vO (cellAt r z)) := at_of (j := z.toNat) (by omega) (by rw [hcz]; exact vO_at (by omega))
        refine ⟨_, rfl, _, rfl, a, _, _, _, rfl, rfl, hS', a1, _, rfl, vO_scal _ _, ?_⟩
        have e : decide (vO (cellAt r z) = V.int f) = decide (cellAt r z = some f) := by
          by_cases h : cellAt r z = some f
          · rw [decide_eq_true h, decide_eq_true (vO_int.mpr h)]
          · rw [decide_eq_false h, decide_eq_false fun y => h (vO_int.mp y)]
        rw [e]
        exact q
      · have z1' : ¬ z < ((r.map vO).length : Int) := z1
        have e : decide (cellAt r z = some f) = false := by
          rw [decide_eq_false]
          unfold cellAt
          rw [if_neg fun y => z1' (by omega)]
          exact fun y => nomatch y
        rw [e] at q
        exact q
    · have z0' : ¬ 0 ≤ z := z0
      have e : decide (cellAt r z = some f) = false := by
        rw [decide_eq_false]
        unfold cellAt
        rw [if_neg fun y => z0' y.1]
        exact fun y => nomatch y
      rw [e] at q
      exact q
--@split
/-! ### the deal told by the scales, walked -/
def spExactD (K : PySem.W.Frag) : Sp := fun vs H Q _ => ∃ (R t u : Addr) (as : List Addr) (ps us : List (Int × Int)) (low high : Nat) (d m : Int), vs = [.ref R, .ref t, .ref u, .int d] ∧ H R = some (.lst (as.map V.ref)) ∧ RowsAt H as (rowsL (row0L low high) (kindsOf ps us)) ∧ Till K H t ps ∧ Till K H u us ∧ Gen2 ps us ∧ cellAt (lastL (row0L low high) (kindsOf ps us)) d = some m ∧
  ∀ l a b xs ys H2, Ex H H2 → H2 l = some (.lst [.ref a, .ref b]) → H2 a = some (.lst xs) → H2 b = some (.lst ys) → Prs H2 xs (payD (kindsOf ps us) (wayL (row0L low high) (kindsOf ps us) ps.length d)) → Prs H2 ys (giveD (kindsOf ps us) (wayL (row0L low high) (kindsOf ps us) ps.length d)) → Q (.ref l) H2
theorem ok_exactD (T : Tx K mg) : FnOk P w K mg base CX0 2 T.a__law_exact T.d__law_exact P__law_exact (spExactD K) := by
  have G__law_own := ok_own (P := P) (w := w) (base := base) T
  have G__law_makes := ok_makes (P := P) (w := w) (base := base) T
  refine T.f__law_exact.ok sc__law_exact (fun vs H Q E h => ?_) (fun cdv A outer s H vs Q E hr h => ?_)
  · obtain ⟨R, t, u, as, ps, us, low, high, d, m, rfl, _⟩ := h
    rfl
  · obtain ⟨R, t, u, as, ps, us, low, high, d, m, rfl, eR, hrows, ⟨xs, hS, hp⟩, hU, hg, hm, q⟩ := h
    refine ⟨_, (pss_cons (ps_set (i := 4) sc__law_exact.nd rfl (.inl rfl) (pe_lst pa_nil))
    (pss_cons (ps_set (i := 5) sc__law_exact.nd rfl (.inl rfl) (pe_lst pa_nil))
    (pss_cons (ps_set (i := 6) sc__law_exact.nd rfl (.inl rfl) (pv 3))
    (pss_cons (ps_for PassesOwn.never rfl (pi_range3 (by rfl) T.m_range (pa_cons (pe_callB call_len_seq (by rfl) T.m_len (by decide +kernel) (pa_cons (pv 1) pa_nil)) (pa_cons pe_int (pa_cons (pe_un un_neg pe_int) pa_nil)))) (pg_name (i := 7) sc__law_exact.nd rfl (.inl rfl))
      (pss_cons (ps_set (i := 8) sc__law_exact.nd rfl (.inl rfl) (pe_ix ix_tup (pe_ix ix_list (pv 1) (pe_op op_sub (pv 7) pe_int) (fun _ _ => rfl)) pe_int (fun _ _ => rfl)))
      (pss_cons (ps_set (i := 9) sc__law_exact.nd rfl (.inl rfl) (pe_call G__law_own (hr.mono (by decide)) (by rfl) T.g__law_own T.f__law_own.kp T.p__law_own .nil pass0 (pa_cons (pv 2) (pa_cons (pv 8) pa_nil))))
      (pss_cons (ps_while PassesOwn.never (pt_not (pt_val (pe_call G__law_makes (hr.mono (by decide)) (by rfl) T.g__law_makes T.f__law_makes.kp T.p__law_makes .nil pass0 (pa_cons (pe_ix ix_list (pv 0) (pe_op op_sub (pv 7) pe_int) (fun _ _ => rfl)) (pa_cons (pe_op op_sub (pv 6) (pe_op op_mul (pv 9) (pv 8))) (pa_cons (pe_op op_sub (pe_ix ix_list (pe_ix ix_list (pv 0) (pv 7) (fun _ _ => rfl)) (pv 6) (fun _ _ => rfl)) (pe_callB call_abs (by rfl) T.m_abs (by decide +kernel) (pa_cons (pv 9) pa_nil))) pa_nil))))))
        (pss_one (ps_set (i := 9) sc__law_exact.nd rfl (.inl rfl) (pe_op op_sub (pv 9) pe_int))))
      (Evl.pss_cut (ps_if (pt_cmpR op_gt (pv 9) pe_int (nomark _))
        (pss_one (ps_expr (pe_bm PySem.F.plainAttrs_list PySem.F.slot_list_append PySem.F.type_list_append mt_append (pv 4) (pa_cons (pe_tup (pa_cons (pv 8) (pa_cons (pv 9) pa_nil))) pa_nil))))
        pss_nil)
      (Evl.pss_cut (ps_if (pt_cmpR op_lt (pv 9) pe_int (nomark _))
        (pss_one (ps_expr (pe_bm PySem.F.plainAttrs_list PySem.F.slot_list_append PySem.F.type_list_append mt_append (pv 5) (pa_cons (pe_tup (pa_cons (pv 8) (pa_cons (pe_op op_sub pe_int (pv 9)) pa_nil))) pa_nil))))
        pss_nil)
      (pss_one (ps_set (i := 6) sc__law_exact.nd rfl (.inl rfl) (pe_op op_sub (pv 6) (pe_op op_mul (pv 9) (pv 8)))))))))))
    (pss_cons (ps_expr (pe_bm0 PySem.F.plainAttrs_list PySem.F.slot_list_reverse PySem.F.type_list_reverse mt_reverse (pv 4)))
    (pss_cons (ps_expr (pe_bm0 PySem.F.plainAttrs_list PySem.F.slot_list_reverse PySem.F.type_list_reverse mt_reverse (pv 5)))
    (pss_one (ps_ret (pe_lst (pa_cons (pv 4) (pa_cons (pv 5) pa_nil))))))))))), ?_⟩
    have hpl := hp.len
    have hkl : (kindsOf ps us).length = ps.length := kindsOf_len ..
    have hl12 := hg.lp
    have hll : ∀ j, (lastL (row0L low high) ((kindsOf ps us).take j)).length = low + high + 1 := fun j => by rw [lastL_len, row0L_len]
    refine ⟨Nat.zero_le _, fun pa hpa => ?_⟩
    (generalize hh : upd H pa _ = H1; have e1 : Ex H H1 := (by rw [← hh]; exact Ex.nw hpa); have cp := (show H1 pa = some _ by rw [← hh]; exact upd_same); clear hh)
    refine ⟨Nat.zero_le _, fun ga hga => ?_⟩
    have hga0 : H ga = none := none_back e1 hga
    have npg : pa ≠ ga := ne_of_none cp hga
    have e2 := e1.tr (Ex.nw (o := .lst []) hga)
    refine ⟨_, rfl, ?_⟩
    refine ⟨_, rfl, t, xs, rfl, .inl (e2.seq hS), ?_⟩
    refine ⟨_, rfl, _, _, _, xs.length, rfl, .neg (by omega) (by omega) (by decide) (by decide), ?_⟩
    refine for_rangeC (fun i σ H' => ∃ (k : Nat) (dk x : Int) (zs ws : List V) (accP accG : List (Int × Int)) (y7 y8 y9 : Option V), k + i = ps.length ∧ σ = [some (.ref R), some (.ref t), some (.ref u), some (.int d), some (.ref pa), some (.ref ga), some (.int dk), y7, y8, y9] ∧
      Ex H H' ∧ H' pa = some (.lst zs) ∧ H' ga = some (.lst ws) ∧ Prs H' zs accP ∧ Prs H' ws accG ∧ cellAt (lastL (row0L low high) ((kindsOf ps us).take k)) dk = some x ∧
      payD (kindsOf ps us) (wayL (row0L low high) (kindsOf ps us) ps.length d) = payD ((kindsOf ps us).take k) (wayL (row0L low high) (kindsOf ps us) k dk) ++ accP.reverse ∧
      giveD (kindsOf ps us) (wayL (row0L low high) (kindsOf ps us) ps.length d) = giveD ((kindsOf ps us).take k) (wayL (row0L low high) (kindsOf ps us) k dk) ++ accG.reverse ∧ accP.length ≤ i ∧ accG.length ≤ i)
      ⟨ps.length, d, m, [], [], [], [], none, none, none, rfl, rfl, e2, (Ex.nw hga) _ _ cp, upd_same, .nil, .nil, by rw [← hkl, List.take_length]; exact hm, by rw [← hkl, List.take_length]; simp, by rw [← hkl, List.take_length]; simp, Nat.le_refl _, Nat.le_refl _⟩ ?_ ?_
    · rintro i σ H' hi ⟨k, dk, x, zs, ws, accP, accG, y7, y8, y9, hki, rfl, ex, epa, ega, hP, hG, hx, hpv0, hgv0, hal, hgl⟩
      obtain ⟨j, rfl⟩ : ∃ j, k = j + 1 := ⟨k - 1, by omega⟩
      have ej : (xs.length : Int) + (i : Int) * -1 = ((j + 1 : Nat) : Int) := by omega
      have ej1 : ((j + 1 : Nat) : Int) - 1 = (j : Int) := by omega
      rw [ej]
      have hj : j < ps.length := by omega
      obtain ⟨t2, hx0, h3⟩ := Prs.getL hp (List.getElem?_eq_getElem hj)
      have hpj := List.getElem?_eq_getElem hj
      have hpv := hg.vp _ (List.getElem_mem hj)
      generalize ps[j] = p at hpj h3 hpv
      have h3' := ex _ _ h3
      have hkj := kindsOf_at (us := us) hpj
      have hown : 0 ≤ ownOf us p.1 := by
        unfold ownOf
        cases e : countIn us p.1 with
        | none => exact Int.le_refl _
        | some c => exact (hg.vu _ (countIn_mem e)).2.2.1
      have hrows' := hrows.ex ex
      have eR' := ex _ _ eR
      obtain ⟨b, ib, _, eb⟩ := at_row hrows' (i := ((j + 1 : Nat) : Int) - 1) (k := j) ej1 (rowsL_at _ _ (by omega))
      obtain ⟨b1, ib1, _, eb1⟩ := at_row hrows' (i := ((j + 1 : Nat) : Int)) (k := j + 1) rfl (rowsL_at _ _ (by omega))
      have it : atI xs (((j + 1 : Nat) : Int) - 1) = some (.ref t2) := at_of ej1 hx0
      obtain ⟨dn, hdn, hdl, hdx⟩ := of_cellAt hx
      subst hdn
      rw [hll] at hdl
      obtain ⟨g1, g2, g3, _⟩ := stepL_ok hkj hx rfl
      have gs := wayL_succ (row0L low high) (kindsOf ps us) j (dn : Int) hkj (g := pickK (lastL (row0L low high) ((kindsOf ps us).take j)) (p.1, p.2, ownOf us p.1) (dn : Int) x) (by rw [hx]; rfl)
      have hback : ∃ i : Nat, i ≤ p.2.toNat + (ownOf us p.1).toNat ∧ cellAt (lastL (row0L low high) ((kindsOf ps us).take j)) ((dn : Int) - (-(p.2.toNat : Int) + i) * p.1.toNat) = some (x - ((-(p.2.toNat : Int) + i).natAbs : Int)) := by
        have hx2 := hx
        rw [take_snoc hkj, lastL_snoc] at hx2
        obtain ⟨_, _, hl⟩ := cellAt_next hx2
        exact back_oneL hl
      obtain ⟨pk1, _⟩ := pickL_ok hback
      have hv1 : (p.1.toNat : Int) = p.1 := Int.toNat_of_nonneg (by omega)
      have hc1 : (p.2.toNat : Int) = p.2 := Int.toNat_of_nonneg (by omega)
      have ho1 : ((ownOf us p.1).toNat : Int) = ownOf us p.1 := Int.toNat_of_nonneg hown
      have ib1x : atI ((lastL (row0L low high) ((kindsOf ps us).take (j + 1))).map vO) (dn : Int) = some (.int x) := at_of rfl (by
        rw [vO_at (by rw [hll]; omega), hdx]
        rfl)
      change wayL _ _ _ _ = wayL _ _ _ (_ - pickL (lastL (row0L low high) ((kindsOf ps us).take j)) p.1.toNat p.2.toNat (dn : Int) x (p.2.toNat + (ownOf us p.1).toNat) * _) ++ [pickL (lastL (row0L low high) ((kindsOf ps us).take j)) p.1.toNat p.2.toNat (dn : Int) x (p.2.toNat + (ownOf us p.1).toNat)] at gs
      change -(p.2.toNat : Int) ≤ pickL (lastL (row0L low high) ((kindsOf ps us).take j)) p.1.toNat p.2.toNat (dn : Int) x (p.2.toNat + (ownOf us p.1).toNat) at g1
      change cellAt _ (_ - pickL (lastL (row0L low high) ((kindsOf ps us).take j)) p.1.toNat p.2.toNat (dn : Int) x (p.2.toNat + (ownOf us p.1).toNat) * _) = some (_ - ((pickL (lastL (row0L low high) ((kindsOf ps us).take j)) p.1.toNat p.2.toNat (dn : Int) x (p.2.toNat + (ownOf us p.1).toNat)).natAbs : Int)) at g3
      rw [show ((p.1, p.2, ownOf us p.1) : Kd).1.toNat = p.1.toNat from rfl] at gs g3
      generalize hr0 : lastL (row0L low high) ((kindsOf ps us).take j) = r at *
      generalize hN : p.2.toNat + (ownOf us p.1).toNat = N at *
      -- the value, the count in the purse
      refine ⟨_, rfl, _, rfl, _, _, rfl, rfl, t, xs, _, _, rfl, rfl, ex.seq hS, it, t2, _, 0, .int p.1, rfl, rfl, .of h3', rfl, ?_⟩
      refine ⟨_, rfl, _, rfl, u, us, p.1, rfl, hU.ex ex, ?_⟩
      refine ⟨fun n σ H9 => ∃ mm : Int, mm = -(p.2.toNat : Int) + (n : Int) ∧ n ≤ N ∧ σ = [some (.ref R), some (.ref t), some (.ref u), some (.int d), some (.ref pa), some (.ref ga), some (.int (dn : Int)), some (.int ((j + 1 : Nat) : Int)), some (.int p.1), some (.int mm)] ∧ H9 = H' ∧ pickL r p.1.toNat p.2.toNat (dn : Int) x N = pickL r p.1.toNat p.2.toNat (dn : Int) x n, ⟨N, ownOf us p.1, by omega, Nat.le_refl _, rfl, rfl, rfl⟩, ?_⟩
      rintro n σ H9 ⟨mm, hmm, hnN, rfl, rfl, hpk⟩
      have hab : (if mm < 0 then -mm else mm) = (mm.natAbs : Int) := by split <;> omega
      refine ⟨_, rfl, _, rfl, _, _, rfl, rfl, R, _, _, .ref b, rfl, rfl, .of eR', ib, _, rfl, _, rfl, _, rfl, _, _, rfl, rfl, .inr ⟨by omega, by omega⟩, _, _, rfl, rfl, _, rfl, _, rfl, R, _, _, .ref b1, rfl, rfl, .of eR', ib1, _, rfl, b1, _, _, _, rfl, rfl, .of eb1, ib1x, _, rfl, mm, rfl, ?_⟩
      rw [hab]
      refine ⟨_, _, rfl, rfl, b, r, (dn : Int) - mm * p.1, x - (mm.natAbs : Int), rfl, .of eb, ?_⟩
      by_cases hhit : cellAt r ((dn : Int) - mm * p.1) = some (x - (mm.natAbs : Int))
      case neg =>
        rw [decide_eq_false hhit]
        refine ⟨false, rfl, iteT ?_⟩
        have hn0 : n ≠ 0 := by
          rintro rfl
          rw [hpk, show pickL r p.1.toNat p.2.toNat (dn : Int) x 0 = -(p.2.toNat : Int) from rfl, hv1] at pk1
          rw [show mm = -(p.2.toNat : Int) by omega] at hhit
          exact hhit pk1
        obtain ⟨n', rfl⟩ : ∃ n', n = n' + 1 := ⟨n - 1, by omega⟩
        refine ⟨_, fun σ' H' z => ⟨n', Nat.lt_succ_self _, z⟩, ?_⟩
        refine ⟨_, rfl, _, _, rfl, rfl, mm - 1, by omega, by omega, rfl, rfl, ?_⟩
        rw [hpk]
        show (if _ then _ else _) = _
        rw [if_neg]
        rw [← hmm, hv1]
        exact hhit
      rw [decide_eq_true hhit]
      refine ⟨true, rfl, iteF ?_⟩
      have hpm : pickL r p.1.toNat p.2.toNat (dn : Int) x N = mm := by
        rw [hpk]
        cases n with
        | zero =>
          show -(p.2.toNat : Int) = mm
          omega
        | succ n' =>
          show (if _ then _ else _) = mm
          rw [if_pos, hmm]
          rw [← hmm, hv1]
          exact hhit
      rw [hpm] at g1 g3 gs
      rw [hv1] at g3 gs
      clear hpk hpm pk1 hback
      have hps := payD_snoc (ks := (kindsOf ps us).take j) (w := wayL (row0L low high) (kindsOf ps us) j ((dn : Int) - mm * p.1)) (p := (p.1, p.2, ownOf us p.1)) (j := mm) (by rw [wayL_len, List.length_take]; omega)
      have hgsn := giveD_snoc (ks := (kindsOf ps us).take j) (w := wayL (row0L low high) (kindsOf ps us) j ((dn : Int) - mm * p.1)) (p := (p.1, p.2, ownOf us p.1)) (j := mm) (by rw [wayL_len, List.length_take]; omega)
      rw [← gs, ← take_snoc hkj] at hps hgsn
      refine ⟨fun σ' H2 => ∃ (zs : List V) (accP : List (Int × Int)), σ' = [some (.ref R), some (.ref t), some (.ref u), some (.int d), some (.ref pa), some (.ref ga), some (.int (dn : Int)), some (.int ((j + 1 : Nat) : Int)), some (.int p.1), some (.int mm)] ∧ Ex H H2 ∧ H2 pa = some (.lst zs) ∧ H2 ga = some (.lst ws) ∧ Prs H2 zs accP ∧ Prs H2 ws accG ∧
        payD (kindsOf ps us) (wayL (row0L low high) (kindsOf ps us) ps.length d) = payD ((kindsOf ps us).take j) (wayL (row0L low high) (kindsOf ps us) j ((dn : Int) - mm * p.1)) ++ accP.reverse ∧ accP.length ≤ i + 1, ?_, ?_⟩
      · refine ⟨_, rfl, _, _, rfl, rfl, _, rfl, iteD (fun z => ?_) (fun z => ?_)⟩
        · have z' : 0 < mm := z
          rw [if_pos z'] at hps
          refine ⟨_, rfl, .inl ⟨rfl, zs, .of epa⟩, _, rfl, _, rfl, len63 (by show 2 ≤ _; decide), fun t4 ht4 => ?_⟩
          have nct : pa ≠ t4 := ne_of_none epa ht4
          have epa' : (upd H9 t4 (.tup [.int p.1, .int mm])) pa = some (.lst zs) := by rw [upd_ne nct]; exact epa
          refine ⟨pa, zs, _, rfl, rfl, epa', len63' (by rw [hP.len]; omega), zs ++ [.ref t4], accP ++ [(p.1, mm)], rfl, Ex.mu (ex.tr (Ex.nw ht4)) hpa, upd_same, by rw [upd_ne npg.symm]; exact (Ex.nw ht4) _ _ ega, ?_, ?_, ?_, by rw [List.length_append]; show _ + 1 ≤ _; omega⟩
          · refine Prs.up (by intro ys y; rw [epa'] at y; cases y) ?_
            exact Prs.snoc (hP.ex (Ex.nw ht4)) ⟨t4, rfl, upd_same⟩
          · exact Prs.up (by intro ys y; rw [epa'] at y; cases y) (hG.ex (Ex.nw ht4))
          · rw [hpv0, hps, List.reverse_append, List.append_assoc]
            rfl
        · have z' : ¬ 0 < mm := z
          rw [if_neg z', List.append_nil] at hps
          exact ⟨zs, accP, rfl, ex, epa, ega, hP, hG, by rw [hpv0, hps], by omega⟩
      rintro σ' H2 ⟨zs2, accP2, rfl, ex2, epa2, ega2, hP2, hG2, hpv2, hal2⟩
      refine ⟨fun σ' H3 => ∃ (ws : List V) (accG : List (Int × Int)), σ' = [some (.ref R), some (.ref t), some (.ref u), some (.int d), some (.ref pa), some (.ref ga), some (.int (dn : Int)), some (.int ((j + 1 : Nat) : Int)), some (.int p.1), some (.int mm)] ∧ Ex H H3 ∧ H3 pa = some (.lst zs2) ∧ H3 ga = some (.lst ws) ∧ Prs H3 zs2 accP2 ∧ Prs H3 ws accG ∧
        giveD (kindsOf ps us) (wayL (row0L low high) (kindsOf ps us) ps.length d) = giveD ((kindsOf ps us).take j) (wayL (row0L low high) (kindsOf ps us) j ((dn : Int) - mm * p.1)) ++ accG.reverse ∧ accG.length ≤ i + 1, ?_, ?_⟩
      · refine ⟨_, rfl, _, _, rfl, rfl, _, rfl, iteD (fun z => ?_) (fun z => ?_)⟩
        · have z' : mm < 0 := z
          rw [if_pos z'] at hgsn
          refine ⟨_, rfl, .inl ⟨rfl, ws, .of ega2⟩, _, rfl, _, rfl, _, _, rfl, rfl, len63 (by show 2 ≤ _; decide), fun t4 ht4 => ?_⟩
          have nct : ga ≠ t4 := ne_of_none ega2 ht4
          have ega' : (upd H2 t4 (.tup [.int p.1, .int (0 - mm)])) ga = some (.lst ws) := by rw [upd_ne nct]; exact ega2
          refine ⟨ga, ws, _, rfl, rfl, ega', len63' (by rw [hG2.len]; omega), ws ++ [.ref t4], accG ++ [(p.1, -mm)], rfl, Ex.mu (ex2.tr (Ex.nw ht4)) hga0, by rw [upd_ne npg]; exact (Ex.nw ht4) _ _ epa2, upd_same, ?_, ?_, ?_, by rw [List.length_append]; show _ + 1 ≤ _; omega⟩
          · exact Prs.up (by intro ys y; rw [ega'] at y; cases y) (hP2.ex (Ex.nw ht4))
          · refine Prs.up (by intro ys y; rw [ega'] at y; cases y) ?_
            refine Prs.snoc (hG2.ex (Ex.nw ht4)) ⟨t4, rfl, ?_⟩
            rw [upd_same]
            show some (HO.tup [V.int p.1, V.int (0 - mm)]) = some (HO.tup [V.int p.1, V.int (-mm)])
            rw [Int.zero_sub]
          · rw [hgv0, hgsn, List.reverse_append, List.append_assoc]
            rfl
        · have z' : ¬ mm < 0 := z
          rw [if_neg z', List.append_nil] at hgsn
          exact ⟨ws, accG, rfl, ex2, epa2, ega2, hP2, hG2, by rw [hgv0, hgsn], by omega⟩
      rintro σ' H3 ⟨ws3, accG3, rfl, ex3, epa3, ega3, hP3, hG3, hgv3, hgl3⟩
      refine ⟨_, rfl, _, rfl, _, rfl, _, _, rfl, rfl, .inr ⟨by omega, by omega⟩, _, _, rfl, rfl, ?_⟩
      exact ⟨j, (dn : Int) - mm * p.1, x - (mm.natAbs : Int), zs2, ws3, accP2, accG3, _, _, _, by omega, rfl, ex3, epa3, ega3, hP3, hG3, by rw [hr0]; exact g3, hpv2, hgv3, hal2, hgl3⟩
    · rintro σ H' ⟨k, dk, x, zs, ws, accP, accG, y7, y8, y9, hki, rfl, ex, epa, ega, hP, hG, hx, hpv0, hgv0, hal, hgl⟩
      obtain rfl : k = 0 := by omega
      refine ⟨_, rfl, .inl ⟨rfl, zs, .of epa⟩, pa, zs, rfl, rfl, epa, ?_⟩
      generalize hH2 : upd H' pa (.lst zs.reverse) = H2
      have ex2 : Ex H H2 := hH2 ▸ Ex.mu ex hpa
      have epa2 : H2 pa = some (.lst zs.reverse) := by rw [← hH2]; exact upd_same
      have ega2 : H2 ga = some (.lst ws) := by rw [← hH2, upd_ne npg.symm]; exact ega
      have hP2 : Prs H2 zs.reverse accP.reverse := hH2 ▸ (Prs.rev hP).up (by intro ys y; rw [epa] at y; cases y)
      have hG2 : Prs H2 ws accG := hH2 ▸ hG.up (by intro ys y; rw [epa] at y; cases y)
      clear hH2
      refine ⟨_, rfl, .inl ⟨rfl, ws, .of ega2⟩, ga, ws, rfl, rfl, ega2, ?_⟩
      generalize hH3 : upd H2 ga (.lst ws.reverse) = H3
      have ex3 : Ex H H3 := hH3 ▸ Ex.mu ex2 hga0
      have ega3 : H3 ga = some (.lst ws.reverse) := by rw [← hH3]; exact upd_same
      have epa3 : H3 pa = some (.lst zs.reverse) := by rw [← hH3, upd_ne npg]; exact epa2
      have hP3 : Prs H3 zs.reverse accP.reverse := hH3 ▸ hP2.up (by intro ys y; rw [ega2] at y; cases y)
      have hG3 : Prs H3 ws.reverse accG.reverse := hH3 ▸ (Prs.rev hG2).up (by intro ys y; rw [ega2] at y; cases y)
      clear hH3
      refine ⟨_, rfl, _, rfl, len63 (by show 2 ≤ _; decide), fun l hl => ?_⟩
      have n1 := Ex.nw (o := .lst [.ref pa, .ref ga]) hl
      refine q l pa ga _ _ _ (ex3.tr n1) upd_same (n1 _ _ epa3) (n1 _ _ ega3) ?_ ?_
      · rw [hpv0]
        exact hP3.ex n1
      · rw [hgv0]
        exact hG3.ex n1
/-! ### a deal, looked at -/
def spGood (K : PySem.W.Frag) : Sp := fun vs H Q _ => ∃ (t u p a b : Addr) (xs ya yb : List V) (ps us : List (Int × Int)) (c m : Int), vs = [.ref t, .ref u, .int c, .ref p, .int m] ∧ H t = some (.lst xs) ∧ Prs H xs ps ∧ Till K H u us ∧ Tl ps ∧ Gen2 ps us ∧ dueS ps us = "" ∧ (0 ≤ c ∧ c ≤ 1000) ∧ cellD ps us c = some m ∧
  H p = some (.tup [.ref a, .ref b]) ∧ H a = some (.lst ya) ∧ H b = some (.lst yb) ∧ Prs H ya (payD (kindsOf ps us) (wayOf ps us c)) ∧ Prs H yb (giveD (kindsOf ps us) (wayOf ps us c)) ∧ Ret (.bl true) H Q
theorem ok_good (T : Tx K mg) : FnOk P w K mg base CX0 7 T.a__law_good T.d__law_good P__law_good (spGood K) := by
  have G__law_part := ok_part (P := P) (w := w) (base := base) T
  have G__law_own := ok_own (P := P) (w := w) (base := base) T
  have G__law_pieces := ok_pieces11 (P := P) (w := w) (base := base) T
  have G__law_pays_back := ok_back (P := P) (w := w) (base := base) T
  refine T.f__law_good.ok sc__law_good (fun vs H Q E h => ?_) (fun cdv A outer s H vs Q E hr h => ?_)
  · obtain ⟨t, u, p, a, b, xs, ya, yb, ps, us, c, m, rfl, _⟩ := h
    rfl
  · obtain ⟨t, u, p, a, b, xs, ya, yb, ps, us, c, m, rfl, ht, hp, hU, hT, hg, hd, hc, hm, ep, ea, eb, hya, hyb, q⟩ := h
    refine ⟨_, (pss_cons (ps_if (PW.pt (pw_or (pt_not (pt_val (pe_callB call_isi (by rfl) T.m_isinstance (by decide +kernel) (pa_cons (pv 3) (pa_cons (pe_bltn (v := .ty "tuple") (by rfl) T.m_tuple (by decide +kernel) rfl) pa_nil))))) (pw_or1 (pt_cmpR op_ne (pe_callB call_len_seq (by rfl) T.m_len (by decide +kernel) (pa_cons (pv 3) pa_nil)) pe_int (nomark _)))))
      (pss_one (ps_ret pe_bl))
      pss_nil)
    (pss_cons (ps_set (i := 5) sc__law_good.nd rfl (.inl rfl) (pe_call G__law_part (hr.mono (by decide)) (by rfl) T.g__law_part T.f__law_part.kp T.p__law_part .nil pass0 (pa_cons (pe_ix ix_tup (pv 3) pe_int (fun _ _ => rfl)) (pa_cons (pv 1) pa_nil))))
    (pss_cons (ps_set (i := 6) sc__law_good.nd rfl (.inl rfl) (pe_call G__law_part (hr.mono (by decide)) (by rfl) T.g__law_part T.f__law_part.kp T.p__law_part .nil pass0 (pa_cons (pe_ix ix_tup (pv 3) pe_int (fun _ _ => rfl)) (pa_cons (pv 0) pa_nil))))
    (pss_cons (ps_if (PW.pt (pw_or (pt_cmpR op_lt (pv 5) pe_int (nomark _)) (pw_or (pt_cmpR op_lt (pv 6) pe_int (nomark _)) (pw_or1 (pt_cmpR op_ne (pe_op op_sub (pv 5) (pv 6)) (pv 2) (nomark _))))))
      (pss_one (ps_ret pe_bl))
      pss_nil)
    (pss_cons (ps_for PassesOwn.never rfl (pi_list (pe_ix ix_tup (pv 3) pe_int (fun _ _ => rfl))) (pg_name (i := 7) sc__law_good.nd rfl (.inl rfl))
      (pss_one (ps_if (pt_cmpR op_gt (pe_call G__law_own (hr.mono (by decide)) (by rfl) T.g__law_own T.f__law_own.kp T.p__law_own .nil pass0 (pa_cons (pe_ix ix_tup (pv 3) pe_int (fun _ _ => rfl)) (pa_cons (pe_ix ix_tup (pv 7) pe_int (fun _ _ => rfl)) pa_nil))) pe_int (nomark _))
        (pss_one (ps_ret pe_bl))
        pss_nil)))
    (pss_cons (ps_if (pt_cmpR op_ne (pe_op op_add (pe_call G__law_pieces (hr.mono (by decide)) (by rfl) T.g__law_pieces T.f__law_pieces.kp T.p__law_pieces .nil pass0 (pa_cons (pe_ix ix_tup (pv 3) pe_int (fun _ _ => rfl)) pa_nil)) (pe_call G__law_pieces (hr.mono (by decide)) (by rfl) T.g__law_pieces T.f__law_pieces.kp T.p__law_pieces .nil pass0 (pa_cons (pe_ix ix_tup (pv 3) pe_int (fun _ _ => rfl)) pa_nil))) (pv 4) (nomark _))
      (pss_one (ps_ret pe_bl))
      pss_nil)
    (pss_one (ps_ret (pe_call G__law_pays_back (hr.mono (by decide)) (by rfl) T.g__law_pays_back T.f__law_pays_back.kp T.p__law_pays_back .nil pass0 (pa_cons (pv 0) (pa_cons (pv 3) (pa_cons (pv 2) pa_nil)))))))))))), ?_⟩
    have F := way_facts hg hd hm
    have hx : ∃ pa ga, payD (kindsOf ps us) (wayOf ps us c) = pa ∧ giveD (kindsOf ps us) (wayOf ps us c) = ga := ⟨_, _, rfl, rfl⟩
    obtain ⟨pa, ga, hpa, hga⟩ := hx
    have hya2 := hya
    have hyb2 := hyb
    rw [hpa] at hya2
    rw [hga] at hyb2
    rw [hpa, hga] at F
    have hpal := hya2.len
    refine ⟨_, rfl, _, _, _, _, true, rfl, .ty "tuple", .base (.tup ep), kit_ty (by decide +kernel), _, rfl, iteF ?_⟩
    refine ⟨_, rfl, p, _, rfl, .inr (.of ep), rfl, _, rfl, iteVN (fun z => absurd rfl z) (fun _ => ?_)⟩
    refine ⟨_, rfl, p, _, _, .ref a, rfl, rfl, .of ep, rfl, _, rfl, a, u, ya, pa, us, rfl, ea, hya2, hU, F.rp, F.p, ?_⟩
    refine ⟨_, rfl, p, _, _, .ref b, rfl, rfl, .of ep, rfl, _, rfl, b, t, yb, ga, ps, rfl, eb, hyb2, ⟨xs, .of ht, hp⟩, F.rg, F.g, ?_⟩
    have hz := F.z
    have hw := F.w
    refine ⟨_, rfl, _, _, rfl, rfl, _, rfl, iteD (fun z => absurd (show worthP pa < 0 from z) (by omega)) (fun _ => ?_)⟩
    refine ⟨_, rfl, _, _, rfl, rfl, _, rfl, iteD (fun z => absurd (show worthP ga < 0 from z) (by omega)) (fun _ => ?_)⟩
    refine ⟨_, rfl, _, rfl, _, _, rfl, rfl, _, rfl, rfl, _, rfl, iteVN (fun z => absurd (by omega) z) (fun _ => ?_)⟩
    -- no kind in both
    refine ⟨_, rfl, p, _, _, .ref a, rfl, rfl, .of ep, rfl, a, rfl, ⟨ya, .of ea⟩, for_list (xs := ya) (fun i σ H' => ∃ y7, σ = [some (.ref t), some (.ref u), some (.int c), some (.ref p), some (.int m), some (.int (worthP pa)), some (.int (worthP ga)), y7] ∧ H' = H) ⟨_, rfl, rfl⟩ (fun i σ H' _ h => by obtain ⟨_, _, rfl⟩ := h; exact .of ea) ?_ ?_⟩
    · rintro i x σ H' hx ⟨y7, rfl, rfl⟩
      obtain ⟨r, t2, h1, rfl, h3⟩ := Prs.get hya2 hx
      have h0 := F.d r (List.mem_of_getElem? h1)
      refine ⟨_, rfl, p, _, _, .ref b, rfl, rfl, .of ep, rfl, _, rfl, t2, _, 0, .int r.1, rfl, rfl, .of h3, rfl, b, ga, r.1, rfl, ⟨yb, .of eb, hyb2⟩, ?_⟩
      rw [h0]
      exact ⟨_, _, rfl, rfl, _, rfl, iteD (fun z => absurd (show (0 : Int) > 0 from z) (by decide)) (fun _ => ⟨_, rfl, rfl⟩)⟩
    · rintro σ H' ⟨y7, rfl, rfl⟩
      have hl := F.l
      refine ⟨_, rfl, p, _, _, .ref a, rfl, rfl, .of ep, rfl, a, pa, rfl, ⟨ya, .of ea, hya2⟩, by omega, fun H2 e2 => ?_⟩
      refine ⟨_, rfl, p, _, _, .ref b, rfl, rfl, .of (e2 _ _ ep), rfl, b, ga, rfl, ⟨yb, .of (e2 _ _ eb), hyb2.ex e2⟩, by omega, fun H3 e3 => ?_⟩
      have e23 := e2.tr e3
      refine ⟨_, _, rfl, rfl, _, rfl, rfl, _, rfl, iteVN (fun z => absurd F.n z) (fun _ => ?_)⟩
      exact ⟨_, rfl, _, rfl, _, rfl, t, p, a, b, xs, ya, yb, ps, us, c, m, rfl, e23 _ _ ht, hp.ex e23, hT, hg, hd, hc, hm, e23 _ _ ep, e23 _ _ ea, e23 _ _ eb, hya.ex e23, hyb.ex e23, fun H4 e4 => q _ (e23.tr e4)⟩
--@split
def twoP (ps us : List (Int × Int)) : PyData := .list [.list (ps.map dP), .list (us.map dP)]
theorem shaped_twoP (ps us : List (Int × Int)) : SeqAt.shaped (twoP ps us) = true := by
  unfold SeqAt.shaped
  have h1 : PyData.canLay0 (twoP ps us) = true := by
    show (PyData.canLayAll0 (ps.map dP) && (PyData.canLayAll0 (us.map dP) && true)) = true
    rw [canLay_dPs, canLay_dPs]
    rfl
  have h2 : PyData.depth (twoP ps us) ≤ 64 := by
    have a := depth_dPs ps
    have b := depth_dPs us
    simp only [twoP, PyData.depth, PyData.depthAll]
    omega
  rw [h1, decide_eq_true h2]
  rfl
theorem twoP_dp {K : PySem.W.Frag} {H : Hp} {l a b : Addr} {xs ys : List V} {ps us : List (Int × Int)} (hl : H l = some (.lst [.ref a, .ref b])) (ha : H a = some (.lst xs)) (hp : Prs H xs ps) (hb : H b = some (.lst ys)) (hq : Prs H ys us) : Dp K H (.ref l) (twoP ps us) :=
  .lst (.of hl) (.cons (till_dp ⟨xs, .of ha, hp⟩) (.cons (till_dp ⟨ys, .of hb, hq⟩) .nil))
/-! ### the scales and the deal, walked -/
def spWalks (K : PySem.W.Frag) : Sp := fun vs H Q _ => ∃ (t u hd h1 h2 l : Addr) (v : V) (xs ys : List V) (ps us : List (Int × Int)) (c : Int) (H0 : Hp), vs = [.ref t, .ref u, .int c, .ref hd, .ref l] ∧ Ex H0 H ∧ H0 t = some (.lst xs) ∧ H0 u = some (.lst ys) ∧ H0 hd = some (.lst [.ref h1, .ref h2]) ∧ H0 h1 = some (.lst xs) ∧ H0 h2 = some (.lst ys) ∧ Prs H0 xs ps ∧ Prs H0 ys us ∧
  Gen2 ps us ∧ Tl ps ∧ dueS ps us = "" ∧ (0 ≤ c ∧ c ≤ 1000) ∧ H l = some (.lst [.str (dueDl ps us c), v]) ∧ DealF ps us c H0 H l v ∧ ∀ H2, Q (.bl true) H2
theorem ok_walks (T : Tx K mg) : FnOk P w K mg base CX0 8 T.a__law_walks T.d__law_walks P__law_walks (spWalks K) := by
  have G_scales := ok_scales (P := P) (w := w) (base := base) T
  have G__law_scaled := ok_scaled (P := P) (w := w) (base := base) T
  have G__law_total := ok_total (P := P) (w := w) (base := base) T
  have G__law_good := ok_good (P := P) (w := w) (base := base) T
  have G__law_exact := ok_exactD (P := P) (w := w) (base := base) T
  have G__law_deal := ok_dealT (P := P) (w := w) (base := base) T
  have G_deal := ok_deal (P := P) (w := w) (base := base) T
  refine T.f__law_walks.ok sc__law_walks (fun vs H Q E h => ?_) (fun cdv A outer s H vs Q E hr h => ?_)
  · obtain ⟨t, u, hd, h1, h2, l, v, xs, ys, ps, us, c, H0, rfl, _⟩ := h
    rfl
  · obtain ⟨t, u, hd, h1, h2, l, v, xs, ys, ps, us, c, H0, rfl, e0, ht0, hu0, chd0, ch10, ch20, hp0, hq0, hg, hT, hdue, hc, el, hdf, q⟩ := h
    refine ⟨_, (pss_cons (ps_set (i := 5) sc__law_walks.nd rfl (.inl rfl) (pe_call G_scales (hr.mono (by decide)) (by rfl) T.g_scales T.f_scales.kp T.p_scales .nil passL (pa_cons (pe_callTy call_list_of (by rfl) T.m_list (by decide +kernel) (pa_cons (pv 0) pa_nil)) (pa_cons (pe_callTy call_list_of (by rfl) T.m_list (by decide +kernel) (pa_cons (pv 1) pa_nil)) pa_nil))))
    (pss_cons (ps_if (pt_not (pt_val (pe_call G__law_scaled (hr.mono (by decide)) (by rfl) T.g__law_scaled T.f__law_scaled.kp T.p__law_scaled .nil pass0 (pa_cons (pv 5) (pa_cons (pv 0) (pa_cons (pv 1) pa_nil))))))
      (pss_one (ps_ret pe_bl))
      pss_nil)
    (pss_cons (ps_set (i := 6) sc__law_walks.nd rfl (.inl rfl) (pe_op op_add (pe_call G__law_total (hr.mono (by decide)) (by rfl) T.g__law_total T.f__law_total.kp T.p__law_total .nil pass0 (pa_cons (pv 0) pa_nil)) (pv 2)))
    (pss_cons (ps_if (PW.pt (pw_or (pt_cmpR op_ge (pv 6) (pe_callB call_len_seq (by rfl) T.m_len (by decide +kernel) (pa_cons (pe_ix ix_list (pv 5) pe_int (fun _ _ => rfl)) pa_nil)) (nomark _)) (pw_or1 (pt_cmpR op_isN (pe_ix ix_list (pe_ix ix_list (pv 5) (pe_callB call_len_seq (by rfl) T.m_len (by decide +kernel) (pa_cons (pv 0) pa_nil)) (fun _ _ => rfl)) (pv 6) (fun _ _ => rfl)) pe_non (nomark _)))))
      (pss_one (ps_ret (pe_cmpR op_eq (pe_ix ix_list (pv 4) pe_int (fun _ _ => rfl)) pe_str (nomark _))))
      pss_nil)
    (pss_cons (ps_set (i := 7) sc__law_walks.nd rfl (.inl rfl) (pe_ix ix_list (pe_ix ix_list (pv 5) (pe_callB call_len_seq (by rfl) T.m_len (by decide +kernel) (pa_cons (pv 0) pa_nil)) (fun _ _ => rfl)) (pv 6) (fun _ _ => rfl)))
    (pss_cons (ps_if (PW.pt (pw_or (pt_cmpR op_ne (pe_ix ix_list (pv 4) pe_int (fun _ _ => rfl)) pe_str (nomark _)) (pw_or1 (pt_not (pt_val (pe_call G__law_good (hr.mono (by decide)) (by rfl) T.g__law_good T.f__law_good.kp T.p__law_good .nil pass0 (pa_cons (pv 0) (pa_cons (pv 1) (pa_cons (pv 2) (pa_cons (pe_ix ix_list (pv 4) pe_int (fun _ _ => rfl)) (pa_cons (pv 7) pa_nil)))))))))))
      (pss_one (ps_ret pe_bl))
      pss_nil)
    (pss_cons (ps_set (i := 8) sc__law_walks.nd rfl (.inl rfl) (pe_lst (pa_cons (pe_callTy call_list_of (by rfl) T.m_list (by decide +kernel) (pa_cons (pe_ix ix_tup (pe_ix ix_list (pv 4) pe_int (fun _ _ => rfl)) pe_int (fun _ _ => rfl)) pa_nil)) (pa_cons (pe_callTy call_list_of (by rfl) T.m_list (by decide +kernel) (pa_cons (pe_ix ix_tup (pe_ix ix_list (pv 4) pe_int (fun _ _ => rfl)) pe_int (fun _ _ => rfl)) pa_nil)) pa_nil))))
    (pss_cons (ps_if (pt_cmpR (op_neD hr.units) (pv 8) (pe_call G__law_exact (hr.mono (by decide)) (by rfl) T.g__law_exact T.f__law_exact.kp T.p__law_exact .nil pass0 (pa_cons (pv 5) (pa_cons (pv 0) (pa_cons (pv 1) (pa_cons (pv 6) pa_nil))))) (nomark _))
      (pss_one (ps_ret pe_bl))
      pss_nil)
    (pss_cons (ps_expr (pe_call G__law_deal (hr.mono (by decide)) (by rfl) T.g__law_deal T.f__law_deal.kp T.p__law_deal .nil pass0 (pa_cons (pe_ix ix_list (pv 3) pe_int (fun _ _ => rfl)) (pa_cons (pe_ix ix_list (pv 3) pe_int (fun _ _ => rfl)) (pa_cons (pe_op op_fdiv (pv 2) pe_int) pa_nil)))))
    (pss_cons (ps_if (pt_cmpR (op_neD hr.units) (pe_lst (pa_cons (pe_ix ix_tup (pe_ix ix_list (pv 4) pe_int (fun _ _ => rfl)) pe_int (fun _ _ => rfl)) (pa_cons (pe_ix ix_tup (pe_ix ix_list (pv 4) pe_int (fun _ _ => rfl)) pe_int (fun _ _ => rfl)) pa_nil))) (pv 8) (nomark _))
      (pss_one (ps_ret pe_bl))
      pss_nil)
    (pss_cons (ps_expr (pe_bm PySem.F.plainAttrs_list PySem.F.slot_list_append PySem.F.type_list_append mt_append (pe_ix ix_tup (pe_ix ix_list (pv 4) pe_int (fun _ _ => rfl)) pe_int (fun _ _ => rfl)) (pa_cons (pe_tup (pa_cons pe_int (pa_cons pe_int pa_nil))) pa_nil)))
    (pss_cons (ps_set (i := 9) sc__law_walks.nd rfl (.inl rfl) (pe_call G_deal (hr.mono (by decide)) (by rfl) T.g_deal T.f_deal.kp T.p_deal .nil passL (pa_cons (pe_ix ix_list (pv 3) pe_int (fun _ _ => rfl)) (pa_cons (pe_ix ix_list (pv 3) pe_int (fun _ _ => rfl)) (pa_cons (pv 2) pa_nil)))))
    (pss_one (ps_ret (pe_cmpR (op_eqD hr.units) (pe_lst (pa_cons (pe_ix ix_tup (pv 9) pe_int (fun _ _ => rfl)) (pa_cons (pe_ix ix_tup (pv 9) pe_int (fun _ _ => rfl)) pa_nil))) (pv 8) (nomark _)))))))))))))))), ?_⟩
    have hdl : dueDl ps us c = if cellD ps us c = none then ("change" : Str) else ("" : Str) := by
      unfold dueDl
      rw [if_pos hc, if_pos hdue]
    have hw15 : worthP ps + worthP us ≤ 1500 := by
      have h0 := hdue
      unfold dueS at h0
      split at h0
      · exact absurd h0 (by decide)
      · split at h0
        · exact absurd h0 (by decide)
        · omega
    have hwp := gen_worth hg.vp
    have hwu := gen_worth hg.vu
    have hlp := hg.lp
    have hlu := hg.lu
    have fp : Fits ps := ⟨by omega, fun p hp => by
      have h0 := hg.vp p hp
      have h1 := worthP_ge (fun p hp => by have := hg.vp p hp; omega) hp
      have h2 : p.2 ≤ p.1 * p.2 := le_mul_of h0.1 h0.2.2.1
      exact ⟨by omega, by omega, h0.2.2.1, by omega⟩⟩
    have fu : Fits us := ⟨by omega, fun p hp => by
      have h0 := hg.vu p hp
      have h1 := worthP_ge (fun p hp => by have := hg.vu p hp; omega) hp
      have h2 : p.2 ≤ p.1 * p.2 := le_mul_of h0.1 h0.2.2.1
      exact ⟨by omega, by omega, h0.2.2.1, by omega⟩⟩
    have ht := e0 _ _ ht0
    have hu := e0 _ _ hu0
    have hp := hp0.ex e0
    have hq := hq0.ex e0
    have hxl := hp0.len
    refine ⟨_, rfl, t, xs, rfl, .inl (.of ht), fun l1 hl1 => ?_⟩
    (generalize hh : upd H l1 _ = H1; have e1 : Ex H H1 := (by rw [← hh]; exact Ex.nw hl1); have c1 := (show H1 l1 = some _ by rw [← hh]; exact upd_same); clear hh)
    refine ⟨_, rfl, u, ys, rfl, .inl (.of (e1 _ _ hu)), fun l2 hl2 => ?_⟩
    (generalize hh : upd H1 l2 _ = H2; have e2 : Ex H1 H2 := (by rw [← hh]; exact Ex.nw hl2); have c2 := (show H2 l2 = some _ by rw [← hh]; exact upd_same); clear hh)
    have e12 := e1.tr e2
    refine ⟨l1, l2, ps, us, rfl, ⟨xs, .of (e2 _ _ c1), hp.ex e12⟩, ⟨ys, .of c2, hq.ex e12⟩, hg, fun z => absurd (hdue.symm.trans z) (by decide), fun z => absurd (hdue.symm.trans z) (by decide), fun _ => ?_⟩
    intro R as H3 e3 hfr hnd eR hrows
    have e13 := e12.tr e3
    refine ⟨_, rfl, _, rfl, _, rfl, R, t, u, as, ps, us, rfl, eR, hrows, ⟨xs, .of (e13 _ _ ht), hp.ex e13⟩, ⟨ys, .of (e13 _ _ hu), hq.ex e13⟩, fp, fu, by omega, fun H4 e4 => ⟨true, rfl, iteF ?_⟩⟩
    have e14 := e13.tr e4
    have ht4 := e14 _ _ ht
    have hu4 := e14 _ _ hu
    have hp4 := hp.ex e14
    have hq4 := hq.ex e14
    have el4 := e14 _ _ el
    have eR4 := e4 _ _ eR
    have hrows4 := hrows.ex e4
    unfold scalesOf at hrows4
    have hkl : (kindsOf ps us).length = ps.length := kindsOf_len ..
    refine ⟨_, rfl, t, ps, rfl, ⟨xs, .of ht4, hp4⟩, fun p hp => by have := fp.2 p hp; omega, _, rfl, _, _, rfl, rfl, ?_⟩
    rw [hwp]
    obtain ⟨a0, i0, _, ea0⟩ := at_row hrows4 (i := 0) (k := 0) rfl (rowsL_at _ _ (Nat.zero_le _))
    have ea0' : H4 a0 = some (.lst ((row0L (lowOf ps) (lowOf us)).map vO)) := ea0
    have hr0 : (((row0L (lowOf ps) (lowOf us)).map vO).length : Int) = (lowOf ps : Int) + (lowOf us : Int) + 1 := by rw [List.length_map, row0L_len]; omega
    obtain ⟨z, iz, _, ez⟩ := at_row hrows4 (i := (xs.length : Int)) (k := ps.length) (by omega) (rowsL_at _ _ (by omega))
    rw [← hkl, List.take_length] at ez
    have hll : (lastL (row0L (lowOf ps) (lowOf us)) (kindsOf ps us)).length = lowOf ps + lowOf us + 1 := by rw [lastL_len, row0L_len]
    have change : cellD ps us c = none → ∀ H5, Ex H4 H5 → H5 l = some (.lst [.str "change", v]) := fun hn H5 e5 => by
      rw [hdl, if_pos hn] at el4
      exact e5 _ _ el4
    refine ⟨_, rfl, _, rfl, R, _, _, .ref a0, rfl, rfl, .of eR4, i0, a0, _, rfl, .inl (.of ea0'), _, _, rfl, rfl, _, rfl, iteD (fun e => iteT ?_) (fun e => ?_)⟩
    · have e' : (lowOf ps : Int) + c ≥ (lowOf ps : Int) + (lowOf us : Int) + 1 := by rw [← hr0]; exact e
      have hn : cellD ps us c = none := by
        unfold cellD cellAt
        rw [if_neg fun y => by have := y.2; rw [hll] at this; omega]
      refine ⟨_, rfl, l, _, _, _, rfl, rfl, .of (change hn _ Ex.rfl'), rfl, rfl, ?_⟩
      rw [decide_eq_true rfl]
      exact q _
    have e' : ¬ (lowOf ps : Int) + c ≥ (lowOf ps : Int) + (lowOf us : Int) + 1 := by rw [← hr0]; exact e
    have hcz : cellD ps us c = rAt (lastL (row0L (lowOf ps) (lowOf us)) (kindsOf ps us)) ((lowOf ps : Int) + c).toNat := if_pos ⟨by omega, by rw [hll]; omega⟩
    have ia : atI ((lastL (row0L (lowOf ps) (lowOf us)) (kindsOf ps us)).map vO) ((lowOf ps : Int) + c) = some (vO (cellD ps us c)) := at_of (j := ((lowOf ps : Int) + c).toNat) (by omega) (by rw [hcz]; exact vO_at (by rw [hll]; omega))
    refine ⟨_, rfl, _, rfl, t, xs, rfl, .inl (.of ht4), R, _, _, .ref z, rfl, rfl, .of eR4, iz, _, rfl, z, _, _, _, rfl, rfl, .of ez, ia, ?_⟩
    cases hx : cellD ps us c with
    | none =>
      refine ⟨rfl, _, rfl, iteD (fun _ => ?_) (fun y => absurd rfl y)⟩
      refine ⟨_, rfl, l, _, _, _, rfl, rfl, .of (change hx _ Ex.rfl'), rfl, rfl, ?_⟩
      rw [decide_eq_true rfl]
      exact q _
    | some m =>
      refine ⟨rfl, _, rfl, iteD (fun y => nomatch y) (fun _ => ?_)⟩
      have hd0 : dueDl ps us c = "" := by
        rw [hdl, if_neg (by rw [hx]; exact fun y => nomatch y)]
      rw [hd0] at el4
      rw [hx] at ia
      obtain ⟨p, b, g, xs8, ys8, rfl, hl, hp9, hb, hgg, nlb, nlg, nbg, npb, npg, ep, eb, eg, hx8, hy8⟩ := hdf hd0
      have ep4 := e14 _ _ ep
      have eb4 := e14 _ _ eb
      have eg4 := e14 _ _ eg
      have hx84 := hx8.ex e14
      have hy84 := hy8.ex e14
      have F := way_facts hg hdue hx
      have F' := F.l
      refine ⟨_, rfl, _, rfl, t, xs, rfl, .inl (.of ht4), R, _, _, .ref z, rfl, rfl, .of eR4, iz, _, rfl, z, _, _, _, rfl, rfl, .of ez, ia, ?_⟩
      refine ⟨_, rfl, l, _, _, _, rfl, rfl, .of el4, rfl, rfl, _, rfl, iteDN (fun y => absurd rfl y) (fun _ => ?_)⟩
      refine ⟨_, rfl, _, rfl, _, rfl, _, rfl, l, _, _, .ref p, rfl, rfl, .of el4, rfl, _, rfl, t, u, p, b, g, xs, xs8, ys8, ps, us, c, m, rfl, ht4, hp4, ⟨ys, .of hu4, hq4⟩, hT, hg, hdue, hc, hx, ep4, eb4, eg4, hx84, hy84, fun H5 e5 => ⟨true, rfl, iteF ?_⟩⟩
      -- kept
      have el5 := e5 _ _ el4
      have ep5 := e5 _ _ ep4
      have eb5 := e5 _ _ eb4
      have eg5 := e5 _ _ eg4
      refine ⟨_, rfl, l, _, _, .ref p, rfl, rfl, .of el5, rfl, p, _, _, .ref b, rfl, rfl, .of ep5, rfl, b, xs8, rfl, .inl (.of eb5), fun k1 hk1 => ?_⟩
      (generalize hh : upd H5 k1 _ = H6; have e6 : Ex H5 H6 := (by rw [← hh]; exact Ex.nw hk1); have c6 := (show H6 k1 = some _ by rw [← hh]; exact upd_same); clear hh)
      refine ⟨_, rfl, l, _, _, .ref p, rfl, rfl, .of (e6 _ _ el5), rfl, p, _, _, .ref g, rfl, rfl, .of (e6 _ _ ep5), rfl, g, ys8, rfl, .inl (.of (e6 _ _ eg5)), fun k2 hk2 => ?_⟩
      (generalize hh : upd H6 k2 _ = H7; have e7 : Ex H6 H7 := (by rw [← hh]; exact Ex.nw hk2); have c7 := (show H7 k2 = some _ by rw [← hh]; exact upd_same); clear hh)
      refine ⟨len63 (by show 2 ≤ _; decide), fun kp hkp => ?_⟩
      (generalize hh : upd H7 kp _ = H8; have e8 : Ex H7 H8 := (by rw [← hh]; exact Ex.nw hkp); have c8 := (show H8 kp = some _ by rw [← hh]; exact upd_same); clear hh)
      have e58 := (e6.tr e7).tr e8
      have e48 := e5.tr e58
      have hx88 := hx84.ex e48
      have hy88 := hy84.ex e48
      have k1b : k1 ≠ b := fun z => by rw [z, eb5] at hk1; cases hk1
      have k2b : k2 ≠ b := fun z => by rw [z, e6 _ _ eb5] at hk2; cases hk2
      have kpb : kp ≠ b := fun z => by rw [z, e7 _ _ (e6 _ _ eb5)] at hkp; cases hkp
      have ck1 := e8 _ _ (e7 _ _ c6)
      have ck2 := e8 _ _ c7
      refine ⟨_, rfl, _, rfl, _, rfl, _, rfl, _, rfl, R, t, u, as, ps, us, lowOf ps, lowOf us, (lowOf ps : Int) + c, m, rfl, e48 _ _ eR4, hrows4.ex e48, ⟨xs, .of (e48 _ _ ht4), hp4.ex e48⟩, ⟨ys, .of (e48 _ _ hu4), hq4.ex e48⟩, hg, hx, fun l9 a9 b9 xs9 ys9 H9 e9 el9 ea9 eb9 hx9 hy9 => ?_⟩
      change Prs H9 xs9 (payD (kindsOf ps us) (wayOf ps us c)) at hx9
      change Prs H9 ys9 (giveD (kindsOf ps us) (wayOf ps us c)) at hy9
      refine ⟨_, _, twoP_dp (K := K) (e9 _ _ c8) (e9 _ _ ck1) (hx88.ex e9) (e9 _ _ ck2) (hy88.ex e9), twoP_dp (K := K) el9 ea9 hx9 eb9 hy9, shaped_twoP _ _, shaped_twoP _ _, ?_⟩
      rw [eqv_of_shaped (shaped_twoP _ _)]
      refine ⟨_, rfl, iteF ?_⟩
      -- another price
      have e49 := e48.tr e9
      have e04 := e0.tr e14
      have e09 := e04.tr e49
      have chd9 := e09 _ _ chd0
      refine ⟨_, rfl, hd, _, _, .ref h1, rfl, rfl, .of chd9, rfl, _, rfl, hd, _, _, .ref h2, rfl, rfl, .of chd9, rfl, _, rfl, _, _, rfl, rfl, ⟨by decide, by decide⟩, h1, h2, ps, us, c / 2, rfl, ⟨xs, .of (e09 _ _ ch10), hp0.ex e09⟩, ⟨ys, .of (e09 _ _ ch20), hq0.ex e09⟩, hg, fun l10 v10 H10 e10 _ _ => ?_⟩
      have e4A := e49.tr e10
      have e8A := e9.tr e10
      have el10 := e4A _ _ el4
      have ep10 := e4A _ _ ep4
      have eb10 := e4A _ _ eb4
      have eg10 := e4A _ _ eg4
      have hx10 := hx84.ex e4A
      have hy10 := hy84.ex e4A
      have ckp10 := e8A _ _ c8
      have ck110 := e8A _ _ ck1
      have ck210 := e8A _ _ ck2
      refine ⟨_, rfl, l, _, _, .ref p, rfl, rfl, .of el10, rfl, p, _, _, .ref b, rfl, rfl, .of ep10, rfl, _, rfl, l, _, _, .ref p, rfl, rfl, .of el10, rfl, p, _, _, .ref g, rfl, rfl, .of ep10, rfl, len63 (by show 2 ≤ _; decide), fun w2 hw2 => ?_⟩
      (generalize hh : upd H10 w2 _ = H11; have e11 : Ex H10 H11 := (by rw [← hh]; exact Ex.nw hw2); have c11 := (show H11 w2 = some _ by rw [← hh]; exact upd_same); clear hh)
      refine ⟨_, rfl, _, _, twoP_dp (K := K) c11 (e11 _ _ eb10) (hx10.ex e11) (e11 _ _ eg10) (hy10.ex e11), twoP_dp (K := K) (e11 _ _ ckp10) (e11 _ _ ck110) (hx10.ex e11) (e11 _ _ ck210) (hy10.ex e11), shaped_twoP _ _, shaped_twoP _ _, ?_⟩
      rw [eqv_of_shaped (shaped_twoP _ _)]
      refine ⟨_, rfl, iteF ?_⟩
      -- it grows
      have e011 := (e09.tr e10).tr e11
      have eb11 := e11 _ _ eb10
      refine ⟨_, rfl, l, _, _, .ref p, rfl, rfl, .of (e11 _ _ el10), rfl, p, _, _, .ref b, rfl, rfl, .of (e11 _ _ ep10), rfl, .inl ⟨rfl, _, .of eb11⟩, len63 (by show 2 ≤ _; decide), fun t7 ht7 => ?_⟩
      have nb7 : b ≠ t7 := ne_of_none eb11 ht7
      have n7 := Ex.nw (o := .tup [.int 7, .int 7]) ht7
      have eb12 : (upd H11 t7 (.tup [.int 7, .int 7])) b = some (.lst xs8) := by rw [upd_ne nb7]; exact eb11
      refine ⟨b, xs8, _, rfl, rfl, eb12, len63' (by rw [hx8.len]; omega), ?_⟩
      generalize hH13 : upd (upd H11 t7 (.tup [.int 7, .int 7])) b (.lst (xs8 ++ [.ref t7])) = H13
      have e013 : Ex H0 H13 := hH13 ▸ Ex.mu (e011.tr n7) hb
      have o13 : ∀ z y, z ≠ b → H11 z = some y → H13 z = some y := fun z y hz h => by rw [← hH13, upd_ne hz]; exact n7 _ _ h
      have hx13 : Prs H13 xs8 (payD (kindsOf ps us) (wayOf ps us c)) := hH13 ▸ ((hx10.ex e11).ex n7).up (by intro bs y; rw [eb12] at y; cases y)
      have hy13 : Prs H13 ys8 (giveD (kindsOf ps us) (wayOf ps us c)) := hH13 ▸ ((hy10.ex e11).ex n7).up (by intro bs y; rw [eb12] at y; cases y)
      clear hH13
      have ckp13 := o13 kp _ kpb (e11 _ _ ckp10)
      have ck113 := o13 k1 _ k1b (e11 _ _ ck110)
      have ck213 := o13 k2 _ k2b (e11 _ _ ck210)
      have chd13 := e013 _ _ chd0
      refine ⟨_, rfl, hd, _, _, .ref h1, rfl, rfl, .of chd13, rfl, _, rfl, hd, _, _, .ref h2, rfl, rfl, .of chd13, rfl, _, rfl, h1, h2, ps, us, c, rfl, ⟨xs, .of (e013 _ _ ch10), hp0.ex e013⟩, ⟨ys, .of (e013 _ _ ch20), hq0.ex e013⟩, hg, fun y => ?_, fun y => ?_, fun y => ?_, fun _ => ?_⟩
      · rw [hd0] at y; cases y
      · rw [hd0] at y; cases y
      · rw [hd0] at y; cases y
      intro pp bb g9 xsA ysA H14 e14' _ _ _ _ _ _ epp ebb egg hxA hyA
      refine ⟨_, rfl, pp, _, _, .ref bb, rfl, rfl, .of epp, rfl, _, rfl, pp, _, _, .ref g9, rfl, rfl, .of epp, rfl, len63 (by show 2 ≤ _; decide), fun w3 hw3 => ?_⟩
      (generalize hh : upd H14 w3 _ = H15; have e15 : Ex H14 H15 := (by rw [← hh]; exact Ex.nw hw3); have c15 := (show H15 w3 = some _ by rw [← hh]; exact upd_same); clear hh)
      have e1315 := e14'.tr e15
      refine ⟨_, rfl, _, _, twoP_dp (K := K) c15 (e15 _ _ ebb) (hxA.ex e15) (e15 _ _ egg) (hyA.ex e15), twoP_dp (K := K) (e1315 _ _ ckp13) (e1315 _ _ ck113) (hx13.ex e1315) (e1315 _ _ ck213) (hy13.ex e1315), shaped_twoP _ _, shaped_twoP _ _, ?_⟩
      rw [eqv_of_shaped (shaped_twoP _ _)]
      exact q _
--@split
/-! ### the law -/
theorem kinds_in {ps us : List (Int × Int)} (h : lacks ps us = false) : ∀ u ∈ us, u.1 ∈ ps.map fun p => p.1 := fun u hu => by
  unfold lacks at h
  rw [List.any_eq_false] at h
  simpa using h u hu
/-- a value, told once -/
theorem seq_asg {t : TE} {g : TG} {s2 : TS} {D : Ends} {σ : L2.St} {H : Hp} (C : V → Hp → Prop) (ht : ∀ Q : VK, (∀ v H', C v H' → Q v H') → t σ H Q) (hf : ∀ v H', C v H' → g v σ H' (s2 D)) : tSeq (tAsg t g) s2 D σ H := ht _ hf
def spLaw (K : PySem.W.Frag) : Sp := fun vs H Q _ => ∃ (a : Addr) (ns : List Int), vs = [.ref a] ∧ SqL K H a (ns.map V.int) ∧ ∀ H', Q (.bl true) H'
theorem ok_law (T : Tx K mg) : FnOk P w K mg base CX0 9 T.a_law T.d_law P_law (spLaw K) := by
  have G__law_cell_at := ok_cell_at (P := P) (w := w) (base := base) T
  have G__law_till_and_purse := ok_tap (P := P) (w := w) (base := base) T
  have G__law_great := ok_great (P := P) (w := w) (base := base) T
  have G__law_price := ok_price (P := P) (w := w) (base := base) T
  have G__law_deal := ok_dealT (P := P) (w := w) (base := base) T
  have G__law_any := ok_anyD (P := P) (w := w) (base := base) T
  have G__law_total := ok_total (P := P) (w := w) (base := base) T
  have G__law_walks := ok_walks (P := P) (w := w) (base := base) T
  refine T.f_law.ok sc_law (fun vs H Q E h => ?_) (fun cdv A outer s H vs Q E hr h => ?_)
  · obtain ⟨a, ns, rfl, _⟩ := h
    rfl
  · obtain ⟨a, ns, rfl, hS, q⟩ := h
    refine ⟨_, (pss_cons (ps_set (i := 1) sc_law.nd rfl (.inl rfl) (pe_call G__law_till_and_purse (hr.mono (by decide)) (by rfl) T.g__law_till_and_purse T.f__law_till_and_purse.kp T.p__law_till_and_purse .nil pass0 (pa_cons (pv 0) (pa_cons pe_int pa_nil))))
    (pss_cons (ps_set (i := 2) sc_law.nd rfl (.inl rfl) (pe_ix ix_list (pv 1) pe_int (fun _ _ => rfl)))
    (pss_cons (ps_set (i := 3) sc_law.nd rfl (.inl rfl) (pe_ix ix_list (pv 1) pe_int (fun _ _ => rfl)))
    (pss_cons (ps_set (i := 4) sc_law.nd rfl (.inl rfl) (pe_call G__law_cell_at (hr.mono (by decide)) (by rfl) T.g__law_cell_at T.f__law_cell_at.kp T.p__law_cell_at .nil pass0 (pa_cons (pv 0) (pa_cons pe_int pa_nil))))
    (Evl.pss_cut (ps_if (PW.pt (pw_and (pt_cmpR op_eq (pe_op op_mod (pe_call G__law_cell_at (hr.mono (by decide)) (by rfl) T.g__law_cell_at T.f__law_cell_at.kp T.p__law_cell_at .nil pass0 (pa_cons (pv 0) (pa_cons pe_int pa_nil))) pe_int) pe_int (nomark _)) (pw_and1 (pt_cmpR op_lt (pe_callB call_len_seq (by rfl) T.m_len (by decide +kernel) (pa_cons (pv 2) pa_nil)) pe_int (nomark _)))))
      (pss_cons (ps_set (i := 1) sc_law.nd rfl (.inl rfl) (pe_call G__law_great (hr.mono (by decide)) (by rfl) T.g__law_great T.f__law_great.kp T.p__law_great .nil pass0 (pa_cons (pv 2) (pa_cons (pv 3) (pa_cons (pe_op op_fdiv (pe_call G__law_cell_at (hr.mono (by decide)) (by rfl) T.g__law_cell_at T.f__law_cell_at.kp T.p__law_cell_at .nil pass0 (pa_cons (pv 0) (pa_cons pe_int pa_nil))) pe_int) pa_nil)))))
      (pss_cons (ps_set (i := 2) sc_law.nd rfl (.inl rfl) (pe_ix ix_list (pv 1) pe_int (fun _ _ => rfl)))
      (pss_one (ps_set (i := 3) sc_law.nd rfl (.inl rfl) (pe_ix ix_list (pv 1) pe_int (fun _ _ => rfl))))))
      pss_nil)
    (pss_cons (ps_set (i := 5) sc_law.nd rfl (.inl rfl) (pe_call G__law_price (hr.mono (by decide)) (by rfl) T.g__law_price T.f__law_price.kp T.p__law_price .nil pass0 (pa_cons (pv 2) (pa_cons (pv 3) (pa_cons (pe_call G__law_cell_at (hr.mono (by decide)) (by rfl) T.g__law_cell_at T.f__law_cell_at.kp T.p__law_cell_at .nil pass0 (pa_cons (pv 0) (pa_cons pe_int pa_nil))) pa_nil)))))
    (Evl.pss_cut (ps_if (pt_cmpR op_eq (pe_op op_mod (pv 4) pe_int) pe_int (nomark _))
      (pss_one (ps_set (i := 5) sc_law.nd rfl (.inl rfl) (pe_op op_mod (pe_ix ix_list (pe_lst (pa_cons (pe_op op_mod (pe_op op_fdiv (pv 4) pe_int) pe_int) (pa_cons (pe_op op_mod (pe_op op_fdiv (pv 4) pe_int) pe_int) (pa_cons (pe_op op_add (pv 5) pe_int) pa_nil)))) (pe_op op_mod (pe_op op_fdiv (pv 4) pe_int) pe_int) (fun _ _ => rfl)) pe_int)))
      pss_nil)
    (Evl.pss_cut (ps_if (PW.pt (pw_or (pt_cmpR op_eq (pe_op op_mod (pv 4) pe_int) pe_int (nomark _)) (pw_or1 (pt_cmpR op_eq (pe_op op_mod (pv 4) pe_int) pe_int (nomark _)))))
      (pss_cons (ps_set (i := 6) sc_law.nd rfl (.inl rfl) (pe_op op_mod (pe_op op_fdiv (pv 4) pe_int) (pe_op op_pow pe_int pe_int)))
      (pss_one (ps_set (i := 5) sc_law.nd rfl (.inl rfl) (pe_ix ix_list (pe_lst (pa_cons (pe_un un_neg pe_int) (pa_cons pe_int (pa_cons (pe_op op_sub (pe_un un_neg pe_int) (pv 6)) (pa_cons (pe_op op_add pe_int (pv 6)) pa_nil))))) (pe_op op_mod (pe_op op_fdiv (pv 4) pe_int) pe_int) (fun _ _ => rfl)))))
      pss_nil)
    (pss_cons (ps_set (i := 7) sc_law.nd rfl (.inl rfl) (pe_and (pe_cmpR op_eq (pe_op op_mod (pv 4) pe_int) pe_int (nomark _)) (pe_one (pe_cmpR op_notIn_seq pe_int (pe_lc (own := [("_law_pair", 10)]) (g := gName 10) rfl sc_law.nd (pi_list (pv 2)) (blkOk_by (own := [("_law_pair", 10)]) (N := N_law) (sc := defScope s_law) (by decide +kernel)) (fun _ _ _ _ _ => pg_name (i := 10) sc_law.nd rfl (.inl rfl) (.inr rfl)) (fun _ _ _ _ _ => pts_nil) (fun _ _ _ _ _ => (pe_ix (r := rIxT K) ix_tup (pv 10) pe_int (fun _ _ => rfl)))) (by rfl)))))
    (Evl.pss_cut (ps_if (pt_val (pv 7))
      (pss_one (ps_set (i := 3) sc_law.nd rfl (.inl rfl) (pe_op op_cat (pv 3) (pe_lst (pa_cons (pe_tup (pa_cons pe_int (pa_cons (pe_op op_mod (pe_op op_fdiv (pv 4) pe_int) pe_int) pa_nil))) pa_nil)))))
      pss_nil)
    (pss_cons (ps_set (i := 8) sc_law.nd rfl (.inl rfl) (pe_lst (pa_cons (pe_callTy call_list_of (by rfl) T.m_list (by decide +kernel) (pa_cons (pv 2) pa_nil)) (pa_cons (pe_callTy call_list_of (by rfl) T.m_list (by decide +kernel) (pa_cons (pv 3) pa_nil)) pa_nil))))
    (pss_cons (ps_set (i := 9) sc_law.nd rfl (.inl rfl) (pe_call G__law_deal (hr.mono (by decide)) (by rfl) T.g__law_deal T.f__law_deal.kp T.p__law_deal .nil pass0 (pa_cons (pe_ix ix_list (pv 8) pe_int (fun _ _ => rfl)) (pa_cons (pe_ix ix_list (pv 8) pe_int (fun _ _ => rfl)) (pa_cons (pv 5) pa_nil)))))
    (pss_cons (ps_if (PW.pt (pw_or (pt_cmpR (op_neD hr.units) (pv 8) (pe_lst (pa_cons (pv 2) (pa_cons (pv 3) pa_nil))) (nomark _)) (pw_or1 (pt_cmpR op_ne (pe_call G__law_any (hr.mono (by decide)) (by rfl) T.g__law_any T.f__law_any.kp T.p__law_any .nil pass0 (pa_cons (pe_ix ix_list (pv 8) pe_int (fun _ _ => rfl)) (pa_cons (pe_ix ix_list (pv 8) pe_int (fun _ _ => rfl)) (pa_cons (pv 5) pa_nil)))) (pe_cmpR op_ne (pe_ix ix_list (pv 9) pe_int (fun _ _ => rfl)) pe_str (nomark _)) (nomark _)))))
      (pss_one (ps_ret pe_bl))
      pss_nil)
    (pss_cons (ps_if (PW.pt (pw_or (pt_cmpR op_lt (pv 5) pe_int (nomark _)) (pw_or1 (pt_cmpR op_gt (pv 5) pe_int (nomark _)))))
      (pss_one (ps_ret (pe_cmpR op_eq (pe_ix ix_list (pv 9) pe_int (fun _ _ => rfl)) pe_str (nomark _))))
      pss_nil)
    (pss_cons (ps_if (pt_val (pv 7))
      (pss_one (ps_ret (pe_cmpR op_eq (pe_ix ix_list (pv 9) pe_int (fun _ _ => rfl)) pe_str (nomark _))))
      pss_nil)
    (pss_cons (ps_if (pt_cmpR op_gt (pe_op op_add (pe_call G__law_total (hr.mono (by decide)) (by rfl) T.g__law_total T.f__law_total.kp T.p__law_total .nil pass0 (pa_cons (pv 2) pa_nil)) (pe_call G__law_total (hr.mono (by decide)) (by rfl) T.g__law_total T.f__law_total.kp T.p__law_total .nil pass0 (pa_cons (pv 3) pa_nil))) pe_int (nomark _))
      (pss_one (ps_ret (pe_cmpR op_eq (pe_ix ix_list (pv 9) pe_int (fun _ _ => rfl)) pe_str (nomark _))))
      pss_nil)
    (pss_one (ps_ret (pe_call G__law_walks (hr.mono (by decide)) (by rfl) T.g__law_walks T.f__law_walks.kp T.p__law_walks .nil pass0 (pa_cons (pv 2) (pa_cons (pv 3) (pa_cons (pv 5) (pa_cons (pv 8) (pa_cons (pv 9) pa_nil)))))))))))))))))))))))), ?_⟩
    refine ⟨_, rfl, a, ns, 6, rfl, hS, by decide, by decide, fun l0 t0 u0 xs0 ys0 ps0 us0 H1 e1 hl0 el0 ht0 hu0 n1 n2 n3 et0 eu0 hp0 hq0 r1 r2 hd2 h1 h10 _ => ?_⟩
    have hl0' := hp0.len
    refine ⟨_, rfl, l0, _, _, .ref t0, rfl, rfl, .of el0, rfl, ?_⟩
    refine ⟨_, rfl, l0, _, _, .ref u0, rfl, rfl, .of el0, rfl, ?_⟩
    refine ⟨_, rfl, a, ns, 3, rfl, e1.seq hS, ?_⟩
    refine ⟨fun σ' H' => ∃ (l t u : Addr) (xs ys : List V) (ps us : List (Int × Int)), σ' = [some (.ref a), some (.ref l), some (.ref t), some (.ref u), some (.int (cell ns 3)), none, none, none, none, none, none] ∧ Ex H H' ∧ H' t = some (.lst xs) ∧ H' u = some (.lst ys) ∧ Prs H' xs ps ∧ Prs H' ys us ∧ Gen3 ps us, ?_, ?_⟩
    · have stay : ∃ (l t u : Addr) (xs ys : List V) (ps us : List (Int × Int)), [some (V.ref a), some (.ref l0), some (.ref t0), some (.ref u0), some (.int (cell ns 3)), none, none, none, none, none, none] = [some (V.ref a), some (.ref l), some (.ref t), some (.ref u), some (.int (cell ns 3)), none, none, none, none, none, none] ∧ Ex H H1 ∧ H1 t = some (.lst xs) ∧ H1 u = some (.lst ys) ∧ Prs H1 xs ps ∧ Prs H1 ys us ∧ Gen3 ps us := by
        refine ⟨l0, t0, u0, xs0, ys0, ps0, us0, rfl, e1, et0, eu0, hp0, hq0, ⟨⟨r1, r2, fun p hp => ?_, fun p hp => ?_, ⟨h1, by omega⟩, by have := hd2.few; omega⟩, ⟨r1, fun p hp => ?_, fun p hp => ?_, ⟨h1, h10⟩⟩, lacks_no fun p hp => ?_, by have := hd2.few; omega⟩⟩
        · have := hd2.val p hp
          exact ⟨this.1, by omega, this.2.2.1, by omega⟩
        · obtain ⟨⟨c', h1⟩, h2, h3⟩ := hd2.own p hp
          have := hd2.val _ h1
          exact ⟨this.1, by have := this.2.1; omega, h2, by omega⟩
        · have := hd2.val p hp
          exact ⟨this.1, this.2.1⟩
        · have := hd2.val p hp
          exact ⟨this.2.2.1, by omega⟩
        · obtain ⟨⟨c', h1⟩, _⟩ := hd2.own p hp
          exact List.mem_map.mpr ⟨_, h1, rfl⟩
      refine ⟨_, rfl, a, ns, 5, rfl, e1.seq hS, _, _, rfl, rfl, by show (0 : Int) < 12; decide, rfl, _, rfl, iteVI (fun _ => ?_) (fun _ => stay)⟩
      refine ⟨_, rfl, t0, xs0, rfl, .inl (.of et0), _, _, rfl, rfl, _, rfl, iteD (fun e => ?_) (fun _ => stay)⟩
      have e' : (xs0.length : Int) < 5 := e
      refine ⟨_, rfl, _, rfl, _, rfl, a, ns, 5, rfl, e1.seq hS, _, _, rfl, rfl, ⟨by decide, by decide⟩, t0, u0, _, xs0, ys0, ps0, us0, rfl, et0, eu0, hp0, hq0, r1, r2, hd2, h1, by omega, fun l t u xs ys ps us H2 e2 hl el et eu hp hq hg => ?_⟩
      refine ⟨_, rfl, l, _, _, .ref t, rfl, rfl, .of el, rfl, ?_⟩
      exact ⟨_, rfl, l, _, _, .ref u, rfl, rfl, .of el, rfl, l, t, u, xs, ys, ps, us, rfl, e1.tr e2, et, eu, hp, hq, hg⟩
    rintro σ' H2 ⟨l, t, u, xs, ys, ps, us, rfl, e2, et, eu, hp, hq, ⟨hg, hT, hk, hu11⟩⟩
    clear n1 n2 n3 r1 r2 hd2 h1 h10 ht0 hu0 et0 eu0 hp0 hq0 hl0'
    have hxl := hp.len
    have hlp := hT.len
    have hlu := hg.lu
    -- the price
    refine ⟨_, rfl, _, rfl, _, rfl, a, ns, 4, rfl, e2.seq hS, t, u, ps, us, _, rfl, ⟨xs, .of et, hp⟩, ⟨ys, .of eu, hq⟩, by omega, by omega, fun p hp => by have := hg.vu p hp; omega, fun c0 => ?_⟩
    refine ⟨fun σ' H' => ∃ c : Int, σ' = [some (.ref a), some (.ref l), some (.ref t), some (.ref u), some (.int (cell ns 3)), some (.int c), none, none, none, none, none] ∧ Ex H2 H', ?_, ?_⟩
    · have d1 : 0 ≤ cell ns 3 / 4 % 3 := Int.emod_nonneg _ (by decide)
      have d2 : cell ns 3 / 4 % 3 < 3 := Int.emod_lt_of_pos _ (by decide)
      repeat (first | refine ⟨_, rfl, ?_⟩ | refine ⟨(by show (0 : Int) < _; decide), ?_⟩ | refine ⟨⟨by decide, by decide⟩, ?_⟩ | refine ⟨.inr ⟨by decide, by decide⟩, ?_⟩ | refine ⟨.inl ⟨by decide, by decide⟩, ?_⟩ | refine ⟨⟨by decide, by decide, by decide⟩, ?_⟩ | refine ⟨_, _, rfl, rfl, ?_⟩ | refine ⟨rfl, _, rfl, ?_⟩)
      first | refine iteVI (fun e => ?_) (fun e => ?_) | refine iteVN (fun e => ?_) (fun e => ?_) | refine iteD (fun e => ?_) (fun e => ?_) | refine iteDN (fun e => ?_) (fun e => ?_) | refine iteB (fun e => ?_) (fun e => ?_)
      · repeat (first | refine ⟨_, rfl, ?_⟩ | refine ⟨(by show (0 : Int) < _; decide), ?_⟩ | refine ⟨⟨by decide, by decide⟩, ?_⟩ | refine ⟨.inr ⟨by decide, by decide⟩, ?_⟩ | refine ⟨.inl ⟨by decide, by decide⟩, ?_⟩ | refine ⟨⟨by decide, by decide, by decide⟩, ?_⟩ | refine ⟨_, _, rfl, rfl, ?_⟩ | refine ⟨rfl, _, rfl, ?_⟩)
        refine ⟨len63 (by show 3 ≤ _; decide), fun m hm => ?_⟩
        (generalize hh : upd H2 m _ = H3; have e3 : Ex H2 H3 := (by rw [← hh]; exact Ex.nw hm); have cm := (show H3 m = some _ by rw [← hh]; exact upd_same); clear hh)
        repeat (first | refine ⟨_, rfl, ?_⟩ | refine ⟨(by show (0 : Int) < _; decide), ?_⟩ | refine ⟨⟨by decide, by decide⟩, ?_⟩ | refine ⟨.inr ⟨by decide, by decide⟩, ?_⟩ | refine ⟨.inl ⟨by decide, by decide⟩, ?_⟩ | refine ⟨⟨by decide, by decide, by decide⟩, ?_⟩ | refine ⟨_, _, rfl, rfl, ?_⟩ | refine ⟨rfl, _, rfl, ?_⟩)
        refine ⟨m, [cell ns 3 / 12 % 101, cell ns 3 / 12 % 1001, c0 + 1].map V.int, _, _, rfl, rfl, .of cm, menu_at rfl d1 d2, ?_⟩
        repeat (first | refine ⟨_, rfl, ?_⟩ | refine ⟨(by show (0 : Int) < _; decide), ?_⟩ | refine ⟨⟨by decide, by decide⟩, ?_⟩ | refine ⟨.inr ⟨by decide, by decide⟩, ?_⟩ | refine ⟨.inl ⟨by decide, by decide⟩, ?_⟩ | refine ⟨⟨by decide, by decide, by decide⟩, ?_⟩ | refine ⟨_, _, rfl, rfl, ?_⟩ | refine ⟨rfl, _, rfl, ?_⟩)
        exact e3
      · exact ⟨_, rfl, Ex.rfl'⟩
    rintro σ' H3 ⟨c1, rfl, e3⟩
    refine ⟨fun σ' H' => ∃ (c : Int) (y6 : Option V), σ' = [some (.ref a), some (.ref l), some (.ref t), some (.ref u), some (.int (cell ns 3)), some (.int c), y6, none, none, none, none] ∧ Ex H3 H', ?_, ?_⟩
    · have d1 : 0 ≤ cell ns 3 / 16 % 4 := Int.emod_nonneg _ (by decide)
      have d2 : cell ns 3 / 16 % 4 < 4 := Int.emod_lt_of_pos _ (by decide)
      refine ⟨_, rfl, _, _, rfl, rfl, by show (0 : Int) < 16; decide, rfl, _, rfl, iteVI (fun _ => iteT ?_) (fun _ => ?_)⟩
      · repeat (first | refine ⟨_, rfl, ?_⟩ | refine ⟨(by show (0 : Int) < _; decide), ?_⟩ | refine ⟨⟨by decide, by decide⟩, ?_⟩ | refine ⟨.inr ⟨by decide, by decide⟩, ?_⟩ | refine ⟨.inl ⟨by decide, by decide⟩, ?_⟩ | refine ⟨⟨by decide, by decide, by decide⟩, ?_⟩ | refine ⟨_, _, rfl, rfl, ?_⟩ | refine ⟨rfl, _, rfl, ?_⟩)
        refine ⟨len63 (by show 4 ≤ _; decide), fun m hm => ?_⟩
        (generalize hh : upd H3 m _ = H4; have e4 : Ex H3 H4 := (by rw [← hh]; exact Ex.nw hm); have cm := (show H4 m = some _ by rw [← hh]; exact upd_same); clear hh)
        repeat (first | refine ⟨_, rfl, ?_⟩ | refine ⟨(by show (0 : Int) < _; decide), ?_⟩ | refine ⟨⟨by decide, by decide⟩, ?_⟩ | refine ⟨.inr ⟨by decide, by decide⟩, ?_⟩ | refine ⟨.inl ⟨by decide, by decide⟩, ?_⟩ | refine ⟨⟨by decide, by decide, by decide⟩, ?_⟩ | refine ⟨_, _, rfl, rfl, ?_⟩ | refine ⟨rfl, _, rfl, ?_⟩)
        refine ⟨m, [-1, 1001, -2 - cell ns 3 / 64 % 10 ^ (9 : Int).toNat, 1002 + cell ns 3 / 64 % 10 ^ (9 : Int).toNat].map V.int, _, _, rfl, rfl, .of cm, menu_at rfl d1 d2, ?_⟩
        exact ⟨_, _, rfl, e4⟩
      refine ⟨_, rfl, _, _, rfl, rfl, by show (0 : Int) < 32; decide, rfl, _, rfl, iteVI (fun _ => ?_) (fun _ => ?_)⟩
      · repeat (first | refine ⟨_, rfl, ?_⟩ | refine ⟨(by show (0 : Int) < _; decide), ?_⟩ | refine ⟨⟨by decide, by decide⟩, ?_⟩ | refine ⟨.inr ⟨by decide, by decide⟩, ?_⟩ | refine ⟨.inl ⟨by decide, by decide⟩, ?_⟩ | refine ⟨⟨by decide, by decide, by decide⟩, ?_⟩ | refine ⟨_, _, rfl, rfl, ?_⟩ | refine ⟨rfl, _, rfl, ?_⟩)
        refine ⟨len63 (by show 4 ≤ _; decide), fun m hm => ?_⟩
        (generalize hh : upd H3 m _ = H4; have e4 : Ex H3 H4 := (by rw [← hh]; exact Ex.nw hm); have cm := (show H4 m = some _ by rw [← hh]; exact upd_same); clear hh)
        repeat (first | refine ⟨_, rfl, ?_⟩ | refine ⟨(by show (0 : Int) < _; decide), ?_⟩ | refine ⟨⟨by decide, by decide⟩, ?_⟩ | refine ⟨.inr ⟨by decide, by decide⟩, ?_⟩ | refine ⟨.inl ⟨by decide, by decide⟩, ?_⟩ | refine ⟨⟨by decide, by decide, by decide⟩, ?_⟩ | refine ⟨_, _, rfl, rfl, ?_⟩ | refine ⟨rfl, _, rfl, ?_⟩)
        refine ⟨m, [-1, 1001, -2 - cell ns 3 / 64 % 10 ^ (9 : Int).toNat, 1002 + cell ns 3 / 64 % 10 ^ (9 : Int).toNat].map V.int, _, _, rfl, rfl, .of cm, menu_at rfl d1 d2, ?_⟩
        exact ⟨_, _, rfl, e4⟩
      · exact ⟨_, _, rfl, Ex.rfl'⟩
    rintro σ' H4 ⟨c, y6, rfl, e4⟩
    have e24 := e3.tr e4
    have et4 := e24 _ _ et
    have eu4 := e24 _ _ eu
    have hp4 := hp.ex e24
    have hq4 := hq.ex e24
    -- another kind in the purse
    refine seq_asg (C := fun v H' => ∃ b : Bool, v = .bl b ∧ Ex H4 H' ∧ (b = true → ¬ (1000 : Int) ∈ ps.map fun p => p.1)) (fun Q hq => ?_) ?_
    · refine ⟨_, rfl, _, _, rfl, rfl, by show (0 : Int) < 16; decide, rfl, decide (V.int (cell ns 3 % 16) = V.int 7), rfl, iteVI (fun h7 => ?_) (fun h7 => ?_)⟩
      · refine ⟨_, rfl, t, rfl, ⟨xs, .of et4⟩, fun D hD => lc_list (xs := xs) (fun i H' => Ex H4 H' ∧ H' D = some (.lst ((ps.take i).map fun p => V.int p.1))) ⟨Ex.nw hD, upd_same⟩ (fun i H' _ h => .of (h.1 _ _ et4)) ?_ ?_⟩
        · rintro i x H' hx ⟨ex2, eD⟩
          obtain ⟨p, t2, h1, rfl, h3⟩ := Prs.get hp4 hx
          refine ⟨rfl, t_yes ?_⟩
          refine ⟨_, rfl, t2, _, 0, .int p.1, rfl, rfl, .of (ex2 _ _ h3), rfl, _, eD, len63' (by rw [List.length_map, List.length_take]; omega), Ex.mu ex2 hD, ?_⟩
          rw [upd_same, take_succ_map _ h1]
        · rintro H5 ⟨ex2, eD⟩
          rw [List.take_of_length_le (by omega), fst_ints] at eD
          refine ⟨D, _, rfl, .inl (.of eD), rfl, flat_ints _, ?_⟩
          rw [show (if true = true then !inV (.int 1000) ((ps.map fun p : Int × Int => p.1).map V.int) else inV (.int 1000) ((ps.map fun p : Int × Int => p.1).map V.int)) = !decide ((1000 : Int) ∈ ps.map fun p : Int × Int => p.1) by rw [if_pos rfl, inV_int]]
          exact hq _ _ ⟨_, rfl, ex2, fun h => by simpa using h⟩
      · exact hq _ _ ⟨_, rfl, Ex.rfl', fun h => nomatch h⟩
    rintro v H5 ⟨b, rfl, e5, hb5⟩
    have et5 := e5 _ _ et4
    have eu5 := e5 _ _ eu4
    have hp5 := hp4.ex e5
    have hq5 := hq4.ex e5
    refine ⟨fun σ' H' => ∃ (u' : Addr) (ys' : List V) (us' : List (Int × Int)), σ' = [some (.ref a), some (.ref l), some (.ref t), some (.ref u'), some (.int (cell ns 3)), some (.int c), y6, some (.bl b), none, none, none] ∧ Ex H5 H' ∧ H' u' = some (.lst ys') ∧ Prs H' ys' us' ∧ Gen2 ps us' ∧ lacks ps us' = b, ?_, ?_⟩
    · refine ⟨_, rfl, b, rfl, iteB (fun hb => ?_) (fun hb => ?_)⟩
      · have w1 : 0 ≤ cell ns 3 / 16 % 3 := Int.emod_nonneg _ (by decide)
        have w2 : cell ns 3 / 16 % 3 < 3 := Int.emod_lt_of_pos _ (by decide)
        have hno := hb5 hb
        refine ⟨_, rfl, _, rfl, _, _, rfl, rfl, ⟨by decide, by decide⟩, _, _, rfl, rfl, by show (0 : Int) < 3; decide, len63 (by show 2 ≤ _; decide), fun t1 ht1 => ?_⟩
        (generalize hh : upd H5 t1 _ = H6; have e6 : Ex H5 H6 := (by rw [← hh]; exact Ex.nw ht1); have c6 := (show H6 t1 = some _ by rw [← hh]; exact upd_same); clear hh)
        refine ⟨len63 (by show 1 ≤ _; decide), fun l1 hl1 => ?_⟩
        (generalize hh : upd H6 l1 _ = H7; have e7 : Ex H6 H7 := (by rw [← hh]; exact Ex.nw hl1); have c7 := (show H7 l1 = some _ by rw [← hh]; exact upd_same); clear hh)
        have e57 := e6.tr e7
        refine ⟨u, l1, _, _, rfl, rfl, e57 _ _ eu5, c7, len63 (by have := hq.len; show ys.length + 1 ≤ _; omega), fun l2 hl2 => ?_⟩
        (generalize hh : upd H7 l2 _ = H8; have e8 : Ex H7 H8 := (by rw [← hh]; exact Ex.nw hl2); have c8 := (show H8 l2 = some _ by rw [← hh]; exact upd_same); clear hh)
        have e58 := e57.tr e8
        have hin := kinds_in hk
        refine ⟨l2, _, us ++ [(1000, cell ns 3 / 16 % 3)], rfl, e58, c8, Prs.snoc (hq5.ex e58) ⟨t1, rfl, e8 _ _ (e7 _ _ c6)⟩, ⟨hg.rp, ?_, hg.vp, fun p hp => ?_, hg.lp, ?_⟩, ?_⟩
        · unfold Rising
          rw [List.pairwise_append]
          refine ⟨hg.ru, List.pairwise_singleton .., fun x hx y hy => ?_⟩
          rw [List.mem_singleton.mp hy]
          have h1 := hin x hx
          obtain ⟨r, hr, hr2⟩ := List.mem_map.mp h1
          have h2 := hT.val r hr
          have h3 : x.1 ≠ 1000 := fun z => hno (by rw [← z]; exact h1)
          show x.1 < 1000
          have hr3 : r.1 = x.1 := hr2
          omega
        · rcases List.mem_append.mp hp with h | h
          · exact hg.vu p h
          · rw [List.mem_singleton.mp h]
            exact ⟨by show (1 : Int) ≤ 1000; decide, by show (1000 : Int) ≤ 5000; decide, w1, by show cell ns 3 / 16 % 3 ≤ 2000000; omega⟩
        · rw [List.length_append]
          show us.length + 1 ≤ 12
          omega
        · rw [hb]
          unfold lacks
          rw [List.any_eq_true]
          exact ⟨(1000, cell ns 3 / 16 % 3), List.mem_append.mpr (.inr (List.mem_singleton.mpr rfl)), by rw [decide_eq_false hno]; rfl⟩
      · exact ⟨u, ys, us, rfl, Ex.rfl', eu5, hq5, hg, by rw [hb]; exact hk⟩
    clear eu4 eu5 hq4 hq5 hk hu11 hlu hb5
    rintro σ' H6 ⟨u2, ys2, us2, rfl, e6, eu6, hq6, hg2, hlk⟩
    have et6 := e6 _ _ et5
    have hp6 := hp5.ex e6
    -- handed in
    refine ⟨_, rfl, t, xs, rfl, .inl (.of et6), fun b1 hb1 => ?_⟩
    (generalize hh : upd H6 b1 _ = H7; have e7 : Ex H6 H7 := (by rw [← hh]; exact Ex.nw hb1); have cb1 := (show H7 b1 = some _ by rw [← hh]; exact upd_same); clear hh)
    refine ⟨_, rfl, u2, _, rfl, .inl (.of (e7 _ _ eu6)), fun b2 hb2 => ?_⟩
    (generalize hh : upd H7 b2 _ = H8; have e8 : Ex H7 H8 := (by rw [← hh]; exact Ex.nw hb2); have cb2 := (show H8 b2 = some _ by rw [← hh]; exact upd_same); clear hh)
    refine ⟨len63 (by show 2 ≤ _; decide), fun hd hhd => ?_⟩
    (generalize hh : upd H8 hd _ = H9; have e9 : Ex H8 H9 := (by rw [← hh]; exact Ex.nw hhd); have chd := (show H9 hd = some _ by rw [← hh]; exact upd_same); clear hh)
    have e69 := (e7.tr e8).tr e9
    have et9 := e69 _ _ et6
    have eu9 := e69 _ _ eu6
    have hp9 := hp6.ex e69
    have hq9 := hq6.ex e69
    have cb19 := e9 _ _ (e8 _ _ cb1)
    have cb29 := e9 _ _ cb2
    refine ⟨_, rfl, hd, _, _, .ref b1, rfl, rfl, .of chd, rfl, _, rfl, hd, _, _, .ref b2, rfl, rfl, .of chd, rfl, _, rfl, b1, b2, ps, us2, c, rfl, ⟨xs, .of cb19, hp9⟩, ⟨ys2, .of cb29, hq9⟩, hg2, fun l9 v H10 e10 el10 hdf => ?_⟩
    -- they stay, and the same refusal
    refine ⟨_, rfl, _, rfl, _, rfl, len63 (by show 2 ≤ _; decide), fun w1 hw1 => ?_⟩
    (generalize hh : upd H10 w1 _ = H11; have e11 : Ex H10 H11 := (by rw [← hh]; exact Ex.nw hw1); have cw1 := (show H11 w1 = some _ by rw [← hh]; exact upd_same); clear hh)
    have e911 := e10.tr e11
    refine ⟨_, _, twoP_dp (K := K) (e911 _ _ chd) (e911 _ _ cb19) (hp9.ex e911) (e911 _ _ cb29) (hq9.ex e911), twoP_dp (K := K) cw1 (e911 _ _ et9) (hp9.ex e911) (e911 _ _ eu9) (hq9.ex e911), shaped_twoP _ _, shaped_twoP _ _, ?_⟩
    rw [eqv_of_shaped (shaped_twoP _ _)]
    refine ⟨_, rfl, iteF ?_⟩
    have chd11 := e911 _ _ chd
    refine ⟨_, rfl, hd, _, _, .ref b1, rfl, rfl, .of chd11, rfl, _, rfl, hd, _, _, .ref b2, rfl, rfl, .of chd11, rfl, _, rfl, b1, b2, ps, us2, c, rfl, ⟨xs, .of (e911 _ _ cb19), hp9.ex e911⟩, ⟨ys2, .of (e911 _ _ cb29), hq9.ex e911⟩, hg2, fun H12 e12 => ?_⟩
    have el12 := e12 _ _ (e11 _ _ el10)
    have e912 := e911.tr e12
    refine ⟨_, rfl, l9, _, _, _, rfl, rfl, .of el12, rfl, rfl, rfl, _, rfl, iteB (fun y => ?_) (fun _ => ?_)⟩
    · have y' : (!decide (V.bl (!decide (dueDl ps us2 c = "")) = V.bl (!decide (V.str (dueDl ps us2 c) = V.str "")))) = true := y
      have e : decide (V.str (dueDl ps us2 c) = V.str "") = decide (dueDl ps us2 c = "") := by
        by_cases h : dueDl ps us2 c = ""
        · rw [decide_eq_true h, decide_eq_true (congrArg V.str h)]
        · rw [decide_eq_false h, decide_eq_false fun z => h (V.str.inj z)]
      rw [e, decide_eq_true rfl] at y'
      exact absurd y' (by decide)
    by_cases hc : 0 ≤ c ∧ c ≤ 1000
    case neg =>
      have hd0 : dueDl ps us2 c = "sum" := by
        unfold dueDl
        rw [if_neg hc]
      rw [hd0] at el12
      have ret : ∀ Q : Bool → Hp → Prop, True := fun _ => trivial
      refine ⟨_, rfl, _, _, rfl, rfl, _, rfl, iteD (fun _ => iteT ?_) (fun z => ?_)⟩
      · refine ⟨_, rfl, l9, _, _, _, rfl, rfl, .of el12, rfl, rfl, ?_⟩
        rw [decide_eq_true rfl]
        exact q _
      · have z' : ¬ c < 0 := z
        refine ⟨_, rfl, _, _, rfl, rfl, _, rfl, iteD (fun _ => ?_) (fun z2 => absurd (show c > 1000 by omega) z2)⟩
        refine ⟨_, rfl, l9, _, _, _, rfl, rfl, .of el12, rfl, rfl, ?_⟩
        rw [decide_eq_true rfl]
        exact q _
    refine ⟨_, rfl, _, _, rfl, rfl, _, rfl, iteD (fun z => absurd (show c < 0 from z) (by omega)) (fun _ => ?_)⟩
    refine ⟨_, rfl, _, _, rfl, rfl, _, rfl, iteD (fun z => absurd (show c > 1000 from z) (by omega)) (fun _ => ?_)⟩
    refine ⟨_, rfl, b, rfl, iteB (fun hb => ?_) (fun hb => ?_)⟩
    · have hd0 : dueDl ps us2 c = "kind" := by
        have h1 : dueS ps us2 = "kind" := by
          unfold dueS
          rw [hlk, if_pos hb]
        unfold dueDl
        rw [if_pos hc, h1, if_neg (by decide)]
      rw [hd0] at el12
      refine ⟨_, rfl, l9, _, _, _, rfl, rfl, .of el12, rfl, rfl, ?_⟩
      rw [decide_eq_true rfl]
      exact q _
    have hlk' : ¬ lacks ps us2 = true := by rw [hlk, hb]; decide
    refine ⟨_, rfl, t, ps, rfl, ⟨xs, .of (e912 _ _ et9), hp9.ex e912⟩, fun p hp => by have := hg2.vp p hp; omega, _, rfl, u2, us2, rfl, ⟨ys2, .of (e912 _ _ eu9), hq9.ex e912⟩, fun p hp => by have := hg2.vu p hp; omega, _, _, rfl, rfl, ?_⟩
    refine ⟨_, _, rfl, rfl, _, rfl, iteD (fun e => ?_) (fun e => ?_)⟩
    · have e' : worthP ps + worthP us2 > 1500 := e
      have hd0 : dueDl ps us2 c = "sum" := by
        have h1 : dueS ps us2 = "sum" := by
          unfold dueS
          rw [if_neg hlk', if_pos (by omega)]
        unfold dueDl
        rw [if_pos hc, h1, if_neg (by decide)]
      rw [hd0] at el12
      refine ⟨_, rfl, l9, _, _, _, rfl, rfl, .of el12, rfl, rfl, ?_⟩
      rw [decide_eq_true rfl]
      exact q _
    have e' : ¬ worthP ps + worthP us2 > 1500 := e
    have hdue : dueS ps us2 = "" := by
      unfold dueS
      rw [if_neg hlk', if_neg (by omega)]
    refine ⟨_, rfl, _, rfl, _, rfl, _, rfl, _, rfl, t, u2, hd, b1, b2, l9, v, xs, ys2, ps, us2, c, H9, rfl, e912, et9, eu9, chd, cb19, cb29, hp9, hq9, hg2, hT, hdue, hc, el12, ?_, fun H13 => q _⟩
    intro h
    obtain ⟨p, b', g, xs8, ys8, z1, z2, z3, z4, z5, z6, z7, z8, z9, z10, z11, z12, z13, z14, z15⟩ := hdf h
    have e1012 := e11.tr e12
    exact ⟨p, b', g, xs8, ys8, z1, z2, z3, z4, z5, z6, z7, z8, z9, z10, e1012 _ _ z11, e1012 _ _ z12, e1012 _ _ z13, z14.ex e1012, z15.ex e1012⟩
theorem law_start {K : PySem.W.Frag} {H : Hp} {a : Addr} {ns : List Int} (hl : ns.length ≤ 63) (hO : Only H) (hS : SqL K H a (ns.map V.int)) : spLaw K [.ref a] H (fun v _ => v = .bl true) fun _ _ _ => False :=
  ⟨a, ns, rfl, hS, fun _ => rfl⟩
end
theorem tx_mk {K : PySem.W.Frag} {h : Heap} {mg : Str → Option Value} (X : K.In h) (G : h.Ns mainGlobals mg) {c_TillError : Addr} {c_NoTill : Addr} {c_NoKind : Addr} {c_Twice : Addr} {c_NoCount : Addr} {c_NoSum : Addr} {c_TooLittle : Addr} {c_NoChange : Addr} {c_TooFew : Addr} {c_StillHeld : Addr} {c_NoDeed : Addr} {a_check_count : Addr} {od_0 an_0 : Option Addr} {sl_0 : Array (Option Value)} {oc_0 kV_0 dc_0 pm_0 cd_0 ct_0 : Value} {a_worth : Addr} {od_1 an_1 : Option Addr} {sl_1 : Array (Option Value)} {oc_1 kV_1 dc_1 pm_1 cd_1 ct_1 : Value} {a_count_of : Addr} {od_2 an_2 : Option Addr} {sl_2 : Array (Option Value)} {oc_2 kV_2 dc_2 pm_2 cd_2 ct_2 : Value} {a_check_sum : Addr} {od_3 an_3 : Option Addr} {sl_3 : Array (Option Value)} {oc_3 kV_3 dc_3 pm_3 cd_3 ct_3 : Value} {a_table : Addr} {od_4 an_4 : Option Addr} {sl_4 : Array (Option Value)} {oc_4 kV_4 dc_4 pm_4 cd_4 ct_4 : Value} {a_fewest : Addr} {od_5 an_5 : Option Addr} {sl_5 : Array (Option Value)} {oc_5 kV_5 dc_5 pm_5 cd_5 ct_5 : Value} {a_with_kind : Addr} {od_6 an_6 : Option Addr} {sl_6 : Array (Option Value)} {oc_6 kV_6 dc_6 pm_6 cd_6 ct_6 : Value} {a__bundles : Addr} {od_7 an_7 : Option Addr} {sl_7 : Array (Option Value)} {oc_7 kV_7 dc_7 pm_7 cd_7 ct_7 : Value} {a__with_bundle : Addr} {od_8 an_8 : Option Addr} {sl_8 : Array (Option Value)} {oc_8 kV_8 dc_8 pm_8 cd_8 ct_8 : Value} {a__most_given : Addr} {od_9 an_9 : Option Addr} {sl_9 : Array (Option Value)} {oc_9 kV_9 dc_9 pm_9 cd_9 ct_9 : Value} {a_scales : Addr} {od_10 an_10 : Option Addr} {sl_10 : Array (Option Value)} {oc_10 kV_10 dc_10 pm_10 cd_10 ct_10 : Value} {a_deal : Addr} {od_11 an_11 : Option Addr} {sl_11 : Array (Option Value)} {oc_11 kV_11 dc_11 pm_11 cd_11 ct_11 : Value} {a__check_purse : Addr} {od_12 an_12 : Option Addr} {sl_12 : Array (Option Value)} {oc_12 kV_12 dc_12 pm_12 cd_12 ct_12 : Value} {a__with_numbers : Addr} {od_13 an_13 : Option Addr} {sl_13 : Array (Option Value)} {oc_13 kV_13 dc_13 pm_13 cd_13 ct_13 : Value} {a__best_way : Addr} {od_14 an_14 : Option Addr} {sl_14 : Array (Option Value)} {oc_14 kV_14 dc_14 pm_14 cd_14 ct_14 : Value} {a__greatest_number : Addr} {od_15 an_15 : Option Addr} {sl_15 : Array (Option Value)} {oc_15 kV_15 dc_15 pm_15 cd_15 ct_15 : Value} {a_paid : Addr} {od_16 an_16 : Option Addr} {sl_16 : Array (Option Value)} {oc_16 kV_16 dc_16 pm_16 cd_16 ct_16 : Value} {a_brought : Addr} {od_17 an_17 : Option Addr} {sl_17 : Array (Option Value)} {oc_17 kV_17 dc_17 pm_17 cd_17 ct_17 : Value} {a__with_count : Addr} {od_18 an_18 : Option Addr} {sl_18 : Array (Option Value)} {oc_18 kV_18 dc_18 pm_18 cd_18 ct_18 : Value} {a__law_cell_at : Addr} {od_19 an_19 : Option Addr} {sl_19 : Array (Option Value)} {oc_19 kV_19 dc_19 pm_19 cd_19 ct_19 : Value} {a__law_whole : Addr} {od_20 an_20 : Option Addr} {sl_20 : Array (Option Value)} {oc_20 kV_20 dc_20 pm_20 cd_20 ct_20 : Value} {a__law_mixed : Addr} {od_21 an_21 : Option Addr} {sl_21 : Array (Option Value)} {oc_21 kV_21 dc_21 pm_21 cd_21 ct_21 : Value} {a__law_value : Addr} {od_22 an_22 : Option Addr} {sl_22 : Array (Option Value)} {oc_22 kV_22 dc_22 pm_22 cd_22 ct_22 : Value} {a__law_till_and_purse : Addr} {od_23 an_23 : Option Addr} {sl_23 : Array (Option Value)} {oc_23 kV_23 dc_23 pm_23 cd_23 ct_23 : Value} {a__law_own : Addr} {od_24 an_24 : Option Addr} {sl_24 : Array (Option Value)} {oc_24 kV_24 dc_24 pm_24 cd_24 ct_24 : Value} {a__law_total : Addr} {od_25 an_25 : Option Addr} {sl_25 : Array (Option Value)} {oc_25 kV_25 dc_25 pm_25 cd_25 ct_25 : Value} {a__law_lightest : Addr} {od_26 an_26 : Option Addr} {sl_26 : Array (Option Value)} {oc_26 kV_26 dc_26 pm_26 cd_26 ct_26 : Value} {a__law_row : Addr} {od_27 an_27 : Option Addr} {sl_27 : Array (Option Value)} {oc_27 kV_27 dc_27 pm_27 cd_27 ct_27 : Value} {a__law_scaled : Addr} {od_28 an_28 : Option Addr} {sl_28 : Array (Option Value)} {oc_28 kV_28 dc_28 pm_28 cd_28 ct_28 : Value} {a__law_part : Addr} {od_29 an_29 : Option Addr} {sl_29 : Array (Option Value)} {oc_29 kV_29 dc_29 pm_29 cd_29 ct_29 : Value} {a__law_pieces : Addr} {od_30 an_30 : Option Addr} {sl_30 : Array (Option Value)} {oc_30 kV_30 dc_30 pm_30 cd_30 ct_30 : Value} {a__law_deal : Addr} {od_31 an_31 : Option Addr} {sl_31 : Array (Option Value)} {oc_31 kV_31 dc_31 pm_31 cd_31 ct_31 : Value} {a__law_any : Addr} {od_32 an_32 : Option Addr} {sl_32 : Array (Option Value)} {oc_32 kV_32 dc_32 pm_32 cd_32 ct_32 : Value} {a__law_great : Addr} {od_33 an_33 : Option Addr} {sl_33 : Array (Option Value)} {oc_33 kV_33 dc_33 pm_33 cd_33 ct_33 : Value} {a__law_price : Addr} {od_34 an_34 : Option Addr} {sl_34 : Array (Option Value)} {oc_34 kV_34 dc_34 pm_34 cd_34 ct_34 : Value} {a__law_pays_back : Addr} {od_35 an_35 : Option Addr} {sl_35 : Array (Option Value)} {oc_35 kV_35 dc_35 pm_35 cd_35 ct_35 : Value} {a__law_makes : Addr} {od_36 an_36 : Option Addr} {sl_36 : Array (Option Value)} {oc_36 kV_36 dc_36 pm_36 cd_36 ct_36 : Value} {a__law_exact : Addr} {od_37 an_37 : Option Addr} {sl_37 : Array (Option Value)} {oc_37 kV_37 dc_37 pm_37 cd_37 ct_37 : Value} {a__law_good : Addr} {od_38 an_38 : Option Addr} {sl_38 : Array (Option Value)} {oc_38 kV_38 dc_38 pm_38 cd_38 ct_38 : Value} {a__law_walks : Addr} {od_39 an_39 : Option Addr} {sl_39 : Array (Option Value)} {oc_39 kV_39 dc_39 pm_39 cd_39 ct_39 : Value} {a_law : Addr} {od_40 an_40 : Option Addr} {sl_40 : Array (Option Value)} {oc_40 kV_40 dc_40 pm_40 cd_40 ct_40 : Value} {tk_MOST_COUNT : Tok} {tk_MOST_SUM : Tok} {tk_MOST_WORTH : Tok} {tk_MOST_PAID : Tok}
    (g_TillError : PySem.W.nsIn K mainGlobals "TillError" = some (some (.ref c_TillError)))
    (x_TillError : PySem.W.excIn K c_TillError [.type "ValueError", .type "Exception", .type "BaseException", .type "object"] "ValueError.__new__" = true)
    (k_TillError : PySem.W.keepIn K (.ref c_TillError) = true)
    (b_TillError : PySem.W.subIn K (.ref c_TillError) (.type "BaseException") = some true)
    (t_TillError : PySem.W.typeIn K (.ref c_TillError) = some (.type "type"))
    (i_TillError : PySem.W.isClsIn K c_TillError = true)
    (g_NoTill : PySem.W.nsIn K mainGlobals "NoTill" = some (some (.ref c_NoTill)))
    (x_NoTill : PySem.W.excIn K c_NoTill [.type "ValueError", .type "Exception", .type "BaseException", .type "object"] "ValueError.__new__" = true)
    (k_NoTill : PySem.W.keepIn K (.ref c_NoTill) = true)
    (b_NoTill : PySem.W.subIn K (.ref c_NoTill) (.type "BaseException") = some true)
    (t_NoTill : PySem.W.typeIn K (.ref c_NoTill) = some (.type "type"))
    (i_NoTill : PySem.W.isClsIn K c_NoTill = true)
    (g_NoKind : PySem.W.nsIn K mainGlobals "NoKind" = some (some (.ref c_NoKind)))
    (x_NoKind : PySem.W.excIn K c_NoKind [.type "ValueError", .type "Exception", .type "BaseException", .type "object"] "ValueError.__new__" = true)
    (k_NoKind : PySem.W.keepIn K (.ref c_NoKind) = true)
    (b_NoKind : PySem.W.subIn K (.ref c_NoKind) (.type "BaseException") = some true)
    (t_NoKind : PySem.W.typeIn K (.ref c_NoKind) = some (.type "type"))
    (i_NoKind : PySem.W.isClsIn K c_NoKind = true)
    (g_Twice : PySem.W.nsIn K mainGlobals "Twice" = some (some (.ref c_Twice)))
    (x_Twice : PySem.W.excIn K c_Twice [.type "ValueError", .type "Exception", .type "BaseException", .type "object"] "ValueError.__new__" = true)
    (k_Twice : PySem.W.keepIn K (.ref c_Twice) = true)
    (b_Twice : PySem.W.subIn K (.ref c_Twice) (.type "BaseException") = some true)
    (t_Twice : PySem.W.typeIn K (.ref c_Twice) = some (.type "type"))
    (i_Twice : PySem.W.isClsIn K c_Twice = true)
    (g_NoCount : PySem.W.nsIn K mainGlobals "NoCount" = some (some (.ref c_NoCount)))
    (x_NoCount : PySem.W.excIn K c_NoCount [.type "ValueError", .type "Exception", .type "BaseException", .type "object"] "ValueError.__new__" = true)
    (k_NoCount : PySem.W.keepIn K (.ref c_NoCount) = true)
    (b_NoCount : PySem.W.subIn K (.ref c_NoCount) (.type "BaseException") = some true)
    (t_NoCount : PySem.W.typeIn K (.ref c_NoCount) = some (.type "type"))
    (i_NoCount : PySem.W.isClsIn K c_NoCount = true)
    (g_NoSum : PySem.W.nsIn K mainGlobals "NoSum" = some (some (.ref c_NoSum)))
    (x_NoSum : PySem.W.excIn K c_NoSum [.type "ValueError", .type "Exception", .type "BaseException", .type "object"] "ValueError.__new__" = true)
    (k_NoSum : PySem.W.keepIn K (.ref c_NoSum) = true)
    (b_NoSum : PySem.W.subIn K (.ref c_NoSum) (.type "BaseException") = some true)
    (t_NoSum : PySem.W.typeIn K (.ref c_NoSum) = some (.type "type"))
    (i_NoSum : PySem.W.isClsIn K c_NoSum = true)
    (g_TooLittle : PySem.W.nsIn K mainGlobals "TooLittle" = some (some (.ref c_TooLittle)))
    (x_TooLittle : PySem.W.excIn K c_TooLittle [.type "ValueError", .type "Exception", .type "BaseException", .type "object"] "ValueError.__new__" = true)
    (k_TooLittle : PySem.W.keepIn K (.ref c_TooLittle) = true)
    (b_TooLittle : PySem.W.subIn K (.ref c_TooLittle) (.type "BaseException") = some true)
    (t_TooLittle : PySem.W.typeIn K (.ref c_TooLittle) = some (.type "type"))
    (i_TooLittle : PySem.W.isClsIn K c_TooLittle = true)
    (g_NoChange : PySem.W.nsIn K mainGlobals "NoChange" = some (some (.ref c_NoChange)))
    (x_NoChange : PySem.W.excIn K c_NoChange [.type "ValueError", .type "Exception", .type "BaseException", .type "object"] "ValueError.__new__" = true)
    (k_NoChange : PySem.W.keepIn K (.ref c_NoChange) = true)
    (b_NoChange : PySem.W.subIn K (.ref c_NoChange) (.type "BaseException") = some true)
    (t_NoChange : PySem.W.typeIn K (.ref c_NoChange) = some (.type "type"))
    (i_NoChange : PySem.W.isClsIn K c_NoChange = true)
    (g_TooFew : PySem.W.nsIn K mainGlobals "TooFew" = some (some (.ref c_TooFew)))
    (x_TooFew : PySem.W.excIn K c_TooFew [.type "ValueError", .type "Exception", .type "BaseException", .type "object"] "ValueError.__new__" = true)
    (k_TooFew : PySem.W.keepIn K (.ref c_TooFew) = true)
    (b_TooFew : PySem.W.subIn K (.ref c_TooFew) (.type "BaseException") = some true)
    (t_TooFew : PySem.W.typeIn K (.ref c_TooFew) = some (.type "type"))
    (i_TooFew : PySem.W.isClsIn K c_TooFew = true)
    (g_StillHeld : PySem.W.nsIn K mainGlobals "StillHeld" = some (some (.ref c_StillHeld)))
    (x_StillHeld : PySem.W.excIn K c_StillHeld [.type "ValueError", .type "Exception", .type "BaseException", .type "object"] "ValueError.__new__" = true)
    (k_StillHeld : PySem.W.keepIn K (.ref c_StillHeld) = true)
    (b_StillHeld : PySem.W.subIn K (.ref c_StillHeld) (.type "BaseException") = some true)
    (t_StillHeld : PySem.W.typeIn K (.ref c_StillHeld) = some (.type "type"))
    (i_StillHeld : PySem.W.isClsIn K c_StillHeld = true)
    (g_NoDeed : PySem.W.nsIn K mainGlobals "NoDeed" = some (some (.ref c_NoDeed)))
    (x_NoDeed : PySem.W.excIn K c_NoDeed [.type "ValueError", .type "Exception", .type "BaseException", .type "object"] "ValueError.__new__" = true)
    (k_NoDeed : PySem.W.keepIn K (.ref c_NoDeed) = true)
    (b_NoDeed : PySem.W.subIn K (.ref c_NoDeed) (.type "BaseException") = some true)
    (t_NoDeed : PySem.W.typeIn K (.ref c_NoDeed) = some (.type "type"))
    (i_NoDeed : PySem.W.isClsIn K c_NoDeed = true)
    (u_NoCount_NoKind : PySem.W.subIn K (.ref c_NoCount) (.ref c_NoKind) = some false)
    (u_NoCount_NoSum : PySem.W.subIn K (.ref c_NoCount) (.ref c_NoSum) = some false)
    (u_NoCount_NoChange : PySem.W.subIn K (.ref c_NoCount) (.ref c_NoChange) = some false)
    (u_NoCount_TillError : PySem.W.subIn K (.ref c_NoCount) (.ref c_TillError) = some true)
    (u_NoCount_NoCount : PySem.W.subIn K (.ref c_NoCount) (.ref c_NoCount) = some true)
    (u_NoCount_NoDeed : PySem.W.subIn K (.ref c_NoCount) (.ref c_NoDeed) = some false)
    (u_NoCount_NoTill : PySem.W.subIn K (.ref c_NoCount) (.ref c_NoTill) = some false)
    (u_NoCount_StillHeld : PySem.W.subIn K (.ref c_NoCount) (.ref c_StillHeld) = some false)
    (u_NoCount_TooFew : PySem.W.subIn K (.ref c_NoCount) (.ref c_TooFew) = some false)
    (u_NoCount_TooLittle : PySem.W.subIn K (.ref c_NoCount) (.ref c_TooLittle) = some false)
    (u_NoCount_Twice : PySem.W.subIn K (.ref c_NoCount) (.ref c_Twice) = some false)
    (u_NoKind_NoKind : PySem.W.subIn K (.ref c_NoKind) (.ref c_NoKind) = some true)
    (u_NoKind_NoSum : PySem.W.subIn K (.ref c_NoKind) (.ref c_NoSum) = some false)
    (u_NoKind_NoChange : PySem.W.subIn K (.ref c_NoKind) (.ref c_NoChange) = some false)
    (u_NoKind_TillError : PySem.W.subIn K (.ref c_NoKind) (.ref c_TillError) = some true)
    (u_NoKind_NoCount : PySem.W.subIn K (.ref c_NoKind) (.ref c_NoCount) = some false)
    (u_NoKind_NoDeed : PySem.W.subIn K (.ref c_NoKind) (.ref c_NoDeed) = some false)
    (u_NoKind_NoTill : PySem.W.subIn K (.ref c_NoKind) (.ref c_NoTill) = some false)
    (u_NoKind_StillHeld : PySem.W.subIn K (.ref c_NoKind) (.ref c_StillHeld) = some false)
    (u_NoKind_TooFew : PySem.W.subIn K (.ref c_NoKind) (.ref c_TooFew) = some false)
    (u_NoKind_TooLittle : PySem.W.subIn K (.ref c_NoKind) (.ref c_TooLittle) = some false)
    (u_NoKind_Twice : PySem.W.subIn K (.ref c_NoKind) (.ref c_Twice) = some false)
    (u_NoSum_NoKind : PySem.W.subIn K (.ref c_NoSum) (.ref c_NoKind) = some false)
    (u_NoSum_NoSum : PySem.W.subIn K (.ref c_NoSum) (.ref c_NoSum) = some true)
    (u_NoSum_NoChange : PySem.W.subIn K (.ref c_NoSum) (.ref c_NoChange) = some false)
    (u_NoSum_TillError : PySem.W.subIn K (.ref c_NoSum) (.ref c_TillError) = some true)
    (u_NoSum_NoCount : PySem.W.subIn K (.ref c_NoSum) (.ref c_NoCount) = some false)
    (u_NoSum_NoDeed : PySem.W.subIn K (.ref c_NoSum) (.ref c_NoDeed) = some false)
    (u_NoSum_NoTill : PySem.W.subIn K (.ref c_NoSum) (.ref c_NoTill) = some false)
    (u_NoSum_StillHeld : PySem.W.subIn K (.ref c_NoSum) (.ref c_StillHeld) = some false)
    (u_NoSum_TooFew : PySem.W.subIn K (.ref c_NoSum) (.ref c_TooFew) = some false)
    (u_NoSum_TooLittle : PySem.W.subIn K (.ref c_NoSum) (.ref c_TooLittle) = some false)
    (u_NoSum_Twice : PySem.W.subIn K (.ref c_NoSum) (.ref c_Twice) = some false)
    (u_NoChange_NoKind : PySem.W.subIn K (.ref c_NoChange) (.ref c_NoKind) = some false)
    (u_NoChange_NoSum : PySem.W.subIn K (.ref c_NoChange) (.ref c_NoSum) = some false)
    (u_NoChange_NoChange : PySem.W.subIn K (.ref c_NoChange) (.ref c_NoChange) = some true)
    (u_NoChange_TillError : PySem.W.subIn K (.ref c_NoChange) (.ref c_TillError) = some true)
    (u_NoChange_NoCount : PySem.W.subIn K (.ref c_NoChange) (.ref c_NoCount) = some false)
    (u_NoChange_NoDeed : PySem.W.subIn K (.ref c_NoChange) (.ref c_NoDeed) = some false)
    (u_NoChange_NoTill : PySem.W.subIn K (.ref c_NoChange) (.ref c_NoTill) = some false)
    (u_NoChange_StillHeld : PySem.W.subIn K (.ref c_NoChange) (.ref c_StillHeld) = some false)
    (u_NoChange_TooFew : PySem.W.subIn K (.ref c_NoChange) (.ref c_TooFew) = some false)
    (u_NoChange_TooLittle : PySem.W.subIn K (.ref c_NoChange) (.ref c_TooLittle) = some false)
    (u_NoChange_Twice : PySem.W.subIn K (.ref c_NoChange) (.ref c_Twice) = some false)
    (u_TooLittle_NoKind : PySem.W.subIn K (.ref c_TooLittle) (.ref c_NoKind) = some false)
    (u_TooLittle_NoSum : PySem.W.subIn K (.ref c_TooLittle) (.ref c_NoSum) = some false)
    (u_TooLittle_NoChange : PySem.W.subIn K (.ref c_TooLittle) (.ref c_NoChange) = some false)
    (u_TooLittle_TillError : PySem.W.subIn K (.ref c_TooLittle) (.ref c_TillError) = some true)
    (u_TooLittle_NoCount : PySem.W.subIn K (.ref c_TooLittle) (.ref c_NoCount) = some false)
    (u_TooLittle_NoDeed : PySem.W.subIn K (.ref c_TooLittle) (.ref c_NoDeed) = some false)
    (u_TooLittle_NoTill : PySem.W.subIn K (.ref c_TooLittle) (.ref c_NoTill) = some false)
    (u_TooLittle_StillHeld : PySem.W.subIn K (.ref c_TooLittle) (.ref c_StillHeld) = some false)
    (u_TooLittle_TooFew : PySem.W.subIn K (.ref c_TooLittle) (.ref c_TooFew) = some false)
    (u_TooLittle_TooLittle : PySem.W.subIn K (.ref c_TooLittle) (.ref c_TooLittle) = some true)
    (u_TooLittle_Twice : PySem.W.subIn K (.ref c_TooLittle) (.ref c_Twice) = some false)
    (hg_NoCount : PySem.W.findIn K (.ref c_NoCount) "__getattribute__" = some (some (.builtin "BaseException.__getattribute__")))
    (hk_NoCount : PySem.W.findIn K (.ref c_NoCount) "__getattr__" = some none)
    (hd_NoCount : PySem.W.hasDictIn K c_NoCount = true)
    (ha_NoCount : PySem.W.findIn K (.ref c_NoCount) "__class__" = some (some (.builtin "object.__class__")))
    (hm_NoCount : PySem.W.mroIn K c_NoCount (.type "object") = some true)
    (z_NoCount : PySem.W.subIn K (.ref c_NoCount) (.type "ValueError") = some true)
    (n_NoCount_NoDeed : c_NoCount ≠ c_NoDeed)
    (n_NoCount_NoTill : c_NoCount ≠ c_NoTill)
    (n_NoCount_StillHeld : c_NoCount ≠ c_StillHeld)
    (n_NoCount_TooFew : c_NoCount ≠ c_TooFew)
    (n_NoCount_TooLittle : c_NoCount ≠ c_TooLittle)
    (n_NoCount_Twice : c_NoCount ≠ c_Twice)
    (hg_NoKind : PySem.W.findIn K (.ref c_NoKind) "__getattribute__" = some (some (.builtin "BaseException.__getattribute__")))
    (hk_NoKind : PySem.W.findIn K (.ref c_NoKind) "__getattr__" = some none)
    (hd_NoKind : PySem.W.hasDictIn K c_NoKind = true)
    (ha_NoKind : PySem.W.findIn K (.ref c_NoKind) "__class__" = some (some (.builtin "object.__class__")))
    (hm_NoKind : PySem.W.mroIn K c_NoKind (.type "object") = some true)
    (z_NoKind : PySem.W.subIn K (.ref c_NoKind) (.type "ValueError") = some true)
    (n_NoKind_NoCount : c_NoKind ≠ c_NoCount)
    (n_NoKind_NoDeed : c_NoKind ≠ c_NoDeed)
    (n_NoKind_NoTill : c_NoKind ≠ c_NoTill)
    (n_NoKind_StillHeld : c_NoKind ≠ c_StillHeld)
    (n_NoKind_TooFew : c_NoKind ≠ c_TooFew)
    (n_NoKind_TooLittle : c_NoKind ≠ c_TooLittle)
    (n_NoKind_Twice : c_NoKind ≠ c_Twice)
    (hg_NoSum : PySem.W.findIn K (.ref c_NoSum) "__getattribute__" = some (some (.builtin "BaseException.__getattribute__")))
    (hk_NoSum : PySem.W.findIn K (.ref c_NoSum) "__getattr__" = some none)
    (hd_NoSum : PySem.W.hasDictIn K c_NoSum = true)
    (ha_NoSum : PySem.W.findIn K (.ref c_NoSum) "__class__" = some (some (.builtin "object.__class__")))
    (hm_NoSum : PySem.W.mroIn K c_NoSum (.type "object") = some true)
    (z_NoSum : PySem.W.subIn K (.ref c_NoSum) (.type "ValueError") = some true)
    (n_NoSum_NoCount : c_NoSum ≠ c_NoCount)
    (n_NoSum_NoDeed : c_NoSum ≠ c_NoDeed)
    (n_NoSum_NoTill : c_NoSum ≠ c_NoTill)
    (n_NoSum_StillHeld : c_NoSum ≠ c_StillHeld)
    (n_NoSum_TooFew : c_NoSum ≠ c_TooFew)
    (n_NoSum_TooLittle : c_NoSum ≠ c_TooLittle)
    (n_NoSum_Twice : c_NoSum ≠ c_Twice)
    (hg_NoChange : PySem.W.findIn K (.ref c_NoChange) "__getattribute__" = some (some (.builtin "BaseException.__getattribute__")))
    (hk_NoChange : PySem.W.findIn K (.ref c_NoChange) "__getattr__" = some none)
    (hd_NoChange : PySem.W.hasDictIn K c_NoChange = true)
    (ha_NoChange : PySem.W.findIn K (.ref c_NoChange) "__class__" = some (some (.builtin "object.__class__")))
    (hm_NoChange : PySem.W.mroIn K c_NoChange (.type "object") = some true)
    (z_NoChange : PySem.W.subIn K (.ref c_NoChange) (.type "ValueError") = some true)
    (n_NoChange_NoCount : c_NoChange ≠ c_NoCount)
    (n_NoChange_NoDeed : c_NoChange ≠ c_NoDeed)
    (n_NoChange_NoTill : c_NoChange ≠ c_NoTill)
    (n_NoChange_StillHeld : c_NoChange ≠ c_StillHeld)
    (n_NoChange_TooFew : c_NoChange ≠ c_TooFew)
    (n_NoChange_TooLittle : c_NoChange ≠ c_TooLittle)
    (n_NoChange_Twice : c_NoChange ≠ c_Twice)
    (hg_TooLittle : PySem.W.findIn K (.ref c_TooLittle) "__getattribute__" = some (some (.builtin "BaseException.__getattribute__")))
    (hk_TooLittle : PySem.W.findIn K (.ref c_TooLittle) "__getattr__" = some none)
    (hd_TooLittle : PySem.W.hasDictIn K c_TooLittle = true)
    (ha_TooLittle : PySem.W.findIn K (.ref c_TooLittle) "__class__" = some (some (.builtin "object.__class__")))
    (hm_TooLittle : PySem.W.mroIn K c_TooLittle (.type "object") = some true)
    (z_TooLittle : PySem.W.subIn K (.ref c_TooLittle) (.type "ValueError") = some true)
    (n_TooLittle_NoCount : c_TooLittle ≠ c_NoCount)
    (n_TooLittle_NoDeed : c_TooLittle ≠ c_NoDeed)
    (n_TooLittle_NoTill : c_TooLittle ≠ c_NoTill)
    (n_TooLittle_StillHeld : c_TooLittle ≠ c_StillHeld)
    (n_TooLittle_TooFew : c_TooLittle ≠ c_TooFew)
    (n_TooLittle_Twice : c_TooLittle ≠ c_Twice)
    (hn : PySem.W.specialIn K (.builtin "object.__class__") "__get__" = some (some (.builtin "getset_descriptor.__get__")))
    (ht : PySem.W.takesIn K (.builtin "object.__class__") = some true)
    (g_check_count : PySem.W.nsIn K mainGlobals "check_count" = some (some (.ref a_check_count)))
    (l_check_count : K.lookup a_check_count = some ⟨oc_0, od_0, .func (PySem.W.fnOf "check_count" "check_count" (defArgs s_check_count) (defBody s_check_count) (defScope s_check_count) .none kV_0 dc_0 pm_0 an_0 cd_0 ct_0), sl_0⟩)
    (o_check_count : PySem.W.codeIn K cd_0 "check_count" = true)
    (k_check_count : PySem.W.keepIn K (.ref a_check_count) = true)
    (g_worth : PySem.W.nsIn K mainGlobals "worth" = some (some (.ref a_worth)))
    (l_worth : K.lookup a_worth = some ⟨oc_1, od_1, .func (PySem.W.fnOf "worth" "worth" (defArgs s_worth) (defBody s_worth) (defScope s_worth) .none kV_1 dc_1 pm_1 an_1 cd_1 ct_1), sl_1⟩)
    (o_worth : PySem.W.codeIn K cd_1 "worth" = true)
    (k_worth : PySem.W.keepIn K (.ref a_worth) = true)
    (g_count_of : PySem.W.nsIn K mainGlobals "count_of" = some (some (.ref a_count_of)))
    (l_count_of : K.lookup a_count_of = some ⟨oc_2, od_2, .func (PySem.W.fnOf "count_of" "count_of" (defArgs s_count_of) (defBody s_count_of) (defScope s_count_of) .none kV_2 dc_2 pm_2 an_2 cd_2 ct_2), sl_2⟩)
    (o_count_of : PySem.W.codeIn K cd_2 "count_of" = true)
    (k_count_of : PySem.W.keepIn K (.ref a_count_of) = true)
    (g_check_sum : PySem.W.nsIn K mainGlobals "check_sum" = some (some (.ref a_check_sum)))
    (l_check_sum : K.lookup a_check_sum = some ⟨oc_3, od_3, .func (PySem.W.fnOf "check_sum" "check_sum" (defArgs s_check_sum) (defBody s_check_sum) (defScope s_check_sum) .none kV_3 dc_3 pm_3 an_3 cd_3 ct_3), sl_3⟩)
    (o_check_sum : PySem.W.codeIn K cd_3 "check_sum" = true)
    (k_check_sum : PySem.W.keepIn K (.ref a_check_sum) = true)
    (g_table : PySem.W.nsIn K mainGlobals "table" = some (some (.ref a_table)))
    (l_table : K.lookup a_table = some ⟨oc_4, od_4, .func (PySem.W.fnOf "table" "table" (defArgs s_table) (defBody s_table) (defScope s_table) .none kV_4 dc_4 pm_4 an_4 cd_4 ct_4), sl_4⟩)
    (o_table : PySem.W.codeIn K cd_4 "table" = true)
    (k_table : PySem.W.keepIn K (.ref a_table) = true)
    (g_fewest : PySem.W.nsIn K mainGlobals "fewest" = some (some (.ref a_fewest)))
    (l_fewest : K.lookup a_fewest = some ⟨oc_5, od_5, .func (PySem.W.fnOf "fewest" "fewest" (defArgs s_fewest) (defBody s_fewest) (defScope s_fewest) .none kV_5 dc_5 pm_5 an_5 cd_5 ct_5), sl_5⟩)
    (o_fewest : PySem.W.codeIn K cd_5 "fewest" = true)
    (k_fewest : PySem.W.keepIn K (.ref a_fewest) = true)
    (g_with_kind : PySem.W.nsIn K mainGlobals "with_kind" = some (some (.ref a_with_kind)))
    (l_with_kind : K.lookup a_with_kind = some ⟨oc_6, od_6, .func (PySem.W.fnOf "with_kind" "with_kind" (defArgs s_with_kind) (defBody s_with_kind) (defScope s_with_kind) .none kV_6 dc_6 pm_6 an_6 cd_6 ct_6), sl_6⟩)
    (o_with_kind : PySem.W.codeIn K cd_6 "with_kind" = true)
    (k_with_kind : PySem.W.keepIn K (.ref a_with_kind) = true)
    (g__bundles : PySem.W.nsIn K mainGlobals "_bundles" = some (some (.ref a__bundles)))
    (l__bundles : K.lookup a__bundles = some ⟨oc_7, od_7, .func (PySem.W.fnOf "_bundles" "_bundles" (defArgs s__bundles) (defBody s__bundles) (defScope s__bundles) .none kV_7 dc_7 pm_7 an_7 cd_7 ct_7), sl_7⟩)
    (o__bundles : PySem.W.codeIn K cd_7 "_bundles" = true)
    (k__bundles : PySem.W.keepIn K (.ref a__bundles) = true)
    (g__with_bundle : PySem.W.nsIn K mainGlobals "_with_bundle" = some (some (.ref a__with_bundle)))
    (l__with_bundle : K.lookup a__with_bundle = some ⟨oc_8, od_8, .func (PySem.W.fnOf "_with_bundle" "_with_bundle" (defArgs s__with_bundle) (defBody s__with_bundle) (defScope s__with_bundle) .none kV_8 dc_8 pm_8 an_8 cd_8 ct_8), sl_8⟩)
    (o__with_bundle : PySem.W.codeIn K cd_8 "_with_bundle" = true)
    (k__with_bundle : PySem.W.keepIn K (.ref a__with_bundle) = true)
    (g__most_given : PySem.W.nsIn K mainGlobals "_most_given" = some (some (.ref a__most_given)))
    (l__most_given : K.lookup a__most_given = some ⟨oc_9, od_9, .func (PySem.W.fnOf "_most_given" "_most_given" (defArgs s__most_given) (defBody s__most_given) (defScope s__most_given) .none kV_9 dc_9 pm_9 an_9 cd_9 ct_9), sl_9⟩)
    (o__most_given : PySem.W.codeIn K cd_9 "_most_given" = true)
    (k__most_given : PySem.W.keepIn K (.ref a__most_given) = true)
    (g_scales : PySem.W.nsIn K mainGlobals "scales" = some (some (.ref a_scales)))
    (l_scales : K.lookup a_scales = some ⟨oc_10, od_10, .func (PySem.W.fnOf "scales" "scales" (defArgs s_scales) (defBody s_scales) (defScope s_scales) .none kV_10 dc_10 pm_10 an_10 cd_10 ct_10), sl_10⟩)
    (o_scales : PySem.W.codeIn K cd_10 "scales" = true)
    (k_scales : PySem.W.keepIn K (.ref a_scales) = true)
    (g_deal : PySem.W.nsIn K mainGlobals "deal" = some (some (.ref a_deal)))
    (l_deal : K.lookup a_deal = some ⟨oc_11, od_11, .func (PySem.W.fnOf "deal" "deal" (defArgs s_deal) (defBody s_deal) (defScope s_deal) .none kV_11 dc_11 pm_11 an_11 cd_11 ct_11), sl_11⟩)
    (o_deal : PySem.W.codeIn K cd_11 "deal" = true)
    (k_deal : PySem.W.keepIn K (.ref a_deal) = true)
    (g__check_purse : PySem.W.nsIn K mainGlobals "_check_purse" = some (some (.ref a__check_purse)))
    (l__check_purse : K.lookup a__check_purse = some ⟨oc_12, od_12, .func (PySem.W.fnOf "_check_purse" "_check_purse" (defArgs s__check_purse) (defBody s__check_purse) (defScope s__check_purse) .none kV_12 dc_12 pm_12 an_12 cd_12 ct_12), sl_12⟩)
    (o__check_purse : PySem.W.codeIn K cd_12 "_check_purse" = true)
    (k__check_purse : PySem.W.keepIn K (.ref a__check_purse) = true)
    (g__with_numbers : PySem.W.nsIn K mainGlobals "_with_numbers" = some (some (.ref a__with_numbers)))
    (l__with_numbers : K.lookup a__with_numbers = some ⟨oc_13, od_13, .func (PySem.W.fnOf "_with_numbers" "_with_numbers" (defArgs s__with_numbers) (defBody s__with_numbers) (defScope s__with_numbers) .none kV_13 dc_13 pm_13 an_13 cd_13 ct_13), sl_13⟩)
    (o__with_numbers : PySem.W.codeIn K cd_13 "_with_numbers" = true)
    (k__with_numbers : PySem.W.keepIn K (.ref a__with_numbers) = true)
    (g__best_way : PySem.W.nsIn K mainGlobals "_best_way" = some (some (.ref a__best_way)))
    (l__best_way : K.lookup a__best_way = some ⟨oc_14, od_14, .func (PySem.W.fnOf "_best_way" "_best_way" (defArgs s__best_way) (defBody s__best_way) (defScope s__best_way) .none kV_14 dc_14 pm_14 an_14 cd_14 ct_14), sl_14⟩)
    (o__best_way : PySem.W.codeIn K cd_14 "_best_way" = true)
    (k__best_way : PySem.W.keepIn K (.ref a__best_way) = true)
    (g__greatest_number : PySem.W.nsIn K mainGlobals "_greatest_number" = some (some (.ref a__greatest_number)))
    (l__greatest_number : K.lookup a__greatest_number = some ⟨oc_15, od_15, .func (PySem.W.fnOf "_greatest_number" "_greatest_number" (defArgs s__greatest_number) (defBody s__greatest_number) (defScope s__greatest_number) .none kV_15 dc_15 pm_15 an_15 cd_15 ct_15), sl_15⟩)
    (o__greatest_number : PySem.W.codeIn K cd_15 "_greatest_number" = true)
    (k__greatest_number : PySem.W.keepIn K (.ref a__greatest_number) = true)
    (g_paid : PySem.W.nsIn K mainGlobals "paid" = some (some (.ref a_paid)))
    (l_paid : K.lookup a_paid = some ⟨oc_16, od_16, .func (PySem.W.fnOf "paid" "paid" (defArgs s_paid) (defBody s_paid) (defScope s_paid) .none kV_16 dc_16 pm_16 an_16 cd_16 ct_16), sl_16⟩)
    (o_paid : PySem.W.codeIn K cd_16 "paid" = true)
    (k_paid : PySem.W.keepIn K (.ref a_paid) = true)
    (g_brought : PySem.W.nsIn K mainGlobals "brought" = some (some (.ref a_brought)))
    (l_brought : K.lookup a_brought = some ⟨oc_17, od_17, .func (PySem.W.fnOf "brought" "brought" (defArgs s_brought) (defBody s_brought) (defScope s_brought) .none kV_17 dc_17 pm_17 an_17 cd_17 ct_17), sl_17⟩)
    (o_brought : PySem.W.codeIn K cd_17 "brought" = true)
    (k_brought : PySem.W.keepIn K (.ref a_brought) = true)
    (g__with_count : PySem.W.nsIn K mainGlobals "_with_count" = some (some (.ref a__with_count)))
    (l__with_count : K.lookup a__with_count = some ⟨oc_18, od_18, .func (PySem.W.fnOf "_with_count" "_with_count" (defArgs s__with_count) (defBody s__with_count) (defScope s__with_count) .none kV_18 dc_18 pm_18 an_18 cd_18 ct_18), sl_18⟩)
    (o__with_count : PySem.W.codeIn K cd_18 "_with_count" = true)
    (k__with_count : PySem.W.keepIn K (.ref a__with_count) = true)
    (g__law_cell_at : PySem.W.nsIn K mainGlobals "_law_cell_at" = some (some (.ref a__law_cell_at)))
    (l__law_cell_at : K.lookup a__law_cell_at = some ⟨oc_19, od_19, .func (PySem.W.fnOf "_law_cell_at" "_law_cell_at" (defArgs s__law_cell_at) (defBody s__law_cell_at) (defScope s__law_cell_at) .none kV_19 dc_19 pm_19 an_19 cd_19 ct_19), sl_19⟩)
    (o__law_cell_at : PySem.W.codeIn K cd_19 "_law_cell_at" = true)
    (k__law_cell_at : PySem.W.keepIn K (.ref a__law_cell_at) = true)
    (g__law_whole : PySem.W.nsIn K mainGlobals "_law_whole" = some (some (.ref a__law_whole)))
    (l__law_whole : K.lookup a__law_whole = some ⟨oc_20, od_20, .func (PySem.W.fnOf "_law_whole" "_law_whole" (defArgs s__law_whole) (defBody s__law_whole) (defScope s__law_whole) .none kV_20 dc_20 pm_20 an_20 cd_20 ct_20), sl_20⟩)
    (o__law_whole : PySem.W.codeIn K cd_20 "_law_whole" = true)
    (k__law_whole : PySem.W.keepIn K (.ref a__law_whole) = true)
    (g__law_mixed : PySem.W.nsIn K mainGlobals "_law_mixed" = some (some (.ref a__law_mixed)))
    (l__law_mixed : K.lookup a__law_mixed = some ⟨oc_21, od_21, .func (PySem.W.fnOf "_law_mixed" "_law_mixed" (defArgs s__law_mixed) (defBody s__law_mixed) (defScope s__law_mixed) .none kV_21 dc_21 pm_21 an_21 cd_21 ct_21), sl_21⟩)
    (o__law_mixed : PySem.W.codeIn K cd_21 "_law_mixed" = true)
    (k__law_mixed : PySem.W.keepIn K (.ref a__law_mixed) = true)
    (g__law_value : PySem.W.nsIn K mainGlobals "_law_value" = some (some (.ref a__law_value)))
    (l__law_value : K.lookup a__law_value = some ⟨oc_22, od_22, .func (PySem.W.fnOf "_law_value" "_law_value" (defArgs s__law_value) (defBody s__law_value) (defScope s__law_value) .none kV_22 dc_22 pm_22 an_22 cd_22 ct_22), sl_22⟩)
    (o__law_value : PySem.W.codeIn K cd_22 "_law_value" = true)
    (k__law_value : PySem.W.keepIn K (.ref a__law_value) = true)
    (g__law_till_and_purse : PySem.W.nsIn K mainGlobals "_law_till_and_purse" = some (some (.ref a__law_till_and_purse)))
    (l__law_till_and_purse : K.lookup a__law_till_and_purse = some ⟨oc_23, od_23, .func (PySem.W.fnOf "_law_till_and_purse" "_law_till_and_purse" (defArgs s__law_till_and_purse) (defBody s__law_till_and_purse) (defScope s__law_till_and_purse) .none kV_23 dc_23 pm_23 an_23 cd_23 ct_23), sl_23⟩)
    (o__law_till_and_purse : PySem.W.codeIn K cd_23 "_law_till_and_purse" = true)
    (k__law_till_and_purse : PySem.W.keepIn K (.ref a__law_till_and_purse) = true)
    (g__law_own : PySem.W.nsIn K mainGlobals "_law_own" = some (some (.ref a__law_own)))
    (l__law_own : K.lookup a__law_own = some ⟨oc_24, od_24, .func (PySem.W.fnOf "_law_own" "_law_own" (defArgs s__law_own) (defBody s__law_own) (defScope s__law_own) .none kV_24 dc_24 pm_24 an_24 cd_24 ct_24), sl_24⟩)
    (o__law_own : PySem.W.codeIn K cd_24 "_law_own" = true)
    (k__law_own : PySem.W.keepIn K (.ref a__law_own) = true)
    (g__law_total : PySem.W.nsIn K mainGlobals "_law_total" = some (some (.ref a__law_total)))
    (l__law_total : K.lookup a__law_total = some ⟨oc_25, od_25, .func (PySem.W.fnOf "_law_total" "_law_total" (defArgs s__law_total) (defBody s__law_total) (defScope s__law_total) .none kV_25 dc_25 pm_25 an_25 cd_25 ct_25), sl_25⟩)
    (o__law_total : PySem.W.codeIn K cd_25 "_law_total" = true)
    (k__law_total : PySem.W.keepIn K (.ref a__law_total) = true)
    (g__law_lightest : PySem.W.nsIn K mainGlobals "_law_lightest" = some (some (.ref a__law_lightest)))
    (l__law_lightest : K.lookup a__law_lightest = some ⟨oc_26, od_26, .func (PySem.W.fnOf "_law_lightest" "_law_lightest" (defArgs s__law_lightest) (defBody s__law_lightest) (defScope s__law_lightest) .none kV_26 dc_26 pm_26 an_26 cd_26 ct_26), sl_26⟩)
    (o__law_lightest : PySem.W.codeIn K cd_26 "_law_lightest" = true)
    (k__law_lightest : PySem.W.keepIn K (.ref a__law_lightest) = true)
    (g__law_row : PySem.W.nsIn K mainGlobals "_law_row" = some (some (.ref a__law_row)))
    (l__law_row : K.lookup a__law_row = some ⟨oc_27, od_27, .func (PySem.W.fnOf "_law_row" "_law_row" (defArgs s__law_row) (defBody s__law_row) (defScope s__law_row) .none kV_27 dc_27 pm_27 an_27 cd_27 ct_27), sl_27⟩)
    (o__law_row : PySem.W.codeIn K cd_27 "_law_row" = true)
    (k__law_row : PySem.W.keepIn K (.ref a__law_row) = true)
    (g__law_scaled : PySem.W.nsIn K mainGlobals "_law_scaled" = some (some (.ref a__law_scaled)))
    (l__law_scaled : K.lookup a__law_scaled = some ⟨oc_28, od_28, .func (PySem.W.fnOf "_law_scaled" "_law_scaled" (defArgs s__law_scaled) (defBody s__law_scaled) (defScope s__law_scaled) .none kV_28 dc_28 pm_28 an_28 cd_28 ct_28), sl_28⟩)
    (o__law_scaled : PySem.W.codeIn K cd_28 "_law_scaled" = true)
    (k__law_scaled : PySem.W.keepIn K (.ref a__law_scaled) = true)
    (g__law_part : PySem.W.nsIn K mainGlobals "_law_part" = some (some (.ref a__law_part)))
    (l__law_part : K.lookup a__law_part = some ⟨oc_29, od_29, .func (PySem.W.fnOf "_law_part" "_law_part" (defArgs s__law_part) (defBody s__law_part) (defScope s__law_part) .none kV_29 dc_29 pm_29 an_29 cd_29 ct_29), sl_29⟩)
    (o__law_part : PySem.W.codeIn K cd_29 "_law_part" = true)
    (k__law_part : PySem.W.keepIn K (.ref a__law_part) = true)
    (g__law_pieces : PySem.W.nsIn K mainGlobals "_law_pieces" = some (some (.ref a__law_pieces)))
    (l__law_pieces : K.lookup a__law_pieces = some ⟨oc_30, od_30, .func (PySem.W.fnOf "_law_pieces" "_law_pieces" (defArgs s__law_pieces) (defBody s__law_pieces) (defScope s__law_pieces) .none kV_30 dc_30 pm_30 an_30 cd_30 ct_30), sl_30⟩)
    (o__law_pieces : PySem.W.codeIn K cd_30 "_law_pieces" = true)
    (k__law_pieces : PySem.W.keepIn K (.ref a__law_pieces) = true)
    (g__law_deal : PySem.W.nsIn K mainGlobals "_law_deal" = some (some (.ref a__law_deal)))
    (l__law_deal : K.lookup a__law_deal = some ⟨oc_31, od_31, .func (PySem.W.fnOf "_law_deal" "_law_deal" (defArgs s__law_deal) (defBody s__law_deal) (defScope s__law_deal) .none kV_31 dc_31 pm_31 an_31 cd_31 ct_31), sl_31⟩)
    (o__law_deal : PySem.W.codeIn K cd_31 "_law_deal" = true)
    (k__law_deal : PySem.W.keepIn K (.ref a__law_deal) = true)
    (g__law_any : PySem.W.nsIn K mainGlobals "_law_any" = some (some (.ref a__law_any)))
    (l__law_any : K.lookup a__law_any = some ⟨oc_32, od_32, .func (PySem.W.fnOf "_law_any" "_law_any" (defArgs s__law_any) (defBody s__law_any) (defScope s__law_any) .none kV_32 dc_32 pm_32 an_32 cd_32 ct_32), sl_32⟩)
    (o__law_any : PySem.W.codeIn K cd_32 "_law_any" = true)
    (k__law_any : PySem.W.keepIn K (.ref a__law_any) = true)
    (g__law_great : PySem.W.nsIn K mainGlobals "_law_great" = some (some (.ref a__law_great)))
    (l__law_great : K.lookup a__law_great = some ⟨oc_33, od_33, .func (PySem.W.fnOf "_law_great" "_law_great" (defArgs s__law_great) (defBody s__law_great) (defScope s__law_great) .none kV_33 dc_33 pm_33 an_33 cd_33 ct_33), sl_33⟩)
    (o__law_great : PySem.W.codeIn K cd_33 "_law_great" = true)
    (k__law_great : PySem.W.keepIn K (.ref a__law_great) = true)
    (g__law_price : PySem.W.nsIn K mainGlobals "_law_price" = some (some (.ref a__law_price)))
    (l__law_price : K.lookup a__law_price = some ⟨oc_34, od_34, .func (PySem.W.fnOf "_law_price" "_law_price" (defArgs s__law_price) (defBody s__law_price) (defScope s__law_price) .none kV_34 dc_34 pm_34 an_34 cd_34 ct_34), sl_34⟩)
    (o__law_price : PySem.W.codeIn K cd_34 "_law_price" = true)
    (k__law_price : PySem.W.keepIn K (.ref a__law_price) = true)
    (g__law_pays_back : PySem.W.nsIn K mainGlobals "_law_pays_back" = some (some (.ref a__law_pays_back)))
    (l__law_pays_back : K.lookup a__law_pays_back = some ⟨oc_35, od_35, .func (PySem.W.fnOf "_law_pays_back" "_law_pays_back" (defArgs s__law_pays_back) (defBody s__law_pays_back) (defScope s__law_pays_back) .none kV_35 dc_35 pm_35 an_35 cd_35 ct_35), sl_35⟩)
    (o__law_pays_back : PySem.W.codeIn K cd_35 "_law_pays_back" = true)
    (k__law_pays_back : PySem.W.keepIn K (.ref a__law_pays_back) = true)
    (g__law_makes : PySem.W.nsIn K mainGlobals "_law_makes" = some (some (.ref a__law_makes)))
    (l__law_makes : K.lookup a__law_makes = some ⟨oc_36, od_36, .func (PySem.W.fnOf "_law_makes" "_law_makes" (defArgs s__law_makes) (defBody s__law_makes) (defScope s__law_makes) .none kV_36 dc_36 pm_36 an_36 cd_36 ct_36), sl_36⟩)
    (o__law_makes : PySem.W.codeIn K cd_36 "_law_makes" = true)
    (k__law_makes : PySem.W.keepIn K (.ref a__law_makes) = true)
    (g__law_exact : PySem.W.nsIn K mainGlobals "_law_exact" = some (some (.ref a__law_exact)))
    (l__law_exact : K.lookup a__law_exact = some ⟨oc_37, od_37, .func (PySem.W.fnOf "_law_exact" "_law_exact" (defArgs s__law_exact) (defBody s__law_exact) (defScope s__law_exact) .none kV_37 dc_37 pm_37 an_37 cd_37 ct_37), sl_37⟩)
    (o__law_exact : PySem.W.codeIn K cd_37 "_law_exact" = true)
    (k__law_exact : PySem.W.keepIn K (.ref a__law_exact) = true)
    (g__law_good : PySem.W.nsIn K mainGlobals "_law_good" = some (some (.ref a__law_good)))
    (l__law_good : K.lookup a__law_good = some ⟨oc_38, od_38, .func (PySem.W.fnOf "_law_good" "_law_good" (defArgs s__law_good) (defBody s__law_good) (defScope s__law_good) .none kV_38 dc_38 pm_38 an_38 cd_38 ct_38), sl_38⟩)
    (o__law_good : PySem.W.codeIn K cd_38 "_law_good" = true)
    (k__law_good : PySem.W.keepIn K (.ref a__law_good) = true)
    (g__law_walks : PySem.W.nsIn K mainGlobals "_law_walks" = some (some (.ref a__law_walks)))
    (l__law_walks : K.lookup a__law_walks = some ⟨oc_39, od_39, .func (PySem.W.fnOf "_law_walks" "_law_walks" (defArgs s__law_walks) (defBody s__law_walks) (defScope s__law_walks) .none kV_39 dc_39 pm_39 an_39 cd_39 ct_39), sl_39⟩)
    (o__law_walks : PySem.W.codeIn K cd_39 "_law_walks" = true)
    (k__law_walks : PySem.W.keepIn K (.ref a__law_walks) = true)
    (g_law : PySem.W.nsIn K mainGlobals "law" = some (some (.ref a_law)))
    (l_law : K.lookup a_law = some ⟨oc_40, od_40, .func (PySem.W.fnOf "law" "law" (defArgs s_law) (defBody s_law) (defScope s_law) .none kV_40 dc_40 pm_40 an_40 cd_40 ct_40), sl_40⟩)
    (o_law : PySem.W.codeIn K cd_40 "law" = true)
    (k_law : PySem.W.keepIn K (.ref a_law) = true)
    (w_MOST_COUNT : PySem.W.nsIn K mainGlobals "MOST_COUNT" = some (some (.int 1000000000 tk_MOST_COUNT)))
    (w_MOST_SUM : PySem.W.nsIn K mainGlobals "MOST_SUM" = some (some (.int 1000 tk_MOST_SUM)))
    (w_MOST_WORTH : PySem.W.nsIn K mainGlobals "MOST_WORTH" = some (some (.int 1500 tk_MOST_WORTH)))
    (w_MOST_PAID : PySem.W.nsIn K mainGlobals "MOST_PAID" = some (some (.int 60 tk_MOST_PAID)))
    (m_ValueError : PySem.W.nsIn K mainGlobals "ValueError" = some none)
    (m_abs : PySem.W.nsIn K mainGlobals "abs" = some none)
    (m_bool : PySem.W.nsIn K mainGlobals "bool" = some none)
    (m_dict : PySem.W.nsIn K mainGlobals "dict" = some none)
    (m_int : PySem.W.nsIn K mainGlobals "int" = some none)
    (m_isinstance : PySem.W.nsIn K mainGlobals "isinstance" = some none)
    (m_len : PySem.W.nsIn K mainGlobals "len" = some none)
    (m_list : PySem.W.nsIn K mainGlobals "list" = some none)
    (m_max : PySem.W.nsIn K mainGlobals "max" = some none)
    (m_min : PySem.W.nsIn K mainGlobals "min" = some none)
    (m_range : PySem.W.nsIn K mainGlobals "range" = some none)
    (m_reversed : PySem.W.nsIn K mainGlobals "reversed" = some none)
    (m_sorted : PySem.W.nsIn K mainGlobals "sorted" = some none)
    (m_sum : PySem.W.nsIn K mainGlobals "sum" = some none)
    (m_tuple : PySem.W.nsIn K mainGlobals "tuple" = some none)
    : ∃ T : Tx K mg, T.a_law = a_law ∧ (∀ (s : Shared) (v : Value), BindsTo s T.d_law ⟨[v], []⟩ [("_law_script", v)]) := by
  have F_check_count := fun_mk (st := s_check_count) l_check_count o_check_count k_check_count
  have B_check_count := F_check_count.binds (ps := P_check_count) fun _ _ _ _ _ _ us hl => match us, hl with | [_], _ => rfl
  have F_worth := fun_mk (st := s_worth) l_worth o_worth k_worth
  have B_worth := F_worth.binds (ps := P_worth) fun _ _ _ _ _ _ us hl => match us, hl with | [_], _ => rfl
  have F_count_of := fun_mk (st := s_count_of) l_count_of o_count_of k_count_of
  have B_count_of := F_count_of.binds (ps := P_count_of) fun _ _ _ _ _ _ us hl => match us, hl with | [_, _], _ => rfl
  have F_check_sum := fun_mk (st := s_check_sum) l_check_sum o_check_sum k_check_sum
  have B_check_sum := F_check_sum.binds (ps := P_check_sum) fun _ _ _ _ _ _ us hl => match us, hl with | [_], _ => rfl
  have F_table := fun_mk (st := s_table) l_table o_table k_table
  have B_table := F_table.binds (ps := P_table) fun _ _ _ _ _ _ us hl => match us, hl with | [_, _], _ => rfl
  have F_fewest := fun_mk (st := s_fewest) l_fewest o_fewest k_fewest
  have B_fewest := F_fewest.binds (ps := P_fewest) fun _ _ _ _ _ _ us hl => match us, hl with | [_, _], _ => rfl
  have F_with_kind := fun_mk (st := s_with_kind) l_with_kind o_with_kind k_with_kind
  have B_with_kind := F_with_kind.binds (ps := P_with_kind) fun _ _ _ _ _ _ us hl => match us, hl with | [_, _, _], _ => rfl
  have F__bundles := fun_mk (st := s__bundles) l__bundles o__bundles k__bundles
  have B__bundles := F__bundles.binds (ps := P__bundles) fun _ _ _ _ _ _ us hl => match us, hl with | [_], _ => rfl
  have F__with_bundle := fun_mk (st := s__with_bundle) l__with_bundle o__with_bundle k__with_bundle
  have B__with_bundle := F__with_bundle.binds (ps := P__with_bundle) fun _ _ _ _ _ _ us hl => match us, hl with | [_, _, _], _ => rfl
  have F__most_given := fun_mk (st := s__most_given) l__most_given o__most_given k__most_given
  have B__most_given := F__most_given.binds (ps := P__most_given) fun _ _ _ _ _ _ us hl => match us, hl with | [_, _, _, _, _], _ => rfl
  have F_scales := fun_mk (st := s_scales) l_scales o_scales k_scales
  have B_scales := F_scales.binds (ps := P_scales) fun _ _ _ _ _ _ us hl => match us, hl with | [_, _], _ => rfl
  have F_deal := fun_mk (st := s_deal) l_deal o_deal k_deal
  have B_deal := F_deal.binds (ps := P_deal) fun _ _ _ _ _ _ us hl => match us, hl with | [_, _, _], _ => rfl
  have F__check_purse := fun_mk (st := s__check_purse) l__check_purse o__check_purse k__check_purse
  have B__check_purse := F__check_purse.binds (ps := P__check_purse) fun _ _ _ _ _ _ us hl => match us, hl with | [_, _], _ => rfl
  have F__with_numbers := fun_mk (st := s__with_numbers) l__with_numbers o__with_numbers k__with_numbers
  have B__with_numbers := F__with_numbers.binds (ps := P__with_numbers) fun _ _ _ _ _ _ us hl => match us, hl with | [_, _, _, _], _ => rfl
  have F__best_way := fun_mk (st := s__best_way) l__best_way o__best_way k__best_way
  have B__best_way := F__best_way.binds (ps := P__best_way) fun _ _ _ _ _ _ us hl => match us, hl with | [_, _, _, _], _ => rfl
  have F__greatest_number := fun_mk (st := s__greatest_number) l__greatest_number o__greatest_number k__greatest_number
  have B__greatest_number := F__greatest_number.binds (ps := P__greatest_number) fun _ _ _ _ _ _ us hl => match us, hl with | [_, _, _, _, _, _], _ => rfl
  have F_paid := fun_mk (st := s_paid) l_paid o_paid k_paid
  have B_paid := F_paid.binds (ps := P_paid) fun _ _ _ _ _ _ us hl => match us, hl with | [_, _, _], _ => rfl
  have F_brought := fun_mk (st := s_brought) l_brought o_brought k_brought
  have B_brought := F_brought.binds (ps := P_brought) fun _ _ _ _ _ _ us hl => match us, hl with | [_, _, _], _ => rfl
  have F__with_count := fun_mk (st := s__with_count) l__with_count o__with_count k__with_count
  have B__with_count := F__with_count.binds (ps := P__with_count) fun _ _ _ _ _ _ us hl => match us, hl with | [_, _, _], _ => rfl
  have F__law_cell_at := fun_mk (st := s__law_cell_at) l__law_cell_at o__law_cell_at k__law_cell_at
  have B__law_cell_at := F__law_cell_at.binds (ps := P__law_cell_at) fun _ _ _ _ _ _ us hl => match us, hl with | [_, _], _ => rfl
  have F__law_whole := fun_mk (st := s__law_whole) l__law_whole o__law_whole k__law_whole
  have B__law_whole := F__law_whole.binds (ps := P__law_whole) fun _ _ _ _ _ _ us hl => match us, hl with | [_], _ => rfl
  have F__law_mixed := fun_mk (st := s__law_mixed) l__law_mixed o__law_mixed k__law_mixed
  have B__law_mixed := F__law_mixed.binds (ps := P__law_mixed) fun _ _ _ _ _ _ us hl => match us, hl with | [_, _], _ => rfl
  have F__law_value := fun_mk (st := s__law_value) l__law_value o__law_value k__law_value
  have B__law_value := F__law_value.binds (ps := P__law_value) fun _ _ _ _ _ _ us hl => match us, hl with | [_, _], _ => rfl
  have F__law_till_and_purse := fun_mk (st := s__law_till_and_purse) l__law_till_and_purse o__law_till_and_purse k__law_till_and_purse
  have B__law_till_and_purse := F__law_till_and_purse.binds (ps := P__law_till_and_purse) fun _ _ _ _ _ _ us hl => match us, hl with | [_, _], _ => rfl
  have F__law_own := fun_mk (st := s__law_own) l__law_own o__law_own k__law_own
  have B__law_own := F__law_own.binds (ps := P__law_own) fun _ _ _ _ _ _ us hl => match us, hl with | [_, _], _ => rfl
  have F__law_total := fun_mk (st := s__law_total) l__law_total o__law_total k__law_total
  have B__law_total := F__law_total.binds (ps := P__law_total) fun _ _ _ _ _ _ us hl => match us, hl with | [_], _ => rfl
  have F__law_lightest := fun_mk (st := s__law_lightest) l__law_lightest o__law_lightest k__law_lightest
  have B__law_lightest := F__law_lightest.binds (ps := P__law_lightest) fun _ _ _ _ _ _ us hl => match us, hl with | [_, _, _, _], _ => rfl
  have F__law_row := fun_mk (st := s__law_row) l__law_row o__law_row k__law_row
  have B__law_row := F__law_row.binds (ps := P__law_row) fun _ _ _ _ _ _ us hl => match us, hl with | [_, _], _ => rfl
  have F__law_scaled := fun_mk (st := s__law_scaled) l__law_scaled o__law_scaled k__law_scaled
  have B__law_scaled := F__law_scaled.binds (ps := P__law_scaled) fun _ _ _ _ _ _ us hl => match us, hl with | [_, _, _], _ => rfl
  have F__law_part := fun_mk (st := s__law_part) l__law_part o__law_part k__law_part
  have B__law_part := F__law_part.binds (ps := P__law_part) fun _ _ _ _ _ _ us hl => match us, hl with | [_, _], _ => rfl
  have F__law_pieces := fun_mk (st := s__law_pieces) l__law_pieces o__law_pieces k__law_pieces
  have B__law_pieces := F__law_pieces.binds (ps := P__law_pieces) fun _ _ _ _ _ _ us hl => match us, hl with | [_], _ => rfl
  have F__law_deal := fun_mk (st := s__law_deal) l__law_deal o__law_deal k__law_deal
  have B__law_deal := F__law_deal.binds (ps := P__law_deal) fun _ _ _ _ _ _ us hl => match us, hl with | [_, _, _], _ => rfl
  have F__law_any := fun_mk (st := s__law_any) l__law_any o__law_any k__law_any
  have B__law_any := F__law_any.binds (ps := P__law_any) fun _ _ _ _ _ _ us hl => match us, hl with | [_, _, _], _ => rfl
  have F__law_great := fun_mk (st := s__law_great) l__law_great o__law_great k__law_great
  have B__law_great := F__law_great.binds (ps := P__law_great) fun _ _ _ _ _ _ us hl => match us, hl with | [_, _, _], _ => rfl
  have F__law_price := fun_mk (st := s__law_price) l__law_price o__law_price k__law_price
  have B__law_price := F__law_price.binds (ps := P__law_price) fun _ _ _ _ _ _ us hl => match us, hl with | [_, _, _], _ => rfl
  have F__law_pays_back := fun_mk (st := s__law_pays_back) l__law_pays_back o__law_pays_back k__law_pays_back
  have B__law_pays_back := F__law_pays_back.binds (ps := P__law_pays_back) fun _ _ _ _ _ _ us hl => match us, hl with | [_, _, _], _ => rfl
  have F__law_makes := fun_mk (st := s__law_makes) l__law_makes o__law_makes k__law_makes
  have B__law_makes := F__law_makes.binds (ps := P__law_makes) fun _ _ _ _ _ _ us hl => match us, hl with | [_, _, _], _ => rfl
  have F__law_exact := fun_mk (st := s__law_exact) l__law_exact o__law_exact k__law_exact
  have B__law_exact := F__law_exact.binds (ps := P__law_exact) fun _ _ _ _ _ _ us hl => match us, hl with | [_, _, _, _], _ => rfl
  have F__law_good := fun_mk (st := s__law_good) l__law_good o__law_good k__law_good
  have B__law_good := F__law_good.binds (ps := P__law_good) fun _ _ _ _ _ _ us hl => match us, hl with | [_, _, _, _, _], _ => rfl
  have F__law_walks := fun_mk (st := s__law_walks) l__law_walks o__law_walks k__law_walks
  have B__law_walks := F__law_walks.binds (ps := P__law_walks) fun _ _ _ _ _ _ us hl => match us, hl with | [_, _, _, _, _], _ => rfl
  have F_law := fun_mk (st := s_law) l_law o_law k_law
  have B_law := F_law.binds (ps := P_law) fun _ _ _ _ _ _ us hl => match us, hl with | [_], _ => rfl
  exact ⟨{
    c_TillError := c_TillError,
    c_NoTill := c_NoTill,
    c_NoKind := c_NoKind,
    c_Twice := c_Twice,
    c_NoCount := c_NoCount,
    c_NoSum := c_NoSum,
    c_TooLittle := c_TooLittle,
    c_NoChange := c_NoChange,
    c_TooFew := c_TooFew,
    c_StillHeld := c_StillHeld,
    c_NoDeed := c_NoDeed,
    a_check_count := a_check_count, d_check_count := _,
    a_worth := a_worth, d_worth := _,
    a_count_of := a_count_of, d_count_of := _,
    a_check_sum := a_check_sum, d_check_sum := _,
    a_table := a_table, d_table := _,
    a_fewest := a_fewest, d_fewest := _,
    a_with_kind := a_with_kind, d_with_kind := _,
    a__bundles := a__bundles, d__bundles := _,
    a__with_bundle := a__with_bundle, d__with_bundle := _,
    a__most_given := a__most_given, d__most_given := _,
    a_scales := a_scales, d_scales := _,
    a_deal := a_deal, d_deal := _,
    a__check_purse := a__check_purse, d__check_purse := _,
    a__with_numbers := a__with_numbers, d__with_numbers := _,
    a__best_way := a__best_way, d__best_way := _,
    a__greatest_number := a__greatest_number, d__greatest_number := _,
    a_paid := a_paid, d_paid := _,
    a_brought := a_brought, d_brought := _,
    a__with_count := a__with_count, d__with_count := _,
    a__law_cell_at := a__law_cell_at, d__law_cell_at := _,
    a__law_whole := a__law_whole, d__law_whole := _,
    a__law_mixed := a__law_mixed, d__law_mixed := _,
    a__law_value := a__law_value, d__law_value := _,
    a__law_till_and_purse := a__law_till_and_purse, d__law_till_and_purse := _,
    a__law_own := a__law_own, d__law_own := _,
    a__law_total := a__law_total, d__law_total := _,
    a__law_lightest := a__law_lightest, d__law_lightest := _,
    a__law_row := a__law_row, d__law_row := _,
    a__law_scaled := a__law_scaled, d__law_scaled := _,
    a__law_part := a__law_part, d__law_part := _,
    a__law_pieces := a__law_pieces, d__law_pieces := _,
    a__law_deal := a__law_deal, d__law_deal := _,
    a__law_any := a__law_any, d__law_any := _,
    a__law_great := a__law_great, d__law_great := _,
    a__law_price := a__law_price, d__law_price := _,
    a__law_pays_back := a__law_pays_back, d__law_pays_back := _,
    a__law_makes := a__law_makes, d__law_makes := _,
    a__law_exact := a__law_exact, d__law_exact := _,
    a__law_good := a__law_good, d__law_good := _,
    a__law_walks := a__law_walks, d__law_walks := _,
    a_law := a_law, d_law := _,
    g_TillError := PySem.W.mg_of X G g_TillError, x_TillError := x_TillError, k_TillError := k_TillError, b_TillError := b_TillError, t_TillError := t_TillError, i_TillError := i_TillError,
    g_NoTill := PySem.W.mg_of X G g_NoTill, x_NoTill := x_NoTill, k_NoTill := k_NoTill, b_NoTill := b_NoTill, t_NoTill := t_NoTill, i_NoTill := i_NoTill,
    g_NoKind := PySem.W.mg_of X G g_NoKind, x_NoKind := x_NoKind, k_NoKind := k_NoKind, b_NoKind := b_NoKind, t_NoKind := t_NoKind, i_NoKind := i_NoKind,
    g_Twice := PySem.W.mg_of X G g_Twice, x_Twice := x_Twice, k_Twice := k_Twice, b_Twice := b_Twice, t_Twice := t_Twice, i_Twice := i_Twice,
    g_NoCount := PySem.W.mg_of X G g_NoCount, x_NoCount := x_NoCount, k_NoCount := k_NoCount, b_NoCount := b_NoCount, t_NoCount := t_NoCount, i_NoCount := i_NoCount,
    g_NoSum := PySem.W.mg_of X G g_NoSum, x_NoSum := x_NoSum, k_NoSum := k_NoSum, b_NoSum := b_NoSum, t_NoSum := t_NoSum, i_NoSum := i_NoSum,
    g_TooLittle := PySem.W.mg_of X G g_TooLittle, x_TooLittle := x_TooLittle, k_TooLittle := k_TooLittle, b_TooLittle := b_TooLittle, t_TooLittle := t_TooLittle, i_TooLittle := i_TooLittle,
    g_NoChange := PySem.W.mg_of X G g_NoChange, x_NoChange := x_NoChange, k_NoChange := k_NoChange, b_NoChange := b_NoChange, t_NoChange := t_NoChange, i_NoChange := i_NoChange,
    g_TooFew := PySem.W.mg_of X G g_TooFew, x_TooFew := x_TooFew, k_TooFew := k_TooFew, b_TooFew := b_TooFew, t_TooFew := t_TooFew, i_TooFew := i_TooFew,
    g_StillHeld := PySem.W.mg_of X G g_StillHeld, x_StillHeld := x_StillHeld, k_StillHeld := k_StillHeld, b_StillHeld := b_StillHeld, t_StillHeld := t_StillHeld, i_StillHeld := i_StillHeld,
    g_NoDeed := PySem.W.mg_of X G g_NoDeed, x_NoDeed := x_NoDeed, k_NoDeed := k_NoDeed, b_NoDeed := b_NoDeed, t_NoDeed := t_NoDeed, i_NoDeed := i_NoDeed,
    u_NoCount_NoKind := u_NoCount_NoKind,
    u_NoCount_NoSum := u_NoCount_NoSum,
    u_NoCount_NoChange := u_NoCount_NoChange,
    u_NoCount_TillError := u_NoCount_TillError,
    u_NoCount_NoCount := u_NoCount_NoCount,
    u_NoCount_NoDeed := u_NoCount_NoDeed,
    u_NoCount_NoTill := u_NoCount_NoTill,
    u_NoCount_StillHeld := u_NoCount_StillHeld,
    u_NoCount_TooFew := u_NoCount_TooFew,
    u_NoCount_TooLittle := u_NoCount_TooLittle,
    u_NoCount_Twice := u_NoCount_Twice,
    u_NoKind_NoKind := u_NoKind_NoKind,
    u_NoKind_NoSum := u_NoKind_NoSum,
    u_NoKind_NoChange := u_NoKind_NoChange,
    u_NoKind_TillError := u_NoKind_TillError,
    u_NoKind_NoCount := u_NoKind_NoCount,
    u_NoKind_NoDeed := u_NoKind_NoDeed,
    u_NoKind_NoTill := u_NoKind_NoTill,
    u_NoKind_StillHeld := u_NoKind_StillHeld,
    u_NoKind_TooFew := u_NoKind_TooFew,
    u_NoKind_TooLittle := u_NoKind_TooLittle,
    u_NoKind_Twice := u_NoKind_Twice,
    u_NoSum_NoKind := u_NoSum_NoKind,
    u_NoSum_NoSum := u_NoSum_NoSum,
    u_NoSum_NoChange := u_NoSum_NoChange,
    u_NoSum_TillError := u_NoSum_TillError,
    u_NoSum_NoCount := u_NoSum_NoCount,
    u_NoSum_NoDeed := u_NoSum_NoDeed,
    u_NoSum_NoTill := u_NoSum_NoTill,
    u_NoSum_StillHeld := u_NoSum_StillHeld,
    u_NoSum_TooFew := u_NoSum_TooFew,
    u_NoSum_TooLittle := u_NoSum_TooLittle,
    u_NoSum_Twice := u_NoSum_Twice,
    u_NoChange_NoKind := u_NoChange_NoKind,
    u_NoChange_NoSum := u_NoChange_NoSum,
    u_NoChange_NoChange := u_NoChange_NoChange,
    u_NoChange_TillError := u_NoChange_TillError,
    u_NoChange_NoCount := u_NoChange_NoCount,
    u_NoChange_NoDeed := u_NoChange_NoDeed,
    u_NoChange_NoTill := u_NoChange_NoTill,
    u_NoChange_StillHeld := u_NoChange_StillHeld,
    u_NoChange_TooFew := u_NoChange_TooFew,
    u_NoChange_TooLittle := u_NoChange_TooLittle,
    u_NoChange_Twice := u_NoChange_Twice,
    u_TooLittle_NoKind := u_TooLittle_NoKind,
    u_TooLittle_NoSum := u_TooLittle_NoSum,
    u_TooLittle_NoChange := u_TooLittle_NoChange,
    u_TooLittle_TillError := u_TooLittle_TillError,
    u_TooLittle_NoCount := u_TooLittle_NoCount,
    u_TooLittle_NoDeed := u_TooLittle_NoDeed,
    u_TooLittle_NoTill := u_TooLittle_NoTill,
    u_TooLittle_StillHeld := u_TooLittle_StillHeld,
    u_TooLittle_TooFew := u_TooLittle_TooFew,
    u_TooLittle_TooLittle := u_TooLittle_TooLittle,
    u_TooLittle_Twice := u_TooLittle_Twice,
    e_NoCount := ⟨hg_NoCount, hk_NoCount, b_NoCount, hd_NoCount, ha_NoCount, hn, ht, hm_NoCount⟩, z_NoCount := kone_ty z_NoCount, y_NoCount := (kany_t kone_self),
    e_NoKind := ⟨hg_NoKind, hk_NoKind, b_NoKind, hd_NoKind, ha_NoKind, hn, ht, hm_NoKind⟩, z_NoKind := kone_ty z_NoKind, y_NoKind := (kany_f (kone_own n_NoKind_NoCount i_NoCount t_NoCount u_NoKind_NoCount) (kany_f (kone_own n_NoKind_NoDeed i_NoDeed t_NoDeed u_NoKind_NoDeed) (kany_f (kone_own n_NoKind_NoTill i_NoTill t_NoTill u_NoKind_NoTill) (kany_f (kone_own n_NoKind_StillHeld i_StillHeld t_StillHeld u_NoKind_StillHeld) (kany_f (kone_own n_NoKind_TooFew i_TooFew t_TooFew u_NoKind_TooFew) (kany_f (kone_own n_NoKind_TooLittle i_TooLittle t_TooLittle u_NoKind_TooLittle) (kany_f (kone_own n_NoKind_Twice i_Twice t_Twice u_NoKind_Twice) kitAny_nil))))))),
    e_NoSum := ⟨hg_NoSum, hk_NoSum, b_NoSum, hd_NoSum, ha_NoSum, hn, ht, hm_NoSum⟩, z_NoSum := kone_ty z_NoSum, y_NoSum := (kany_f (kone_own n_NoSum_NoCount i_NoCount t_NoCount u_NoSum_NoCount) (kany_f (kone_own n_NoSum_NoDeed i_NoDeed t_NoDeed u_NoSum_NoDeed) (kany_f (kone_own n_NoSum_NoTill i_NoTill t_NoTill u_NoSum_NoTill) (kany_f (kone_own n_NoSum_StillHeld i_StillHeld t_StillHeld u_NoSum_StillHeld) (kany_f (kone_own n_NoSum_TooFew i_TooFew t_TooFew u_NoSum_TooFew) (kany_f (kone_own n_NoSum_TooLittle i_TooLittle t_TooLittle u_NoSum_TooLittle) (kany_f (kone_own n_NoSum_Twice i_Twice t_Twice u_NoSum_Twice) kitAny_nil))))))),
    e_NoChange := ⟨hg_NoChange, hk_NoChange, b_NoChange, hd_NoChange, ha_NoChange, hn, ht, hm_NoChange⟩, z_NoChange := kone_ty z_NoChange, y_NoChange := (kany_f (kone_own n_NoChange_NoCount i_NoCount t_NoCount u_NoChange_NoCount) (kany_f (kone_own n_NoChange_NoDeed i_NoDeed t_NoDeed u_NoChange_NoDeed) (kany_f (kone_own n_NoChange_NoTill i_NoTill t_NoTill u_NoChange_NoTill) (kany_f (kone_own n_NoChange_StillHeld i_StillHeld t_StillHeld u_NoChange_StillHeld) (kany_f (kone_own n_NoChange_TooFew i_TooFew t_TooFew u_NoChange_TooFew) (kany_f (kone_own n_NoChange_TooLittle i_TooLittle t_TooLittle u_NoChange_TooLittle) (kany_f (kone_own n_NoChange_Twice i_Twice t_Twice u_NoChange_Twice) kitAny_nil))))))),
    e_TooLittle := ⟨hg_TooLittle, hk_TooLittle, b_TooLittle, hd_TooLittle, ha_TooLittle, hn, ht, hm_TooLittle⟩, z_TooLittle := kone_ty z_TooLittle, y_TooLittle := (kany_f (kone_own n_TooLittle_NoCount i_NoCount t_NoCount u_TooLittle_NoCount) (kany_f (kone_own n_TooLittle_NoDeed i_NoDeed t_NoDeed u_TooLittle_NoDeed) (kany_f (kone_own n_TooLittle_NoTill i_NoTill t_NoTill u_TooLittle_NoTill) (kany_f (kone_own n_TooLittle_StillHeld i_StillHeld t_StillHeld u_TooLittle_StillHeld) (kany_f (kone_own n_TooLittle_TooFew i_TooFew t_TooFew u_TooLittle_TooFew) (kany_t kone_self)))))),
    f_check_count := F_check_count, p_check_count := B_check_count, g_check_count := PySem.W.mg_of X G g_check_count,
    f_worth := F_worth, p_worth := B_worth, g_worth := PySem.W.mg_of X G g_worth,
    f_count_of := F_count_of, p_count_of := B_count_of, g_count_of := PySem.W.mg_of X G g_count_of,
    f_check_sum := F_check_sum, p_check_sum := B_check_sum, g_check_sum := PySem.W.mg_of X G g_check_sum,
    f_table := F_table, p_table := B_table, g_table := PySem.W.mg_of X G g_table,
    f_fewest := F_fewest, p_fewest := B_fewest, g_fewest := PySem.W.mg_of X G g_fewest,
    f_with_kind := F_with_kind, p_with_kind := B_with_kind, g_with_kind := PySem.W.mg_of X G g_with_kind,
    f__bundles := F__bundles, p__bundles := B__bundles, g__bundles := PySem.W.mg_of X G g__bundles,
    f__with_bundle := F__with_bundle, p__with_bundle := B__with_bundle, g__with_bundle := PySem.W.mg_of X G g__with_bundle,
    f__most_given := F__most_given, p__most_given := B__most_given, g__most_given := PySem.W.mg_of X G g__most_given,
    f_scales := F_scales, p_scales := B_scales, g_scales := PySem.W.mg_of X G g_scales,
    f_deal := F_deal, p_deal := B_deal, g_deal := PySem.W.mg_of X G g_deal,
    f__check_purse := F__check_purse, p__check_purse := B__check_purse, g__check_purse := PySem.W.mg_of X G g__check_purse,
    f__with_numbers := F__with_numbers, p__with_numbers := B__with_numbers, g__with_numbers := PySem.W.mg_of X G g__with_numbers,
    f__best_way := F__best_way, p__best_way := B__best_way, g__best_way := PySem.W.mg_of X G g__best_way,
    f__greatest_number := F__greatest_number, p__greatest_number := B__greatest_number, g__greatest_number := PySem.W.mg_of X G g__greatest_number,
    f_paid := F_paid, p_paid := B_paid, g_paid := PySem.W.mg_of X G g_paid,
    f_brought := F_brought, p_brought := B_brought, g_brought := PySem.W.mg_of X G g_brought,
    f__with_count := F__with_count, p__with_count := B__with_count, g__with_count := PySem.W.mg_of X G g__with_count,
    f__law_cell_at := F__law_cell_at, p__law_cell_at := B__law_cell_at, g__law_cell_at := PySem.W.mg_of X G g__law_cell_at,
    f__law_whole := F__law_whole, p__law_whole := B__law_whole, g__law_whole := PySem.W.mg_of X G g__law_whole,
    f__law_mixed := F__law_mixed, p__law_mixed := B__law_mixed, g__law_mixed := PySem.W.mg_of X G g__law_mixed,
    f__law_value := F__law_value, p__law_value := B__law_value, g__law_value := PySem.W.mg_of X G g__law_value,
    f__law_till_and_purse := F__law_till_and_purse, p__law_till_and_purse := B__law_till_and_purse, g__law_till_and_purse := PySem.W.mg_of X G g__law_till_and_purse,
    f__law_own := F__law_own, p__law_own := B__law_own, g__law_own := PySem.W.mg_of X G g__law_own,
    f__law_total := F__law_total, p__law_total := B__law_total, g__law_total := PySem.W.mg_of X G g__law_total,
    f__law_lightest := F__law_lightest, p__law_lightest := B__law_lightest, g__law_lightest := PySem.W.mg_of X G g__law_lightest,
    f__law_row := F__law_row, p__law_row := B__law_row, g__law_row := PySem.W.mg_of X G g__law_row,
    f__law_scaled := F__law_scaled, p__law_scaled := B__law_scaled, g__law_scaled := PySem.W.mg_of X G g__law_scaled,
    f__law_part := F__law_part, p__law_part := B__law_part, g__law_part := PySem.W.mg_of X G g__law_part,
    f__law_pieces := F__law_pieces, p__law_pieces := B__law_pieces, g__law_pieces := PySem.W.mg_of X G g__law_pieces,
    f__law_deal := F__law_deal, p__law_deal := B__law_deal, g__law_deal := PySem.W.mg_of X G g__law_deal,
    f__law_any := F__law_any, p__law_any := B__law_any, g__law_any := PySem.W.mg_of X G g__law_any,
    f__law_great := F__law_great, p__law_great := B__law_great, g__law_great := PySem.W.mg_of X G g__law_great,
    f__law_price := F__law_price, p__law_price := B__law_price, g__law_price := PySem.W.mg_of X G g__law_price,
    f__law_pays_back := F__law_pays_back, p__law_pays_back := B__law_pays_back, g__law_pays_back := PySem.W.mg_of X G g__law_pays_back,
    f__law_makes := F__law_makes, p__law_makes := B__law_makes, g__law_makes := PySem.W.mg_of X G g__law_makes,
    f__law_exact := F__law_exact, p__law_exact := B__law_exact, g__law_exact := PySem.W.mg_of X G g__law_exact,
    f__law_good := F__law_good, p__law_good := B__law_good, g__law_good := PySem.W.mg_of X G g__law_good,
    f__law_walks := F__law_walks, p__law_walks := B__law_walks, g__law_walks := PySem.W.mg_of X G g__law_walks,
    f_law := F_law, p_law := B_law, g_law := PySem.W.mg_of X G g_law,
    w_MOST_COUNT := ⟨_, PySem.W.mg_of X G w_MOST_COUNT⟩,
    w_MOST_SUM := ⟨_, PySem.W.mg_of X G w_MOST_SUM⟩,
    w_MOST_WORTH := ⟨_, PySem.W.mg_of X G w_MOST_WORTH⟩,
    w_MOST_PAID := ⟨_, PySem.W.mg_of X G w_MOST_PAID⟩,
    m_ValueError := PySem.W.mg_none_of X G m_ValueError,
    m_abs := PySem.W.mg_none_of X G m_abs,
    m_bool := PySem.W.mg_none_of X G m_bool,
    m_dict := PySem.W.mg_none_of X G m_dict,
    m_int := PySem.W.mg_none_of X G m_int,
    m_isinstance := PySem.W.mg_none_of X G m_isinstance,
    m_len := PySem.W.mg_none_of X G m_len,
    m_list := PySem.W.mg_none_of X G m_list,
    m_max := PySem.W.mg_none_of X G m_max,
    m_min := PySem.W.mg_none_of X G m_min,
    m_range := PySem.W.mg_none_of X G m_range,
    m_reversed := PySem.W.mg_none_of X G m_reversed,
    m_sorted := PySem.W.mg_none_of X G m_sorted,
    m_sum := PySem.W.mg_none_of X G m_sum,
    m_tuple := PySem.W.mg_none_of X G m_tuple }, rfl, fun s v => .of_eq rfl⟩

theorem fin {l : PySem.W.OpenLaw} {w : World} {K : PySem.W.Frag} {h : Heap} {mg : Str → Option Value} {fa a_law : Addr} (X : K.In h) (G : h.Ns mainGlobals mg) (hfa : mg "law" = some (.ref fa))
    (x : ∃ T : Tx K mg, T.a_law = a_law ∧ (∀ (s : Shared) (v : Value), BindsTo s T.d_law ⟨[v], []⟩ [("_law_script", v)])) :
    ∃ fd : FuncData, (∀ (s : Shared) (v : Value), BindsTo s fd ⟨[v], []⟩ [("_law_script", v)]) ∧ ∀ base : Heap, K.In base → base.Ns mainGlobals mg → FnOk l.prog w K mg base CX0 9 fa fd ["_law_script"] (spLaw K) := by
  obtain ⟨T, _, hb⟩ := x
  have e := hfa.symm.trans T.g_law
  cases e
  exact ⟨T.d_law, hb, fun base _ _ => ok_law T⟩

end K11
open PySem PySem.W PyProof.Rows
set_option maxRecDepth 100000 in
set_option maxHeartbeats 0 in
theorem PySem.Challenge.cw_tilldrawer_k11_whole_deals_holds : PySem.Challenge.rw_tilldrawer_k11_whole_deals.Holds := by
  w_on; o_law; k_head; (case hw => w_witness2)
  k_fill
  refine L2.walk_ofK (l := PySem.Challenge.rw_tilldrawer_k11_whole_deals) (n := 63) (k := 9) (x := "_law_script") (CX := L2.CX0) (sp := K11.spLaw) rfl (by decide) rfl ⟨rfl, by decide, by decide⟩ (fun w h Y => PySem.W.kIn_of Y) ?F (fun K H a ns hl hO hS => K11.law_start hl hO hS) (fun _ _ _ _ h => h)
  case F =>
    intro w mg fa h KX G hmg
    refine' K11.fin KX G hmg (K11.tx_mk KX G ?g_TillError ?x_TillError ?k_TillError ?b_TillError ?t_TillError ?i_TillError ?g_NoTill ?x_NoTill ?k_NoTill ?b_NoTill ?t_NoTill ?i_NoTill ?g_NoKind ?x_NoKind ?k_NoKind ?b_NoKind ?t_NoKind ?i_NoKind ?g_Twice ?x_Twice ?k_Twice ?b_Twice ?t_Twice ?i_Twice ?g_NoCount ?x_NoCount ?k_NoCount ?b_NoCount ?t_NoCount ?i_NoCount ?g_NoSum ?x_NoSum ?k_NoSum ?b_NoSum ?t_NoSum ?i_NoSum ?g_TooLittle ?x_TooLittle ?k_TooLittle ?b_TooLittle ?t_TooLittle ?i_TooLittle ?g_NoChange ?x_NoChange ?k_NoChange ?b_NoChange ?t_NoChange ?i_NoChange ?g_TooFew ?x_TooFew ?k_TooFew ?b_TooFew ?t_TooFew ?i_TooFew ?g_StillHeld ?x_StillHeld ?k_StillHeld ?b_StillHeld ?t_StillHeld ?i_StillHeld ?g_NoDeed ?x_NoDeed ?k_NoDeed ?b_NoDeed ?t_NoDeed ?i_NoDeed ?u_NoCount_NoKind ?u_NoCount_NoSum ?u_NoCount_NoChange ?u_NoCount_TillError ?u_NoCount_NoCount ?u_NoCount_NoDeed ?u_NoCount_NoTill ?u_NoCount_StillHeld ?u_NoCount_TooFew ?u_NoCount_TooLittle ?u_NoCount_Twice ?u_NoKind_NoKind ?u_NoKind_NoSum ?u_NoKind_NoChange ?u_NoKind_TillError ?u_NoKind_NoCount ?u_NoKind_NoDeed ?u_NoKind_NoTill ?u_NoKind_StillHeld ?u_NoKind_TooFew ?u_NoKind_TooLittle ?u_NoKind_Twice ?u_NoSum_NoKind ?u_NoSum_NoSum ?u_NoSum_NoChange ?u_NoSum_TillError ?u_NoSum_NoCount ?u_NoSum_NoDeed ?u_NoSum_NoTill ?u_NoSum_StillHeld ?u_NoSum_TooFew ?u_NoSum_TooLittle ?u_NoSum_Twice ?u_NoChange_NoKind ?u_NoChange_NoSum ?u_NoChange_NoChange ?u_NoChange_TillError ?u_NoChange_NoCount ?u_NoChange_NoDeed ?u_NoChange_NoTill ?u_NoChange_StillHeld ?u_NoChange_TooFew ?u_NoChange_TooLittle ?u_NoChange_Twice ?u_TooLittle_NoKind ?u_TooLittle_NoSum ?u_TooLittle_NoChange ?u_TooLittle_TillError ?u_TooLittle_NoCount ?u_TooLittle_NoDeed ?u_TooLittle_NoTill ?u_TooLittle_StillHeld ?u_TooLittle_TooFew ?u_TooLittle_TooLittle ?u_TooLittle_Twice ?hg_NoCount ?hk_NoCount ?hd_NoCount ?ha_NoCount ?hm_NoCount ?z_NoCount ?n_NoCount_NoDeed ?n_NoCount_NoTill ?n_NoCount_StillHeld ?n_NoCount_TooFew ?n_NoCount_TooLittle ?n_NoCount_Twice ?hg_NoKind ?hk_NoKind ?hd_NoKind ?ha_NoKind ?hm_NoKind ?z_NoKind ?n_NoKind_NoCount ?n_NoKind_NoDeed ?n_NoKind_NoTill ?n_NoKind_StillHeld ?n_NoKind_TooFew ?n_NoKind_TooLittle ?n_NoKind_Twice ?hg_NoSum ?hk_NoSum ?hd_NoSum ?ha_NoSum ?hm_NoSum ?z_NoSum ?n_NoSum_NoCount ?n_NoSum_NoDeed ?n_NoSum_NoTill ?n_NoSum_StillHeld ?n_NoSum_TooFew ?n_NoSum_TooLittle ?n_NoSum_Twice ?hg_NoChange ?hk_NoChange ?hd_NoChange ?ha_NoChange ?hm_NoChange ?z_NoChange ?n_NoChange_NoCount ?n_NoChange_NoDeed ?n_NoChange_NoTill ?n_NoChange_StillHeld ?n_NoChange_TooFew ?n_NoChange_TooLittle ?n_NoChange_Twice ?hg_TooLittle ?hk_TooLittle ?hd_TooLittle ?ha_TooLittle ?hm_TooLittle ?z_TooLittle ?n_TooLittle_NoCount ?n_TooLittle_NoDeed ?n_TooLittle_NoTill ?n_TooLittle_StillHeld ?n_TooLittle_TooFew ?n_TooLittle_Twice ?hn ?ht ?g_check_count ?l_check_count ?o_check_count ?k_check_count ?g_worth ?l_worth ?o_worth ?k_worth ?g_count_of ?l_count_of ?o_count_of ?k_count_of ?g_check_sum ?l_check_sum ?o_check_sum ?k_check_sum ?g_table ?l_table ?o_table ?k_table ?g_fewest ?l_fewest ?o_fewest ?k_fewest ?g_with_kind ?l_with_kind ?o_with_kind ?k_with_kind ?g__bundles ?l__bundles ?o__bundles ?k__bundles ?g__with_bundle ?l__with_bundle ?o__with_bundle ?k__with_bundle ?g__most_given ?l__most_given ?o__most_given ?k__most_given ?g_scales ?l_scales ?o_scales ?k_scales ?g_deal ?l_deal ?o_deal ?k_deal ?g__check_purse ?l__check_purse ?o__check_purse ?k__check_purse ?g__with_numbers ?l__with_numbers ?o__with_numbers ?k__with_numbers ?g__best_way ?l__best_way ?o__best_way ?k__best_way ?g__greatest_number ?l__greatest_number ?o__greatest_number ?k__greatest_number ?g_paid ?l_paid ?o_paid ?k_paid ?g_brought ?l_brought ?o_brought ?k_brought ?g__with_count ?l__with_count ?o__with_count ?k__with_count ?g__law_cell_at ?l__law_cell_at ?o__law_cell_at ?k__law_cell_at ?g__law_whole ?l__law_whole ?o__law_whole ?k__law_whole ?g__law_mixed ?l__law_mixed ?o__law_mixed ?k__law_mixed ?g__law_value ?l__law_value ?o__law_value ?k__law_value ?g__law_till_and_purse ?l__law_till_and_purse ?o__law_till_and_purse ?k__law_till_and_purse ?g__law_own ?l__law_own ?o__law_own ?k__law_own ?g__law_total ?l__law_total ?o__law_total ?k__law_total ?g__law_lightest ?l__law_lightest ?o__law_lightest ?k__law_lightest ?g__law_row ?l__law_row ?o__law_row ?k__law_row ?g__law_scaled ?l__law_scaled ?o__law_scaled ?k__law_scaled ?g__law_part ?l__law_part ?o__law_part ?k__law_part ?g__law_pieces ?l__law_pieces ?o__law_pieces ?k__law_pieces ?g__law_deal ?l__law_deal ?o__law_deal ?k__law_deal ?g__law_any ?l__law_any ?o__law_any ?k__law_any ?g__law_great ?l__law_great ?o__law_great ?k__law_great ?g__law_price ?l__law_price ?o__law_price ?k__law_price ?g__law_pays_back ?l__law_pays_back ?o__law_pays_back ?k__law_pays_back ?g__law_makes ?l__law_makes ?o__law_makes ?k__law_makes ?g__law_exact ?l__law_exact ?o__law_exact ?k__law_exact ?g__law_good ?l__law_good ?o__law_good ?k__law_good ?g__law_walks ?l__law_walks ?o__law_walks ?k__law_walks ?g_law ?l_law ?o_law ?k_law ?w_MOST_COUNT ?w_MOST_SUM ?w_MOST_WORTH ?w_MOST_PAID ?m_ValueError ?m_abs ?m_bool ?m_dict ?m_int ?m_isinstance ?m_len ?m_list ?m_max ?m_min ?m_range ?m_reversed ?m_sorted ?m_sum ?m_tuple)
    (case g_TillError => k_is)
    (case x_TillError => k_exc)
    (case k_TillError => k_is)
    (case b_TillError => k_is)
    (case t_TillError => k_is)
    (case i_TillError => k_is)
    (case g_NoTill => k_is)
    (case x_NoTill => k_exc)
    (case k_NoTill => k_is)
    (case b_NoTill => k_is)
    (case t_NoTill => k_is)
    (case i_NoTill => k_is)
    (case g_NoKind => k_is)
    (case x_NoKind => k_exc)
    (case k_NoKind => k_is)
    (case b_NoKind => k_is)
    (case t_NoKind => k_is)
    (case i_NoKind => k_is)
    (case g_Twice => k_is)
    (case x_Twice => k_exc)
    (case k_Twice => k_is)
    (case b_Twice => k_is)
    (case t_Twice => k_is)
    (case i_Twice => k_is)
    (case g_NoCount => k_is)
    (case x_NoCount => k_exc)
    (case k_NoCount => k_is)
    (case b_NoCount => k_is)
    (case t_NoCount => k_is)
    (case i_NoCount => k_is)
    (case g_NoSum => k_is)
    (case x_NoSum => k_exc)
    (case k_NoSum => k_is)
    (case b_NoSum => k_is)
    (case t_NoSum => k_is)
    (case i_NoSum => k_is)
    (case g_TooLittle => k_is)
    (case x_TooLittle => k_exc)
    (case k_TooLittle => k_is)
    (case b_TooLittle => k_is)
    (case t_TooLittle => k_is)
    (case i_TooLittle => k_is)
    (case g_NoChange => k_is)
    (case x_NoChange => k_exc)
    (case k_NoChange => k_is)
    (case b_NoChange => k_is)
    (case t_NoChange => k_is)
    (case i_NoChange => k_is)
    (case g_TooFew => k_is)
    (case x_TooFew => k_exc)
    (case k_TooFew => k_is)
    (case b_TooFew => k_is)
    (case t_TooFew => k_is)
    (case i_TooFew => k_is)
    (case g_StillHeld => k_is)
    (case x_StillHeld => k_exc)
    (case k_StillHeld => k_is)
    (case b_StillHeld => k_is)
    (case t_StillHeld => k_is)
    (case i_StillHeld => k_is)
    (case g_NoDeed => k_is)
    (case x_NoDeed => k_exc)
    (case k_NoDeed => k_is)
    (case b_NoDeed => k_is)
    (case t_NoDeed => k_is)
    (case i_NoDeed => k_is)
    (case u_NoCount_NoKind => first | rfl | k_is)
    (case u_NoCount_NoSum => first | rfl | k_is)
    (case u_NoCount_NoChange => first | rfl | k_is)
    (case u_NoCount_TillError => first | rfl | k_is)
    (case u_NoCount_NoCount => first | rfl | k_is)
    (case u_NoCount_NoDeed => first | rfl | k_is)
    (case u_NoCount_NoTill => first | rfl | k_is)
    (case u_NoCount_StillHeld => first | rfl | k_is)
    (case u_NoCount_TooFew => first | rfl | k_is)
    (case u_NoCount_TooLittle => first | rfl | k_is)
    (case u_NoCount_Twice => first | rfl | k_is)
    (case u_NoKind_NoKind => first | rfl | k_is)
    (case u_NoKind_NoSum => first | rfl | k_is)
    (case u_NoKind_NoChange => first | rfl | k_is)
    (case u_NoKind_TillError => first | rfl | k_is)
    (case u_NoKind_NoCount => first | rfl | k_is)
    (case u_NoKind_NoDeed => first | rfl | k_is)
    (case u_NoKind_NoTill => first | rfl | k_is)
    (case u_NoKind_StillHeld => first | rfl | k_is)
    (case u_NoKind_TooFew => first | rfl | k_is)
    (case u_NoKind_TooLittle => first | rfl | k_is)
    (case u_NoKind_Twice => first | rfl | k_is)
    (case u_NoSum_NoKind => first | rfl | k_is)
    (case u_NoSum_NoSum => first | rfl | k_is)
    (case u_NoSum_NoChange => first | rfl | k_is)
    (case u_NoSum_TillError => first | rfl | k_is)
    (case u_NoSum_NoCount => first | rfl | k_is)
    (case u_NoSum_NoDeed => first | rfl | k_is)
    (case u_NoSum_NoTill => first | rfl | k_is)
    (case u_NoSum_StillHeld => first | rfl | k_is)
    (case u_NoSum_TooFew => first | rfl | k_is)
    (case u_NoSum_TooLittle => first | rfl | k_is)
    (case u_NoSum_Twice => first | rfl | k_is)
    (case u_NoChange_NoKind => first | rfl | k_is)
    (case u_NoChange_NoSum => first | rfl | k_is)
    (case u_NoChange_NoChange => first | rfl | k_is)
    (case u_NoChange_TillError => first | rfl | k_is)
    (case u_NoChange_NoCount => first | rfl | k_is)
    (case u_NoChange_NoDeed => first | rfl | k_is)
    (case u_NoChange_NoTill => first | rfl | k_is)
    (case u_NoChange_StillHeld => first | rfl | k_is)
    (case u_NoChange_TooFew => first | rfl | k_is)
    (case u_NoChange_TooLittle => first | rfl | k_is)
    (case u_NoChange_Twice => first | rfl | k_is)
    (case u_TooLittle_NoKind => first | rfl | k_is)
    (case u_TooLittle_NoSum => first | rfl | k_is)
    (case u_TooLittle_NoChange => first | rfl | k_is)
    (case u_TooLittle_TillError => first | rfl | k_is)
    (case u_TooLittle_NoCount => first | rfl | k_is)
    (case u_TooLittle_NoDeed => first | rfl | k_is)
    (case u_TooLittle_NoTill => first | rfl | k_is)
    (case u_TooLittle_StillHeld => first | rfl | k_is)
    (case u_TooLittle_TooFew => first | rfl | k_is)
    (case u_TooLittle_TooLittle => first | rfl | k_is)
    (case u_TooLittle_Twice => first | rfl | k_is)
    (case hg_NoCount => k_is)
    (case hk_NoCount => k_is)
    (case hd_NoCount => k_is)
    (case ha_NoCount => k_is)
    (case hm_NoCount => k_is)
    (case z_NoCount => k_is)
    (case n_NoCount_NoDeed => decide)
    (case n_NoCount_NoTill => decide)
    (case n_NoCount_StillHeld => decide)
    (case n_NoCount_TooFew => decide)
    (case n_NoCount_TooLittle => decide)
    (case n_NoCount_Twice => decide)
    (case hg_NoKind => k_is)
    (case hk_NoKind => k_is)
    (case hd_NoKind => k_is)
    (case ha_NoKind => k_is)
    (case hm_NoKind => k_is)
    (case z_NoKind => k_is)
    (case n_NoKind_NoCount => decide)
    (case n_NoKind_NoDeed => decide)
    (case n_NoKind_NoTill => decide)
    (case n_NoKind_StillHeld => decide)
    (case n_NoKind_TooFew => decide)
    (case n_NoKind_TooLittle => decide)
    (case n_NoKind_Twice => decide)
    (case hg_NoSum => k_is)
    (case hk_NoSum => k_is)
    (case hd_NoSum => k_is)
    (case ha_NoSum => k_is)
    (case hm_NoSum => k_is)
    (case z_NoSum => k_is)
    (case n_NoSum_NoCount => decide)
    (case n_NoSum_NoDeed => decide)
    (case n_NoSum_NoTill => decide)
    (case n_NoSum_StillHeld => decide)
    (case n_NoSum_TooFew => decide)
    (case n_NoSum_TooLittle => decide)
    (case n_NoSum_Twice => decide)
    (case hg_NoChange => k_is)
    (case hk_NoChange => k_is)
    (case hd_NoChange => k_is)
    (case ha_NoChange => k_is)
    (case hm_NoChange => k_is)
    (case z_NoChange => k_is)
    (case n_NoChange_NoCount => decide)
    (case n_NoChange_NoDeed => decide)
    (case n_NoChange_NoTill => decide)
    (case n_NoChange_StillHeld => decide)
    (case n_NoChange_TooFew => decide)
    (case n_NoChange_TooLittle => decide)
    (case n_NoChange_Twice => decide)
    (case hg_TooLittle => k_is)
    (case hk_TooLittle => k_is)
    (case hd_TooLittle => k_is)
    (case ha_TooLittle => k_is)
    (case hm_TooLittle => k_is)
    (case z_TooLittle => k_is)
    (case n_TooLittle_NoCount => decide)
    (case n_TooLittle_NoDeed => decide)
    (case n_TooLittle_NoTill => decide)
    (case n_TooLittle_StillHeld => decide)
    (case n_TooLittle_TooFew => decide)
    (case n_TooLittle_Twice => decide)
    (case hn => k_is)
    (case ht => k_is)
    (case g_check_count => k_is)
    (case l_check_count => k_is)
    (case o_check_count => k_is)
    (case k_check_count => k_is)
    (case g_worth => k_is)
    (case l_worth => k_is)
    (case o_worth => k_is)
    (case k_worth => k_is)
    (case g_count_of => k_is)
    (case l_count_of => k_is)
    (case o_count_of => k_is)
    (case k_count_of => k_is)
    (case g_check_sum => k_is)
    (case l_check_sum => k_is)
    (case o_check_sum => k_is)
    (case k_check_sum => k_is)
    (case g_table => k_is)
    (case l_table => k_is)
    (case o_table => k_is)
    (case k_table => k_is)
    (case g_fewest => k_is)
    (case l_fewest => k_is)
    (case o_fewest => k_is)
    (case k_fewest => k_is)
    (case g_with_kind => k_is)
    (case l_with_kind => k_is)
    (case o_with_kind => k_is)
    (case k_with_kind => k_is)
    (case g__bundles => k_is)
    (case l__bundles => k_is)
    (case o__bundles => k_is)
    (case k__bundles => k_is)
    (case g__with_bundle => k_is)
    (case l__with_bundle => k_is)
    (case o__with_bundle => k_is)
    (case k__with_bundle => k_is)
    (case g__most_given => k_is)
    (case l__most_given => k_is)
    (case o__most_given => k_is)
    (case k__most_given => k_is)
    (case g_scales => k_is)
    (case l_scales => k_is)
    (case o_scales => k_is)
    (case k_scales => k_is)
    (case g_deal => k_is)
    (case l_deal => k_is)
    (case o_deal => k_is)
    (case k_deal => k_is)
    (case g__check_purse => k_is)
    (case l__check_purse => k_is)
    (case o__check_purse => k_is)
    (case k__check_purse => k_is)
    (case g__with_numbers => k_is)
    (case l__with_numbers => k_is)
    (case o__with_numbers => k_is)
    (case k__with_numbers => k_is)
    (case g__best_way => k_is)
    (case l__best_way => k_is)
    (case o__best_way => k_is)
    (case k__best_way => k_is)
    (case g__greatest_number => k_is)
    (case l__greatest_number => k_is)
    (case o__greatest_number => k_is)
    (case k__greatest_number => k_is)
    (case g_paid => k_is)
    (case l_paid => k_is)
    (case o_paid => k_is)
    (case k_paid => k_is)
    (case g_brought => k_is)
    (case l_brought => k_is)
    (case o_brought => k_is)
    (case k_brought => k_is)
    (case g__with_count => k_is)
    (case l__with_count => k_is)
    (case o__with_count => k_is)
    (case k__with_count => k_is)
    (case g__law_cell_at => k_is)
    (case l__law_cell_at => k_is)
    (case o__law_cell_at => k_is)
    (case k__law_cell_at => k_is)
    (case g__law_whole => k_is)
    (case l__law_whole => k_is)
    (case o__law_whole => k_is)
    (case k__law_whole => k_is)
    (case g__law_mixed => k_is)
    (case l__law_mixed => k_is)
    (case o__law_mixed => k_is)
    (case k__law_mixed => k_is)
    (case g__law_value => k_is)
    (case l__law_value => k_is)
    (case o__law_value => k_is)
    (case k__law_value => k_is)
    (case g__law_till_and_purse => k_is)
    (case l__law_till_and_purse => k_is)
    (case o__law_till_and_purse => k_is)
    (case k__law_till_and_purse => k_is)
    (case g__law_own => k_is)
    (case l__law_own => k_is)
    (case o__law_own => k_is)
    (case k__law_own => k_is)
    (case g__law_total => k_is)
    (case l__law_total => k_is)
    (case o__law_total => k_is)
    (case k__law_total => k_is)
    (case g__law_lightest => k_is)
    (case l__law_lightest => k_is)
    (case o__law_lightest => k_is)
    (case k__law_lightest => k_is)
    (case g__law_row => k_is)
    (case l__law_row => k_is)
    (case o__law_row => k_is)
    (case k__law_row => k_is)
    (case g__law_scaled => k_is)
    (case l__law_scaled => k_is)
    (case o__law_scaled => k_is)
    (case k__law_scaled => k_is)
    (case g__law_part => k_is)
    (case l__law_part => k_is)
    (case o__law_part => k_is)
    (case k__law_part => k_is)
    (case g__law_pieces => k_is)
    (case l__law_pieces => k_is)
    (case o__law_pieces => k_is)
    (case k__law_pieces => k_is)
    (case g__law_deal => k_is)
    (case l__law_deal => k_is)
    (case o__law_deal => k_is)
    (case k__law_deal => k_is)
    (case g__law_any => k_is)
    (case l__law_any => k_is)
    (case o__law_any => k_is)
    (case k__law_any => k_is)
    (case g__law_great => k_is)
    (case l__law_great => k_is)
    (case o__law_great => k_is)
    (case k__law_great => k_is)
    (case g__law_price => k_is)
    (case l__law_price => k_is)
    (case o__law_price => k_is)
    (case k__law_price => k_is)
    (case g__law_pays_back => k_is)
    (case l__law_pays_back => k_is)
    (case o__law_pays_back => k_is)
    (case k__law_pays_back => k_is)
    (case g__law_makes => k_is)
    (case l__law_makes => k_is)
    (case o__law_makes => k_is)
    (case k__law_makes => k_is)
    (case g__law_exact => k_is)
    (case l__law_exact => k_is)
    (case o__law_exact => k_is)
    (case k__law_exact => k_is)
    (case g__law_good => k_is)
    (case l__law_good => k_is)
    (case o__law_good => k_is)
    (case k__law_good => k_is)
    (case g__law_walks => k_is)
    (case l__law_walks => k_is)
    (case o__law_walks => k_is)
    (case k__law_walks => k_is)
    (case g_law => k_is)
    (case l_law => k_is)
    (case o_law => k_is)
    (case k_law => k_is)
    (case w_MOST_COUNT => k_is)
    (case w_MOST_SUM => k_is)
    (case w_MOST_WORTH => k_is)
    (case w_MOST_PAID => k_is)
    (case m_ValueError => k_is)
    (case m_abs => k_is)
    (case m_bool => k_is)
    (case m_dict => k_is)
    (case m_int => k_is)
    (case m_isinstance => k_is)
    (case m_len => k_is)
    (case m_list => k_is)
    (case m_max => k_is)
    (case m_min => k_is)
    (case m_range => k_is)
    (case m_reversed => k_is)
    (case m_sorted => k_is)
    (case m_sum => k_is)
    (case m_tuple => k_is)

