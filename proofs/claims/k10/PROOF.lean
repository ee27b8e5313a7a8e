import PyProof.Rows.All
import Wide.All
import OpenK.AllK
import Wide.FinOn
import PyProof.EqAt
import PyProof.EqKinds
import PyProof.TupleCall
import HandS.ForMost
import HandS.ForExc
import HandS.TryMany
import HandS.Sort
import HandS.SortRule
import HandS.IsInst
import HandS.ExcIs
import HandS.Evl
import HandS.Walk
import HandS.Strs
import HandS.SetFor
import HandS.RevRange
import HandS.Conv
import HandS.Style
import HandS.Zip
import PySem.Challenge.RW_tilldrawer_k10_whole_scales
set_option Elab.async false
set_option linter.all false
set_option maxRecDepth 100000
set_option maxHeartbeats 4000000
namespace K10
open PySem PySem.Spec PyProof.Rows L2
def topS (i : Nat) : Stmt := PySem.Challenge.pw_tilldrawer_k10_whole_scales.main.body.getD i (.Pass ⟨0, 0, 0, 0⟩)
abbrev s_worth : Stmt := topS 13
abbrev N_worth : List Str := ["till", "value", "count"]
abbrev P_worth : List Str := ["till"]
theorem sc_worth : FnScope N_worth P_worth (defScope s_worth) := ⟨rfl, rfl, rfl, by decide +kernel, rfl, by decide +kernel, by decide +kernel⟩
abbrev s_with_kind : Stmt := topS 15
abbrev N_with_kind : List Str := ["row", "value", "count", "out", "usable", "size"]
abbrev P_with_kind : List Str := ["row", "value", "count"]
theorem sc_with_kind : FnScope N_with_kind P_with_kind (defScope s_with_kind) := ⟨rfl, rfl, rfl, by decide +kernel, rfl, by decide +kernel, by decide +kernel⟩
abbrev s__bundles : Stmt := topS 16
abbrev N__bundles : List Str := ["count", "sizes", "size", "taken"]
abbrev P__bundles : List Str := ["count"]
theorem sc__bundles : FnScope N__bundles P__bundles (defScope s__bundles) := ⟨rfl, rfl, rfl, by decide +kernel, rfl, by decide +kernel, by decide +kernel⟩
abbrev s__with_bundle : Stmt := topS 17
abbrev N__with_bundle : List Str := ["row", "value", "size", "out", "due", "rest"]
abbrev P__with_bundle : List Str := ["row", "value", "size"]
theorem sc__with_bundle : FnScope N__with_bundle P__with_bundle (defScope s__with_bundle) := ⟨rfl, rfl, rfl, by decide +kernel, rfl, by decide +kernel, by decide +kernel⟩
abbrev s_scales : Stmt := topS 20
abbrev N_scales : List Str := ["till", "purse", "below", "above", "held", "row", "rows", "value", "lies"]
abbrev P_scales : List Str := ["till", "purse"]
theorem sc_scales : FnScope N_scales P_scales (defScope s_scales) := ⟨rfl, rfl, rfl, by decide +kernel, rfl, by decide +kernel, by decide +kernel⟩
abbrev s__check_purse : Stmt := topS 21
abbrev N__check_purse : List Str := ["till", "purse", "there", "value", "_"]
abbrev P__check_purse : List Str := ["till", "purse"]
theorem sc__check_purse : FnScope N__check_purse P__check_purse (defScope s__check_purse) := ⟨rfl, rfl, rfl, by decide +kernel, rfl, by decide +kernel, by decide +kernel⟩
abbrev s__with_numbers : Stmt := topS 22
abbrev N__with_numbers : List Str := ["row", "value", "lies", "held", "paying"]
abbrev P__with_numbers : List Str := ["row", "value", "lies", "held"]
theorem sc__with_numbers : FnScope N__with_numbers P__with_numbers (defScope s__with_numbers) := ⟨rfl, rfl, rfl, by decide +kernel, rfl, by decide +kernel, by decide +kernel⟩
abbrev s__law_cell_at : Stmt := topS 24
abbrev N__law_cell_at : List Str := ["_law_script", "_law_k"]
abbrev P__law_cell_at : List Str := ["_law_script", "_law_k"]
theorem sc__law_cell_at : FnScope N__law_cell_at P__law_cell_at (defScope s__law_cell_at) := ⟨rfl, rfl, rfl, by decide +kernel, rfl, by decide +kernel, by decide +kernel⟩
abbrev s__law_whole : Stmt := topS 25
abbrev N__law_whole : List Str := ["_law_found"]
abbrev P__law_whole : List Str := ["_law_found"]
theorem sc__law_whole : FnScope N__law_whole P__law_whole (defScope s__law_whole) := ⟨rfl, rfl, rfl, by decide +kernel, rfl, by decide +kernel, by decide +kernel⟩
abbrev s__law_mixed : Stmt := topS 26
abbrev N__law_mixed : List Str := ["_law_cell", "_law_k"]
abbrev P__law_mixed : List Str := ["_law_cell", "_law_k"]
theorem sc__law_mixed : FnScope N__law_mixed P__law_mixed (defScope s__law_mixed) := ⟨rfl, rfl, rfl, by decide +kernel, rfl, by decide +kernel, by decide +kernel⟩
abbrev s__law_value : Stmt := topS 27
abbrev N__law_value : List Str := ["_law_cell", "_law_k", "_law_drawn"]
abbrev P__law_value : List Str := ["_law_cell", "_law_k"]
theorem sc__law_value : FnScope N__law_value P__law_value (defScope s__law_value) := ⟨rfl, rfl, rfl, by decide +kernel, rfl, by decide +kernel, by decide +kernel⟩
abbrev s__law_till_and_purse : Stmt := topS 28
abbrev N__law_till_and_purse : List Str := ["_law_script", "_law_most", "_law_many", "_law_till", "_law_purse", "_law_seen", "_law_low", "_law_k", "_law_value_here", "_law_drawn", "_law_count", "_law_own_here"]
abbrev P__law_till_and_purse : List Str := ["_law_script", "_law_most"]
theorem sc__law_till_and_purse : FnScope N__law_till_and_purse P__law_till_and_purse (defScope s__law_till_and_purse) := ⟨rfl, rfl, rfl, by decide +kernel, rfl, by decide +kernel, by decide +kernel⟩
abbrev s__law_own : Stmt := topS 29
abbrev N__law_own : List Str := ["_law_purse", "_law_value_here", "_law_pair"]
abbrev P__law_own : List Str := ["_law_purse", "_law_value_here"]
theorem sc__law_own : FnScope N__law_own P__law_own (defScope s__law_own) := ⟨rfl, rfl, rfl, by decide +kernel, rfl, by decide +kernel, by decide +kernel⟩
abbrev s__law_total : Stmt := topS 30
abbrev N__law_total : List Str := ["_law_pairs", "_law_total_here", "_law_pair"]
abbrev P__law_total : List Str := ["_law_pairs"]
theorem sc__law_total : FnScope N__law_total P__law_total (defScope s__law_total) := ⟨rfl, rfl, rfl, by decide +kernel, rfl, by decide +kernel, by decide +kernel⟩
abbrev s__law_lightest : Stmt := topS 31
abbrev N__law_lightest : List Str := ["_law_ahead", "_law_at", "_law_pair", "_law_own_here", "_law_found", "_law_many", "_law_before", "_law_few"]
abbrev P__law_lightest : List Str := ["_law_ahead", "_law_at", "_law_pair", "_law_own_here"]
theorem sc__law_lightest : FnScope N__law_lightest P__law_lightest (defScope s__law_lightest) := ⟨rfl, rfl, rfl, by decide +kernel, rfl, by decide +kernel, by decide +kernel⟩
abbrev s__law_row : Stmt := topS 32
abbrev N__law_row : List Str := ["_law_row_here", "_law_size", "_law_few"]
abbrev P__law_row : List Str := ["_law_row_here", "_law_size"]
theorem sc__law_row : FnScope N__law_row P__law_row (defScope s__law_row) := ⟨rfl, rfl, rfl, by decide +kernel, rfl, by decide +kernel, by decide +kernel⟩
abbrev s__law_scaled : Stmt := topS 33
abbrev N__law_scaled : List Str := ["_law_rows", "_law_till", "_law_purse", "_law_low", "_law_size", "_law_k", "_law_own_here", "_law_at"]
abbrev P__law_scaled : List Str := ["_law_rows", "_law_till", "_law_purse"]
theorem sc__law_scaled : FnScope N__law_scaled P__law_scaled (defScope s__law_scaled) := ⟨rfl, rfl, rfl, by decide +kernel, rfl, by decide +kernel, by decide +kernel⟩
abbrev s__law_tried : Stmt := topS 34
abbrev N__law_tried : List Str := ["_law_till", "_law_purse"]
abbrev P__law_tried : List Str := ["_law_till", "_law_purse"]
theorem sc__law_tried : FnScope N__law_tried P__law_tried (defScope s__law_tried) := ⟨rfl, rfl, rfl, by decide +kernel, rfl, by decide +kernel, by decide +kernel⟩
abbrev s__law_any : Stmt := topS 35
abbrev N__law_any : List Str := ["_law_till", "_law_purse", "e"]
abbrev P__law_any : List Str := ["_law_till", "_law_purse"]
theorem sc__law_any : FnScope N__law_any P__law_any (defScope s__law_any) := ⟨rfl, rfl, rfl, by decide +kernel, rfl, by decide +kernel, by decide +kernel⟩
abbrev s__law_odd : Stmt := topS 36
abbrev N__law_odd : List Str := ["_law_till", "_law_purse", "_law_cell", "_law_value_here", "_law_rest", "_law_one", "_law_values", "_law_many", "_law_pair"]
abbrev P__law_odd : List Str := ["_law_till", "_law_purse", "_law_cell"]
theorem sc__law_odd : FnScope N__law_odd P__law_odd (defScope s__law_odd) := ⟨rfl, rfl, rfl, by decide +kernel, rfl, by decide +kernel, by decide +kernel⟩
abbrev s_law : Stmt := topS 37
abbrev N_law : List Str := ["_law_script", "_law_drawn", "_law_till", "_law_purse", "_law_handed", "_law_due", "_law_pair", "_law_rows", "_law_kept", "_law_at", "_law_k", "_law_row_here", "_law_one"]
abbrev P_law : List Str := ["_law_script"]
theorem sc_law : FnScope N_law P_law (defScope s_law) := ⟨rfl, rfl, rfl, by decide +kernel, rfl, by decide +kernel, by decide +kernel⟩
/-- what the top has written -/
structure Tx (K : PySem.W.Frag) (mg : Str → Option Value) : Type where
  c_TillError : Addr
  c_NoTill : Addr
  c_NoKind : Addr
  c_Twice : Addr
  c_NoCount : Addr
  c_NoSum : Addr
  c_TooLittle : Addr
  c_NoChange : Addr
  c_TooFew : Addr
  c_StillHeld : Addr
  c_NoDeed : Addr
  a_worth : Addr
  d_worth : FuncData
  a_with_kind : Addr
  d_with_kind : FuncData
  a__bundles : Addr
  d__bundles : FuncData
  a__with_bundle : Addr
  d__with_bundle : FuncData
  a_scales : Addr
  d_scales : FuncData
  a__check_purse : Addr
  d__check_purse : FuncData
  a__with_numbers : Addr
  d__with_numbers : FuncData
  a__law_cell_at : Addr
  d__law_cell_at : FuncData
  a__law_whole : Addr
  d__law_whole : FuncData
  a__law_mixed : Addr
  d__law_mixed : FuncData
  a__law_value : Addr
  d__law_value : FuncData
  a__law_till_and_purse : Addr
  d__law_till_and_purse : FuncData
  a__law_own : Addr
  d__law_own : FuncData
  a__law_total : Addr
  d__law_total : FuncData
  a__law_lightest : Addr
  d__law_lightest : FuncData
  a__law_row : Addr
  d__law_row : FuncData
  a__law_scaled : Addr
  d__law_scaled : FuncData
  a__law_tried : Addr
  d__law_tried : FuncData
  a__law_any : Addr
  d__law_any : FuncData
  a__law_odd : Addr
  d__law_odd : FuncData
  a_law : Addr
  d_law : FuncData
  g_TillError : mg "TillError" = some (.ref c_TillError)
  x_TillError : PySem.W.excIn K c_TillError [.type "ValueError", .type "Exception", .type "BaseException", .type "object"] "ValueError.__new__" = true
  k_TillError : PySem.W.keepIn K (.ref c_TillError) = true
  b_TillError : PySem.W.subIn K (.ref c_TillError) (.type "BaseException") = some true
  t_TillError : PySem.W.typeIn K (.ref c_TillError) = some (.type "type")
  i_TillError : PySem.W.isClsIn K c_TillError = true
  g_NoTill : mg "NoTill" = some (.ref c_NoTill)
  x_NoTill : PySem.W.excIn K c_NoTill [.type "ValueError", .type "Exception", .type "BaseException", .type "object"] "ValueError.__new__" = true
  k_NoTill : PySem.W.keepIn K (.ref c_NoTill) = true
  b_NoTill : PySem.W.subIn K (.ref c_NoTill) (.type "BaseException") = some true
  t_NoTill : PySem.W.typeIn K (.ref c_NoTill) = some (.type "type")
  i_NoTill : PySem.W.isClsIn K c_NoTill = true
  g_NoKind : mg "NoKind" = some (.ref c_NoKind)
  x_NoKind : PySem.W.excIn K c_NoKind [.type "ValueError", .type "Exception", .type "BaseException", .type "object"] "ValueError.__new__" = true
  k_NoKind : PySem.W.keepIn K (.ref c_NoKind) = true
  b_NoKind : PySem.W.subIn K (.ref c_NoKind) (.type "BaseException") = some true
  t_NoKind : PySem.W.typeIn K (.ref c_NoKind) = some (.type "type")
  i_NoKind : PySem.W.isClsIn K c_NoKind = true
  g_Twice : mg "Twice" = some (.ref c_Twice)
  x_Twice : PySem.W.excIn K c_Twice [.type "ValueError", .type "Exception", .type "BaseException", .type "object"] "ValueError.__new__" = true
  k_Twice : PySem.W.keepIn K (.ref c_Twice) = true
  b_Twice : PySem.W.subIn K (.ref c_Twice) (.type "BaseException") = some true
  t_Twice : PySem.W.typeIn K (.ref c_Twice) = some (.type "type")
  i_Twice : PySem.W.isClsIn K c_Twice = true
  g_NoCount : mg "NoCount" = some (.ref c_NoCount)
  x_NoCount : PySem.W.excIn K c_NoCount [.type "ValueError", .type "Exception", .type "BaseException", .type "object"] "ValueError.__new__" = true
  k_NoCount : PySem.W.keepIn K (.ref c_NoCount) = true
  b_NoCount : PySem.W.subIn K (.ref c_NoCount) (.type "BaseException") = some true
  t_NoCount : PySem.W.typeIn K (.ref c_NoCount) = some (.type "type")
  i_NoCount : PySem.W.isClsIn K c_NoCount = true
  g_NoSum : mg "NoSum" = some (.ref c_NoSum)
  x_NoSum : PySem.W.excIn K c_NoSum [.type "ValueError", .type "Exception", .type "BaseException", .type "object"] "ValueError.__new__" = true
  k_NoSum : PySem.W.keepIn K (.ref c_NoSum) = true
  b_NoSum : PySem.W.subIn K (.ref c_NoSum) (.type "BaseException") = some true
  t_NoSum : PySem.W.typeIn K (.ref c_NoSum) = some (.type "type")
  i_NoSum : PySem.W.isClsIn K c_NoSum = true
  g_TooLittle : mg "TooLittle" = some (.ref c_TooLittle)
  x_TooLittle : PySem.W.excIn K c_TooLittle [.type "ValueError", .type "Exception", .type "BaseException", .type "object"] "ValueError.__new__" = true
  k_TooLittle : PySem.W.keepIn K (.ref c_TooLittle) = true
  b_TooLittle : PySem.W.subIn K (.ref c_TooLittle) (.type "BaseException") = some true
  t_TooLittle : PySem.W.typeIn K (.ref c_TooLittle) = some (.type "type")
  i_TooLittle : PySem.W.isClsIn K c_TooLittle = true
  g_NoChange : mg "NoChange" = some (.ref c_NoChange)
  x_NoChange : PySem.W.excIn K c_NoChange [.type "ValueError", .type "Exception", .type "BaseException", .type "object"] "ValueError.__new__" = true
  k_NoChange : PySem.W.keepIn K (.ref c_NoChange) = true
  b_NoChange : PySem.W.subIn K (.ref c_NoChange) (.type "BaseException") = some true
  t_NoChange : PySem.W.typeIn K (.ref c_NoChange) = some (.type "type")
  i_NoChange : PySem.W.isClsIn K c_NoChange = true
  g_TooFew : mg "TooFew" = some (.ref c_TooFew)
  x_TooFew : PySem.W.excIn K c_TooFew [.type "ValueError", .type "Exception", .type "BaseException", .type "object"] "ValueError.__new__" = true
  k_TooFew : PySem.W.keepIn K (.ref c_TooFew) = true
  b_TooFew : PySem.W.subIn K (.ref c_TooFew) (.type "BaseException") = some true
  t_TooFew : PySem.W.typeIn K (.ref c_TooFew) = some (.type "type")
  i_TooFew : PySem.W.isClsIn K c_TooFew = true
  g_StillHeld : mg "StillHeld" = some (.ref c_StillHeld)
  x_StillHeld : PySem.W.excIn K c_StillHeld [.type "ValueError", .type "Exception", .type "BaseException", .type "object"] "ValueError.__new__" = true
  k_StillHeld : PySem.W.keepIn K (.ref c_StillHeld) = true
  b_StillHeld : PySem.W.subIn K (.ref c_StillHeld) (.type "BaseException") = some true
  t_StillHeld : PySem.W.typeIn K (.ref c_StillHeld) = some (.type "type")
  i_StillHeld : PySem.W.isClsIn K c_StillHeld = true
  g_NoDeed : mg "NoDeed" = some (.ref c_NoDeed)
  x_NoDeed : PySem.W.excIn K c_NoDeed [.type "ValueError", .type "Exception", .type "BaseException", .type "object"] "ValueError.__new__" = true
  k_NoDeed : PySem.W.keepIn K (.ref c_NoDeed) = true
  b_NoDeed : PySem.W.subIn K (.ref c_NoDeed) (.type "BaseException") = some true
  t_NoDeed : PySem.W.typeIn K (.ref c_NoDeed) = some (.type "type")
  i_NoDeed : PySem.W.isClsIn K c_NoDeed = true
  u_NoSum_NoKind : PySem.W.subIn K (.ref c_NoSum) (.ref c_NoKind) = some false
  u_NoSum_NoSum : PySem.W.subIn K (.ref c_NoSum) (.ref c_NoSum) = some true
  u_NoSum_TillError : PySem.W.subIn K (.ref c_NoSum) (.ref c_TillError) = some true
  u_NoSum_NoChange : PySem.W.subIn K (.ref c_NoSum) (.ref c_NoChange) = some false
  u_NoSum_NoCount : PySem.W.subIn K (.ref c_NoSum) (.ref c_NoCount) = some false
  u_NoSum_NoDeed : PySem.W.subIn K (.ref c_NoSum) (.ref c_NoDeed) = some false
  u_NoSum_NoTill : PySem.W.subIn K (.ref c_NoSum) (.ref c_NoTill) = some false
  u_NoSum_StillHeld : PySem.W.subIn K (.ref c_NoSum) (.ref c_StillHeld) = some false
  u_NoSum_TooFew : PySem.W.subIn K (.ref c_NoSum) (.ref c_TooFew) = some false
  u_NoSum_TooLittle : PySem.W.subIn K (.ref c_NoSum) (.ref c_TooLittle) = some false
  u_NoSum_Twice : PySem.W.subIn K (.ref c_NoSum) (.ref c_Twice) = some false
  u_NoKind_NoKind : PySem.W.subIn K (.ref c_NoKind) (.ref c_NoKind) = some true
  u_NoKind_NoSum : PySem.W.subIn K (.ref c_NoKind) (.ref c_NoSum) = some false
  u_NoKind_TillError : PySem.W.subIn K (.ref c_NoKind) (.ref c_TillError) = some true
  u_NoKind_NoChange : PySem.W.subIn K (.ref c_NoKind) (.ref c_NoChange) = some false
  u_NoKind_NoCount : PySem.W.subIn K (.ref c_NoKind) (.ref c_NoCount) = some false
  u_NoKind_NoDeed : PySem.W.subIn K (.ref c_NoKind) (.ref c_NoDeed) = some false
  u_NoKind_NoTill : PySem.W.subIn K (.ref c_NoKind) (.ref c_NoTill) = some false
  u_NoKind_StillHeld : PySem.W.subIn K (.ref c_NoKind) (.ref c_StillHeld) = some false
  u_NoKind_TooFew : PySem.W.subIn K (.ref c_NoKind) (.ref c_TooFew) = some false
  u_NoKind_TooLittle : PySem.W.subIn K (.ref c_NoKind) (.ref c_TooLittle) = some false
  u_NoKind_Twice : PySem.W.subIn K (.ref c_NoKind) (.ref c_Twice) = some false
  e_NoSum : ExcC K c_NoSum
  z_NoSum : PySem.W.kitOne K (.ref c_NoSum) (.type "ValueError") = some true
  y_NoSum : PySem.W.kitAny K (.ref c_NoSum) [.ref c_NoChange, .ref c_NoCount, .ref c_NoDeed, .ref c_NoTill, .ref c_StillHeld, .ref c_TooFew, .ref c_TooLittle, .ref c_Twice] = some false
  e_NoKind : ExcC K c_NoKind
  z_NoKind : PySem.W.kitOne K (.ref c_NoKind) (.type "ValueError") = some true
  y_NoKind : PySem.W.kitAny K (.ref c_NoKind) [.ref c_NoChange, .ref c_NoCount, .ref c_NoDeed, .ref c_NoTill, .ref c_StillHeld, .ref c_TooFew, .ref c_TooLittle, .ref c_Twice] = some false
  f_worth : Fun K "worth" "worth" s_worth a_worth d_worth
  p_worth : Binds K d_worth P_worth []
  g_worth : mg "worth" = some (.ref a_worth)
  f_with_kind : Fun K "with_kind" "with_kind" s_with_kind a_with_kind d_with_kind
  p_with_kind : Binds K d_with_kind P_with_kind []
  g_with_kind : mg "with_kind" = some (.ref a_with_kind)
  f__bundles : Fun K "_bundles" "_bundles" s__bundles a__bundles d__bundles
  p__bundles : Binds K d__bundles P__bundles []
  g__bundles : mg "_bundles" = some (.ref a__bundles)
  f__with_bundle : Fun K "_with_bundle" "_with_bundle" s__with_bundle a__with_bundle d__with_bundle
  p__with_bundle : Binds K d__with_bundle P__with_bundle []
  g__with_bundle : mg "_with_bundle" = some (.ref a__with_bundle)
  f_scales : Fun K "scales" "scales" s_scales a_scales d_scales
  p_scales : Binds K d_scales P_scales []
  g_scales : mg "scales" = some (.ref a_scales)
  f__check_purse : Fun K "_check_purse" "_check_purse" s__check_purse a__check_purse d__check_purse
  p__check_purse : Binds K d__check_purse P__check_purse []
  g__check_purse : mg "_check_purse" = some (.ref a__check_purse)
  f__with_numbers : Fun K "_with_numbers" "_with_numbers" s__with_numbers a__with_numbers d__with_numbers
  p__with_numbers : Binds K d__with_numbers P__with_numbers []
  g__with_numbers : mg "_with_numbers" = some (.ref a__with_numbers)
  f__law_cell_at : Fun K "_law_cell_at" "_law_cell_at" s__law_cell_at a__law_cell_at d__law_cell_at
  p__law_cell_at : Binds K d__law_cell_at P__law_cell_at []
  g__law_cell_at : mg "_law_cell_at" = some (.ref a__law_cell_at)
  f__law_whole : Fun K "_law_whole" "_law_whole" s__law_whole a__law_whole d__law_whole
  p__law_whole : Binds K d__law_whole P__law_whole []
  g__law_whole : mg "_law_whole" = some (.ref a__law_whole)
  f__law_mixed : Fun K "_law_mixed" "_law_mixed" s__law_mixed a__law_mixed d__law_mixed
  p__law_mixed : Binds K d__law_mixed P__law_mixed []
  g__law_mixed : mg "_law_mixed" = some (.ref a__law_mixed)
  f__law_value : Fun K "_law_value" "_law_value" s__law_value a__law_value d__law_value
  p__law_value : Binds K d__law_value P__law_value []
  g__law_value : mg "_law_value" = some (.ref a__law_value)
  f__law_till_and_purse : Fun K "_law_till_and_purse" "_law_till_and_purse" s__law_till_and_purse a__law_till_and_purse d__law_till_and_purse
  p__law_till_and_purse : Binds K d__law_till_and_purse P__law_till_and_purse []
  g__law_till_and_purse : mg "_law_till_and_purse" = some (.ref a__law_till_and_purse)
  f__law_own : Fun K "_law_own" "_law_own" s__law_own a__law_own d__law_own
  p__law_own : Binds K d__law_own P__law_own []
  g__law_own : mg "_law_own" = some (.ref a__law_own)
  f__law_total : Fun K "_law_total" "_law_total" s__law_total a__law_total d__law_total
  p__law_total : Binds K d__law_total P__law_total []
  g__law_total : mg "_law_total" = some (.ref a__law_total)
  f__law_lightest : Fun K "_law_lightest" "_law_lightest" s__law_lightest a__law_lightest d__law_lightest
  p__law_lightest : Binds K d__law_lightest P__law_lightest []
  g__law_lightest : mg "_law_lightest" = some (.ref a__law_lightest)
  f__law_row : Fun K "_law_row" "_law_row" s__law_row a__law_row d__law_row
  p__law_row : Binds K d__law_row P__law_row []
  g__law_row : mg "_law_row" = some (.ref a__law_row)
  f__law_scaled : Fun K "_law_scaled" "_law_scaled" s__law_scaled a__law_scaled d__law_scaled
  p__law_scaled : Binds K d__law_scaled P__law_scaled []
  g__law_scaled : mg "_law_scaled" = some (.ref a__law_scaled)
  f__law_tried : Fun K "_law_tried" "_law_tried" s__law_tried a__law_tried d__law_tried
  p__law_tried : Binds K d__law_tried P__law_tried []
  g__law_tried : mg "_law_tried" = some (.ref a__law_tried)
  f__law_any : Fun K "_law_any" "_law_any" s__law_any a__law_any d__law_any
  p__law_any : Binds K d__law_any P__law_any []
  g__law_any : mg "_law_any" = some (.ref a__law_any)
  f__law_odd : Fun K "_law_odd" "_law_odd" s__law_odd a__law_odd d__law_odd
  p__law_odd : Binds K d__law_odd P__law_odd []
  g__law_odd : mg "_law_odd" = some (.ref a__law_odd)
  f_law : Fun K "law" "law" s_law a_law d_law
  p_law : Binds K d_law P_law []
  g_law : mg "law" = some (.ref a_law)
  w_MOST_WORTH : ∃ t, mg "MOST_WORTH" = some (.int 1500 t)
  m_ValueError : mg "ValueError" = none
  m_abs : mg "abs" = none
  m_bool : mg "bool" = none
  m_dict : mg "dict" = none
  m_int : mg "int" = none
  m_isinstance : mg "isinstance" = none
  m_len : mg "len" = none
  m_list : mg "list" = none
  m_min : mg "min" = none
  m_range : mg "range" = none
  m_sorted : mg "sorted" = none
  m_sum : mg "sum" = none
section
variable {P : Program} {w : World} {K : PySem.W.Frag} {mg : Str → Option Value} {base : Heap}
/-! ### small things over the layer -/
abbrev CXR (P : Program) (w : World) : CXT := L2.CX P w
abbrev Ex := Evl.Ex
theorem Ex.rfl' {H : Hp} : Ex H H := fun _ _ h => h
theorem Ex.tr {H H1 H2 : Hp} (a : Ex H H1) (b : Ex H1 H2) : Ex H H2 := Evl.Ex.trans a b
theorem Ex.nw {H : Hp} {p : Addr} {o : HO} (h : H p = none) : Ex H (upd H p o) := Evl.Ex.new h
theorem Ex.seq {K : PySem.W.Frag} {H H' : Hp} {a : Addr} {xs : List V} (e : Ex H H') (h : SqL K H a xs) : SqL K H' a xs := Evl.ex_l e h
theorem ipR {X : Cx} {op : Operator} {r : R2} (ho : OpR X (inplaceOp op) r) : PIp X op r := fun pins s σ H x y v u Q I rx ry h => ho pins s σ H x y v u Q I rx ry h
theorem ip_mulR {X : Cx} : PIp X .Mult (rI CMul fun i j => .int (i * j)) := ipR iop_mul
/-- isinstance of the caught error: a class, a tuple of classes just laid; the error's class is told in the reading -/
def rIsE1 (K : PySem.W.Frag) (cls : Value) (d : Option Addr) (a : Addr) : List V → Hp → VK → Prop := fun xs H Q => ∃ (D : Addr) (c : V) (cv : Value) (b : Bool), cls = .ref D ∧ d = none ∧ ExcC K D ∧ xs = [.ref a, c] ∧ (∀ u, RelV c u → u = cv) ∧ PySem.W.kitOne K (.ref D) cv = some b ∧ Q (.bl b) H
theorem call_isE1 {X : Cx} {a : Addr} {cls : Value} {d : Option Addr} {oe : Obj} {pn : List (Addr × Obj)} (hz : Zc cls d oe) (hf : ∃ vs, oe.data = .fields vs) : CallR (X.suite a ((a, oe) :: pn)) (.builtin "isinstance") (rIsE1 X.K cls d a) := by
  intro pins s σ H xs us Q I r h
  obtain ⟨D, c, cv, b, rfl, rfl, C, rfl, hcv, e, q⟩ := h
  exact call_isE C hz hf pins s σ H _ us Q I r ⟨c, cv, b, rfl, hcv, e, q⟩
def rIsET (K : PySem.W.Frag) (cls : Value) (d : Option Addr) (a : Addr) : List V → Hp → VK → Prop := fun xs H Q => ∃ (D tp : Addr) (cs : List V) (us : List Value) (b : Bool), cls = .ref D ∧ d = none ∧ ExcC K D ∧ xs = [.ref a, .ref tp] ∧ H tp = some (.tup cs) ∧ Paired ClsV cs us ∧ PySem.W.kitAny K (.ref D) us = some b ∧ Q (.bl b) H
theorem call_isET {X : Cx} {a : Addr} {cls : Value} {d : Option Addr} {oe : Obj} {pn : List (Addr × Obj)} (hz : Zc cls d oe) (hf : ∃ fs, oe.data = .fields fs) : CallR (X.suite a ((a, oe) :: pn)) (.builtin "isinstance") (rIsET X.K cls d a) := by
  intro pins s σ H xs us Q I r h
  obtain ⟨D, tp, cs, ws, b, rfl, rfl, C, rfl, hT, k, e, q⟩ := h
  obtain ⟨w1, w2, rfl, p1, p2⟩ := vals2 r
  cases (show w2 = Value.ref tp from p2)
  cases (show w1 = Value.ref a from p1)
  obtain ⟨hgt, _⟩ := I.pin (a, oe) (List.mem_append.mpr (.inl List.mem_cons_self))
  obtain ⟨fs, hv⟩ := hf
  have J : PySem.W.InstAt s.heap a oe D none := by
    obtain ⟨oc, od, odt, oss⟩ := oe
    obtain ⟨k1, k2⟩ := hz
    dsimp only at k1 k2 hv
    subst k1 k2 hv
    exact ⟨hgt, rfl, rfl, trivial⟩
  obtain ⟨_, zs, rv, o, k1, k2, n, k3⟩ := (show ObjOk X.prog X.w H s.heap tp (.tup cs) from I.hok tp _ hT)
  have e3 := ClsV.all k rv
  subst e3
  obtain ⟨oc, od, dt, sl⟩ := o
  simp only at k2 k3
  subst k2 k3
  exact PySem.W.kia_tup (PySem.W.handS_kitx_exc C.hg C.hk C.hs C.hd C.ha C.hn C.ht C.hm) I.kIn J k1 e (fun z => nomatch z) fun tk => ⟨.bl b, H, I.tok tk, rfl, q⟩
/-- len, list(x), told by a K that is named -/
abbrev rLenK (K : PySem.W.Frag) : List V → Hp → VK → Prop := fun zs H Q => ∃ p ys, zs = [.ref p] ∧ (SqL K H p ys ∨ SqT K H p ys) ∧ Q (.int ys.length) H
abbrev rListK (K : PySem.W.Frag) : List V → Hp → VK → Prop := fun zs H Q => ∃ p ys, zs = [.ref p] ∧ (SqL K H p ys ∨ SqT K H p ys) ∧ ∀ l, H l = none → Q (.ref l) (upd H l (.lst ys))
/-- pairs of ints, each a tracked tuple -/
def Prs (H : Hp) : List V → List (Int × Int) → Prop := Paired fun x p => ∃ t, x = .ref t ∧ H t = some (.tup [.int p.1, .int p.2])
theorem Prs.ex {H H' : Hp} (e : Ex H H') : ∀ {xs : List V} {ps : List (Int × Int)}, Prs H xs ps → Prs H' xs ps
  | _, _, .nil => .nil
  | _, _, .cons ⟨t, h1, h2⟩ r => .cons ⟨t, h1, e _ _ h2⟩ (Prs.ex e r)
theorem Prs.len {H : Hp} {xs : List V} {ps : List (Int × Int)} (h : Prs H xs ps) : xs.length = ps.length := Paired.length h
theorem Prs.snoc {H : Hp} : ∀ {xs : List V} {ps : List (Int × Int)} {x : V} {p : Int × Int}, Prs H xs ps → (∃ t, x = .ref t ∧ H t = some (.tup [.int p.1, .int p.2])) → Prs H (xs ++ [x]) (ps ++ [p])
  | _, _, _, _, .nil, h => .cons h .nil
  | _, _, _, _, .cons a r, h => .cons a (Prs.snoc r h)
theorem Prs.get {H : Hp} : ∀ {xs : List V} {ps : List (Int × Int)} {i : Nat} {x : V}, Prs H xs ps → xs[i]? = some x → ∃ p t, ps[i]? = some p ∧ x = .ref t ∧ H t = some (.tup [.int p.1, .int p.2])
  | _, _, _, _, .nil, e => by simp at e
  | _, _, 0, _, .cons (b := p) ⟨t, h1, h2⟩ _, e => by simp at e; subst e; exact ⟨p, t, by simp, h1, h2⟩
  | _, _, i + 1, x, .cons _ r, e => by
    obtain ⟨p, t, h1, h2⟩ := Prs.get (i := i) (x := x) r (by simpa using e)
    exact ⟨p, t, by simpa using h1, h2⟩
theorem Prs.getL {H : Hp} : ∀ {xs : List V} {ps : List (Int × Int)} {i : Nat} {p : Int × Int}, Prs H xs ps → ps[i]? = some p → ∃ t, xs[i]? = some (.ref t) ∧ H t = some (.tup [.int p.1, .int p.2])
  | _, _, _, _, .nil, e => by simp at e
  | _, _, 0, _, .cons ⟨t, h1, h2⟩ _, e => by simp at e; subst e; exact ⟨t, by simpa using h1, h2⟩
  | _, _, i + 1, p, .cons _ r, e => by
    obtain ⟨t, h1, h2⟩ := Prs.getL (i := i) (p := p) r (by simpa using e)
    exact ⟨t, by simpa using h1, h2⟩
/-- a till (or purse): a list of such pairs -/
def Till (K : PySem.W.Frag) (H : Hp) (a : Addr) (ps : List (Int × Int)) : Prop := ∃ xs, SqL K H a xs ∧ Prs H xs ps
theorem Till.ex {K : PySem.W.Frag} {H H' : Hp} {a : Addr} {ps : List (Int × Int)} (e : Ex H H') (h : Till K H a ps) : Till K H' a ps :=
  let ⟨xs, h1, h2⟩ := h; ⟨xs, Ex.seq e h1, h2.ex e⟩
/-- what a def that gives no new list answers -/
def Ret (v : V) (H : Hp) (Q : VK) : Prop := ∀ H2, Ex H H2 → Q v H2
theorem Ret.at {v : V} {H H' : Hp} {Q : VK} (k : Ret v H Q) (e : Ex H H') : Q v H' := k H' e
theorem len63 {n : Nat} (h : n ≤ 1000000) : n ≤ sizeLine := Nat.le_trans h (by decide)
theorem len63' {n : Nat} (h : n < 1000000) : n < sizeLine := Nat.lt_of_lt_of_le h (by decide)
theorem iteD {c A B : Prop} [Decidable c] (h1 : c → A) (h2 : ¬ c → B) : if decide c = true then A else B := by
  by_cases h : c
  · rw [if_pos (decide_eq_true h)]; exact h1 h
  · rw [if_neg (by simpa using h)]; exact h2 h
theorem iteDN {c A B : Prop} [Decidable c] (h1 : ¬ c → A) (h2 : c → B) : if (!decide c) = true then A else B := by
  by_cases h : c
  · rw [if_neg (by simpa using h)]; exact h2 h
  · rw [if_pos (by simpa using h)]; exact h1 h
theorem iteVI {i j : Int} {A B : Prop} (h1 : i = j → A) (h2 : ¬ i = j → B) : if decide (V.int i = V.int j) = true then A else B :=
  iteD (fun e => h1 (V.int.inj e)) fun e => h2 fun z => e (congrArg V.int z)
theorem iteVN {i j : Int} {A B : Prop} (h1 : ¬ i = j → A) (h2 : i = j → B) : if (!decide (V.int i = V.int j)) = true then A else B :=
  iteDN (fun e => h1 fun z => e (congrArg V.int z)) fun e => h2 (V.int.inj e)
theorem iteB {b : Bool} {A B : Prop} (h1 : b = true → A) (h2 : b = false → B) : if b = true then A else B := by
  cases b with
  | true => exact iteT (h1 rfl)
  | false => exact iteF (h2 rfl)
/-- what «except D» says of an error of the class C -/
theorem exm_mk {K : PySem.W.Frag} {C D : Addr} {b : Bool} (h1 : PySem.W.subIn K (.ref D) (.type "BaseException") = some true) (h2 : PySem.W.isClsIn K D = true) (h3 : PySem.W.typeIn K (.ref D) = some (.type "type")) (h4 : PySem.W.subIn K (.ref C) (.ref D) = some b) :
    PySem.W.exmOne K (.ref C) (.ref D) = some b := by
  have e1 : (PySem.W.subIn K (.ref D) (.type "BaseException") == some true) = true := by rw [h1] <;> rfl
  have e2 : ((PySem.W.clsIn K D).isSome && PySem.W.typeIn K (.ref D) == some (.type "type")) = true := by
    have h2' : (PySem.W.clsIn K D).isSome = true := h2
    rw [h2', h3] <;> rfl
  show (if (PySem.W.subIn K (.ref D) (.type "BaseException") == some true) = true then (if ((PySem.W.clsIn K D).isSome && PySem.W.typeIn K (.ref D) == some (.type "type")) = true then PySem.W.subIn K (.ref C) (.ref D) else none) else none) = some b
  rw [if_pos e1, if_pos e2]
  exact h4
theorem Ex.mu {H H' : Hp} {p : Addr} {o : HO} (e : Ex H H') (h : H p = none) : Ex H (upd H' p o) := Evl.Ex.mut e h
theorem Prs.up {H : Hp} {f : Addr} {o : HO} (hf : ∀ ys, H f ≠ some (.tup ys)) : ∀ {xs : List V} {ps : List (Int × Int)}, Prs H xs ps → Prs (upd H f o) xs ps
  | _, _, .nil => .nil
  | _, _, .cons ⟨t, h1, h2⟩ r => .cons ⟨t, h1, by rw [upd_ne fun e => hf _ (e ▸ h2)]; exact h2⟩ (Prs.up hf r)
/-- the pair that stands at an address -/
def pairAt (H : Hp) : V → Int × Int
  | .ref t => match H t with
    | some (.tup [.int i, .int j]) => (i, j)
    | _ => (0, 0)
  | _ => (0, 0)
theorem pairAt_eq {H : Hp} {t : Addr} {i j : Int} (h : H t = some (.tup [.int i, .int j])) : pairAt H (.ref t) = (i, j) := by
  show (match H t with | some (.tup [.int i, .int j]) => (i, j) | _ => (0, 0)) = (i, j)
  rw [h]
theorem Prs.map {H : Hp} : ∀ {xs : List V} {ps : List (Int × Int)}, Prs H xs ps → ps = xs.map (pairAt H)
  | _, _, .nil => rfl
  | _, _, .cons ⟨t, h1, h2⟩ r => by rw [List.map_cons, ← Prs.map r, h1, pairAt_eq h2]
theorem Prs.all {H : Hp} {xs : List V} {ps : List (Int × Int)} (h : Prs H xs ps) : ∀ x ∈ xs, ∃ t, x = V.ref t ∧ H t = some (.tup [.int (pairAt H x).1, .int (pairAt H x).2]) := by
  intro x hx
  obtain ⟨i, hi, e⟩ := List.getElem_of_mem hx
  obtain ⟨p, t, h1, h2, h3⟩ := Prs.get h (by rw [List.getElem?_eq_getElem hi, e])
  refine ⟨t, h2, ?_⟩
  rw [h2, pairAt_eq h3]
  exact h3
theorem Prs.of {H : Hp} : ∀ {xs : List V}, (∀ x ∈ xs, ∃ t, x = V.ref t ∧ H t = some (.tup [.int (pairAt H x).1, .int (pairAt H x).2])) → Prs H xs (xs.map (pairAt H))
  | [], _ => .nil
  | x :: xs, h => .cons (h x List.mem_cons_self) (Prs.of fun y hy => h y (List.mem_cons_of_mem _ hy))
/-- the pairs rise by value and are apart -/
def Rising (ps : List (Int × Int)) : Prop := ps.Pairwise fun p q => p.1 < q.1
theorem rising_of {H : Hp} {ys : List V} (hs : SrtO.Srtd (ltP (pairAt H)) ys) (nd : ((ys.map (pairAt H)).map (·.1)).Nodup) : Rising (ys.map (pairAt H)) := by
  unfold Rising
  rw [List.pairwise_map]
  rw [List.map_map, List.Nodup, List.pairwise_map] at nd
  refine (hs.and nd).imp ?_
  intro a b h
  have h1 := SrtO.lexB_no.mp h.1
  have h2 : (pairAt H a).1 ≠ (pairAt H b).1 := h.2
  omega
/-- sorted of such pairs -/
theorem sorted_prs {H : Hp} {xs ys : List V} {ps : List (Int × Int)} (hp : Prs H xs ps) (nd : (ps.map (·.1)).Nodup) (h1 : SrtO.Srtd (ltP (pairAt H)) ys) (h2 : SrtO.Stb (ltP (pairAt H)) ys xs) :
    ∃ qs, Prs H ys qs ∧ qs.Perm ps ∧ Rising qs := by
  have hpm : (ys.map (pairAt H)).Perm ps := by
    rw [hp.map]
    exact h2.perm.map _
  exact ⟨ys.map (pairAt H), Prs.of fun y hy => hp.all y (h2.perm.mem_iff.mp hy), hpm, rising_of h1 ((hpm.map _).nodup_iff.mpr nd)⟩
/-- what a till drawn here is: 1 to 10 kinds, apart, in bounds -/
structure Drawn (ps : List (Int × Int)) : Prop where
  nd : (ps.map (·.1)).Nodup
  val : ∀ p ∈ ps, 1 ≤ p.1 ∧ p.1 ≤ 1000
  cnt : ∀ p ∈ ps, 0 ≤ p.2 ∧ p.2 ≤ 1000000000
theorem Drawn.perm {ps qs : List (Int × Int)} (d : Drawn ps) (h : qs.Perm ps) : Drawn qs :=
  ⟨(h.map _).nodup_iff.mpr d.nd, fun p hp => d.val p (h.mem_iff.mp hp), fun p hp => d.cnt p (h.mem_iff.mp hp)⟩
/-- a till as data -/
def dP (p : Int × Int) : PyData := .tuple [.int p.1, .int p.2]
theorem prs_dp {K : PySem.W.Frag} {H : Hp} : ∀ {xs : List V} {ps : List (Int × Int)}, Prs H xs ps → DpAll K H xs (ps.map dP)
  | _, _, .nil => .nil
  | _, _, .cons ⟨t, h1, h2⟩ r => .cons (h1 ▸ .tup (.of h2) (.cons (.int _) (.cons (.int _) .nil))) (prs_dp r)
theorem till_dp {K : PySem.W.Frag} {H : Hp} {a : Addr} {ps : List (Int × Int)} (h : Till K H a ps) : Dp K H (.ref a) (.list (ps.map dP)) :=
  let ⟨_, h1, h2⟩ := h; .lst h1 (prs_dp h2)
theorem canLay_dPs : ∀ ps : List (Int × Int), PyData.canLayAll0 (ps.map dP) = true
  | [] => rfl
  | p :: r => by
    rw [List.map_cons]
    show (PyData.canLay0 (dP p) && PyData.canLayAll0 (r.map dP)) = true
    rw [canLay_dPs r]
    rfl
theorem depth_dPs : ∀ ps : List (Int × Int), PyData.depthAll (ps.map dP) ≤ 3
  | [] => by decide
  | p :: r => by
    have h := depth_dPs r
    rw [List.map_cons]
    show max (PyData.depth (dP p)) (PyData.depthAll (r.map dP)) ≤ 3
    have : PyData.depth (dP p) ≤ 3 := by
      show PyData.depth (.tuple [.int p.1, .int p.2]) ≤ 3
      simp [PyData.depth, PyData.depthAll]
    omega
theorem shaped_till (ps : List (Int × Int)) : SeqAt.shaped (.list (ps.map dP)) = true := by
  unfold SeqAt.shaped
  have h1 : PyData.canLay0 (.list (ps.map dP)) = true := canLay_dPs ps
  have h2 : PyData.depth (.list (ps.map dP)) ≤ 64 := by
    have := depth_dPs ps
    simp only [PyData.depth]
    omega
  rw [h1, decide_eq_true h2]
  rfl
theorem eqv_of_shaped {d : PyData} (h : SeqAt.shaped d = true) : PyData.eqv d d = true := PySem.SeqAt.eqv_refl d (SeqAt.canLay_of_shaped h)
theorem t_yes {A B : Hp → Prop} {σ : L2.St} {H : Hp} (h : A H) : tYes σ H (fun b H3 => if b = true then A H3 else B H3) := by
  show if true = true then A H else B H
  rw [if_pos rfl]
  exact h
theorem canLay_ints : ∀ l : List Int, PyData.canLayAll0 (l.map PyData.int) = true
  | [] => rfl
  | p :: r => by
    rw [List.map_cons]
    show (PyData.canLay0 (.int p) && PyData.canLayAll0 (r.map PyData.int)) = true
    rw [canLay_ints r]
    rfl
theorem depth_ints : ∀ l : List Int, PyData.depthAll (l.map PyData.int) ≤ 3
  | [] => by decide
  | p :: r => by
    have h := depth_ints r
    rw [List.map_cons]
    show max (PyData.depth (.int p)) (PyData.depthAll (r.map PyData.int)) ≤ 3
    have : PyData.depth (.int p) ≤ 3 := by simp [PyData.depth]
    omega
theorem shaped_ints (l : List Int) : SeqAt.shaped (.list (l.map PyData.int)) = true := by
  unfold SeqAt.shaped
  have h1 : PyData.canLay0 (.list (l.map PyData.int)) = true := canLay_ints l
  have h2 : PyData.depth (.list (l.map PyData.int)) ≤ 64 := by
    have := depth_ints l
    simp only [PyData.depth]
    omega
  rw [h1, decide_eq_true h2]
  rfl
theorem kone_own {K : PySem.W.Frag} {D C : Addr} {b : Bool} (hn : D ≠ C) (h2 : PySem.W.isClsIn K C = true) (h3 : PySem.W.typeIn K (.ref C) = some (.type "type")) (h4 : PySem.W.subIn K (.ref D) (.ref C) = some b) : PySem.W.kitOne K (.ref D) (.ref C) = some b := by
  have e1 : ¬ (Value.ref D == Value.ref C) = true := fun z => hn (Value.ref.inj (beq_iff_eq.mp z))
  have e2 : ((PySem.W.clsIn K C).isSome && PySem.W.typeIn K (.ref C) == some (.type "type")) = true := by
    have h2' : (PySem.W.clsIn K C).isSome = true := h2
    rw [h2', h3] <;> rfl
  unfold PySem.W.kitOne
  rw [if_neg e1]
  show (if ((PySem.W.clsIn K C).isSome && PySem.W.typeIn K (.ref C) == some (.type "type")) = true then PySem.W.subIn K (.ref D) (.ref C) else none) = some b
  rw [if_pos e2]
  exact h4
theorem kone_self {K : PySem.W.Frag} {D : Addr} : PySem.W.kitOne K (.ref D) (.ref D) = some true := by
  unfold PySem.W.kitOne
  rw [if_pos (beq_self_eq_true _)]
theorem kone_ty {K : PySem.W.Frag} {D : Addr} (h : PySem.W.subIn K (.ref D) (.type "ValueError") = some true) : PySem.W.kitOne K (.ref D) (.type "ValueError") = some true := by
  have e1 : ¬ (Value.ref D == Value.type "ValueError") = true := fun z => by cases beq_iff_eq.mp z
  unfold PySem.W.kitOne
  rw [if_neg e1]
  show (if PySem.W.kitMeta "ValueError" = true then PySem.W.subIn K (.ref D) (.type "ValueError") else none) = some true
  rw [if_pos (by decide +kernel)]
  exact h
theorem kany_f {K : PySem.W.Frag} {t c : Value} {cs : List Value} {r : Bool} (h : PySem.W.kitOne K t c = some false) (hr : PySem.W.kitAny K t cs = some r) : PySem.W.kitAny K t (c :: cs) = some r :=
  kitAny_cons h (fun _ => hr) fun z => nomatch z
theorem kany_t {K : PySem.W.Frag} {t c : Value} {cs : List Value} (h : PySem.W.kitOne K t c = some true) : PySem.W.kitAny K t (c :: cs) = some true :=
  kitAny_cons h (fun z => nomatch z) fun _ => rfl
theorem take_snoc {α : Type} {l : List α} {i : Nat} {x : α} (h : l[i]? = some x) : l.take (i + 1) = l.take i ++ [x] := by
  rw [List.take_add_one, h]
  rfl
theorem drop_at {α : Type} {l : List α} {i : Nat} {x : α} (h : l[i]? = some x) : l.drop i = x :: l.drop (i + 1) := by
  obtain ⟨hi, e⟩ := List.getElem?_eq_some_iff.mp h
  rw [List.drop_eq_getElem_cons hi, e]
theorem none_back {H H' : Hp} {p : Addr} (ex : Ex H H') (h : H' p = none) : H p = none := by
  cases z : H p with
  | none => rfl
  | some o => rw [ex _ _ z] at h; cases h
theorem Prs.take {H : Hp} : ∀ {xs : List V} {ps : List (Int × Int)} (n : Nat), Prs H xs ps → Prs H (xs.take n) (ps.take n)
  | _, _, 0, _ => .nil
  | _, _, _ + 1, .nil => .nil
  | _, _, n + 1, .cons h r => .cons h (Prs.take n r)
theorem Prs.drop {H : Hp} : ∀ {xs : List V} {ps : List (Int × Int)} (n : Nat), Prs H xs ps → Prs H (xs.drop n) (ps.drop n)
  | _, _, 0, h => h
  | _, _, _ + 1, .nil => .nil
  | _, _, n + 1, .cons h r => Prs.drop n r
theorem Prs.app {H : Hp} : ∀ {xs ys : List V} {ps qs : List (Int × Int)}, Prs H xs ps → Prs H ys qs → Prs H (xs ++ ys) (ps ++ qs)
  | _, _, _, _, .nil, h => h
  | _, _, _, _, .cons a r, h => .cons a (Prs.app r h)
theorem cut_take (xs : List V) (k : Nat) (h : k ≤ xs.length) : cutV xs none (some (k : Int)) = xs.take k := by
  unfold cutV
  rw [HT.sIx_none, HT.sIx_nat, List.drop_zero, Nat.sub_zero, Nat.min_eq_left h]
theorem cut_drop (xs : List V) (k : Nat) (h : k ≤ xs.length) : cutV xs (some (k : Int)) none = xs.drop k := by
  unfold cutV
  rw [HT.sIx_none, HT.sIx_nat, Nat.min_eq_left h, List.take_of_length_le (by rw [List.length_drop]; exact Nat.le_refl _)]
theorem seq_at {i : Int} {n : Nat} (h0 : 0 ≤ i) (h1 : i < n) : seqIndex? i n = some i.toNat := by
  have h2 : ¬ i < 0 := by omega
  simp [seqIndex?, h2, h0, h1]
theorem nodup_at {α : Type} {l : List α} {i j : Nat} {x : α} (h : l.Nodup) (hi : l[i]? = some x) (hj : l[j]? = some x) : i = j := by
  obtain ⟨h1, e1⟩ := List.getElem?_eq_some_iff.mp hi
  obtain ⟨h2, e2⟩ := List.getElem?_eq_some_iff.mp hj
  rcases Nat.lt_trichotomy i j with z | z | z
  · exact absurd (e1.trans e2.symm) (List.pairwise_iff_getElem.mp h i j h1 h2 z)
  · exact z
  · exact absurd (e2.trans e1.symm) (List.pairwise_iff_getElem.mp h j i h2 h1 z)
theorem Prs.keep {H H' : Hp} : ∀ {xs : List V} {ps : List (Int × Int)}, Prs H xs ps → (∀ t zs, H t = some (.tup zs) → H' t = some (.tup zs)) → Prs H' xs ps
  | _, _, .nil, _ => .nil
  | _, _, .cons ⟨t, h1, h2⟩ r, k => .cons ⟨t, h1, k _ _ h2⟩ (Prs.keep r k)
theorem take_succ_map {α β : Type} {l : List α} {i : Nat} {x : α} (f : α → β) (h : l[i]? = some x) : (l.take (i + 1)).map f = (l.take i).map f ++ [f x] := by
  rw [List.take_add_one, h, List.map_append]
  rfl
theorem rising_nd {ps : List (Int × Int)} (h : Rising ps) : (ps.map (·.1)).Nodup := by
  rw [List.Nodup, List.pairwise_map]
  exact h.imp fun z e => by omega
/-! ### what the law draws -/
def cell (ns : List Int) (k : Nat) : Int := ns.getD k 0
def mixed (c k : Int) : Int := (c + 7919 * k) * 48271 % 2147483647
theorem mixed_nn (c k : Int) : 0 ≤ mixed c k := Int.emod_nonneg _ (by decide)
theorem mixed_lt (c k : Int) : mixed c k < 2147483647 := Int.emod_lt_of_pos _ (by decide)
def spCellAt (K : PySem.W.Frag) : Sp := fun vs H Q _ => ∃ (a : Addr) (ns : List Int) (k : Nat), vs = [.ref a, .int k] ∧ SqL K H a (ns.map V.int) ∧ Q (.int (cell ns k)) H
theorem ok_cell_at (T : Tx K mg) : FnOk P w K mg base CX0 1 T.a__law_cell_at T.d__law_cell_at P__law_cell_at (spCellAt K) := by
  refine T.f__law_cell_at.ok sc__law_cell_at (fun vs H Q E h => ?_) (fun cdv A outer s H vs Q E hr h => ?_)
  · obtain ⟨a, ns, k, rfl, _⟩ := h
    rfl
  · obtain ⟨a, ns, k, rfl, hS, q⟩ := h
    refine ⟨_, (pss_cons (ps_if (pt_cmpR op_lt (pv 1) (pe_callB call_len_seq (by rfl) T.m_len (by decide +kernel) (pa_cons (pv 0) pa_nil)) (nomark _))
      (pss_one (ps_ret (pe_ix ix_list (pv 0) (pv 1) (fun _ _ => rfl))))
      pss_nil)
    (pss_one (ps_ret pe_int))), ?_⟩
    refine ⟨_, rfl, _, rfl, a, _, rfl, .inl hS, _, _, rfl, rfl, _, rfl, ite2 (fun e => ?_) (fun e => ?_)⟩
    · have e1 : (k : Int) < ((ns.map V.int).length : Int) := of_decide_eq_true e
      rw [List.length_map] at e1
      have e2 : k < ns.length := by omega
      refine ⟨_, rfl, _, rfl, a, _, _, .int (cell ns k), rfl, rfl, hS, atI_nat ?_, q⟩
      rw [List.getElem?_map, List.getElem?_eq_getElem e2]
      show some (V.int ns[k]) = _
      unfold cell
      rw [List.getD_eq_getElem?_getD, List.getElem?_eq_getElem e2]
      rfl
    · have e1 : ¬ (k : Int) < ((ns.map V.int).length : Int) := fun z => e (decide_eq_true z)
      rw [List.length_map] at e1
      have e2 : cell ns k = 0 := by
        unfold cell
        rw [List.getD_eq_getElem?_getD, List.getElem?_eq_none (by omega)]
        rfl
      rw [e2] at q
      exact q
def spMixed : Sp := fun vs H Q _ => ∃ c k, vs = [.int c, .int k] ∧ (-(2 ^ 64) < k ∧ k < 2 ^ 64) ∧ Q (.int (mixed c k)) H
theorem ok_mixed (T : Tx K mg) : FnOk P w K mg base CX0 1 T.a__law_mixed T.d__law_mixed P__law_mixed spMixed := by
  refine T.f__law_mixed.ok sc__law_mixed (fun vs H Q E h => ?_) (fun cdv A outer s H vs Q E hr h => ?_)
  · obtain ⟨c, k, rfl, _⟩ := h
    rfl
  · obtain ⟨c, k, rfl, hk, q⟩ := h
    refine ⟨_, (pss_one (ps_ret (pe_op op_mod (pe_op op_mul (pe_op op_add (pv 0) (pe_op op_mul pe_int (pv 1))) pe_int) pe_int))), ?_⟩
    repeat (first | refine ⟨_, rfl, ?_⟩ | refine ⟨(by show (0 : Int) < _; decide), ?_⟩ | refine ⟨⟨by decide, by decide⟩, ?_⟩ | refine ⟨.inr ⟨by decide, by decide⟩, ?_⟩ | refine ⟨.inl ⟨by decide, by decide⟩, ?_⟩ | refine ⟨⟨by decide, by decide, by decide⟩, ?_⟩ | refine ⟨_, _, rfl, rfl, ?_⟩ | refine ⟨rfl, _, rfl, ?_⟩)
    exact q
def menu : List Int := [1, 2, 5, 10, 20, 50, 100, 200, 500, 1000]
theorem menu_in : ∀ i : Nat, i < 10 → 1 ≤ menu.getD i 0 ∧ menu.getD i 0 ≤ 1000 := by decide
theorem menu_at {ms : List Int} {i : Int} {n : Nat} (hl : ms.length = n) (h0 : 0 ≤ i) (h1 : i < n) : atI (ms.map V.int) i = some (.int (ms.getD i.toNat 0)) := by
  have hn : ((i.toNat : Nat) : Int) = i := Int.toNat_of_nonneg h0
  have hlt : i.toNat < ms.length := by omega
  refine at_of hn.symm ?_
  rw [List.getElem?_map, List.getElem?_eq_getElem hlt, List.getD_eq_getElem?_getD, List.getElem?_eq_getElem hlt]
  rfl
/-! the kinds: a value that stands already is moved on -/
def nxt (v : Int) : Int := v % 1000 + 1
def itn (v : Int) (j : Nat) : Int := (v - 1 + j) % 1000 + 1
theorem itn_zero {v : Int} (h1 : 1 ≤ v) (h2 : v ≤ 1000) : itn v 0 = v := by unfold itn; omega
theorem itn_succ (v : Int) (j : Nat) : itn v (j + 1) = nxt (itn v j) := by unfold itn nxt; omega
theorem itn_in (v : Int) (j : Nat) : 1 ≤ itn v j ∧ itn v j ≤ 1000 := by unfold itn; omega
theorem itn_inj {v : Int} {i j : Nat} (hi : i < 1000) (hj : j < 1000) (h : itn v i = itn v j) : i = j := by unfold itn at h; omega
theorem escape : ∀ (n : Nat) (ks : List Int) (f : Nat → Int), ks.length = n → (∀ i j, i ≤ n → j ≤ n → f i = f j → i = j) → ∃ j, j ≤ n ∧ f j ∉ ks
  | 0, ks, f, hl, _ => ⟨0, Nat.le_refl _, by rw [List.length_eq_zero_iff.mp hl]; simp⟩
  | n + 1, ks, f, hl, hf => by
    by_cases h : f 0 ∈ ks
    · obtain ⟨j, hj, hn⟩ := escape n (ks.erase (f 0)) (fun i => f (i + 1)) (by rw [List.length_erase_of_mem h]; omega) fun i j hi hj e => by
        have := hf (i + 1) (j + 1) (by omega) (by omega) e
        omega
      refine ⟨j + 1, by omega, fun z => hn ?_⟩
      refine (List.mem_erase_of_ne fun e => ?_).mpr z
      have := hf (j + 1) 0 (by omega) (by omega) e
      omega
    · exact ⟨0, Nat.zero_le _, h⟩
theorem free_at {ks : List Int} (v : Int) (h : ks.length < 1000) : ∃ j, itn v j ∉ ks := by
  obtain ⟨j, _, hn⟩ := escape ks.length ks (itn v) rfl fun i j hi hj e => itn_inj (by omega) (by omega) e
  exact ⟨j, hn⟩
theorem least {p : Nat → Prop} (h : ∃ j, p j) : ∃ j, p j ∧ ∀ i, i < j → ¬ p i := by
  obtain ⟨j, hj⟩ := h
  induction j using Nat.strongRecOn with
  | _ j ih =>
    by_cases z : ∃ i, i < j ∧ p i
    · obtain ⟨i, hi, hp⟩ := z
      exact ih i hi hp
    · exact ⟨j, hj, fun i hi hp => z ⟨i, hi, hp⟩⟩
def dkv (ks : List Int) : List (Key × V) := ks.map fun k => (Sum.inl k, V.bl true)
theorem dkv_none {ks : List Int} {k : Int} (h : k ∉ ks) : valV (dkv ks) (Sum.inl k) = none := by
  cases e : valV (dkv ks) (Sum.inl k) with
  | none => rfl
  | some v =>
    have := valV_in e
    unfold dkv at this
    rw [List.map_map] at this
    obtain ⟨x, hx, ex⟩ := List.mem_map.mp this
    cases ex
    exact absurd hx h
theorem dkv_some {ks : List Int} {k : Int} (h : k ∈ ks) : ∃ v, valV (dkv ks) (Sum.inl k) = some v := by
  cases e : valV (dkv ks) (Sum.inl k) with
  | some v => exact ⟨v, rfl⟩
  | none =>
    refine absurd ?_ (valV_not e)
    unfold dkv
    rw [List.map_map]
    exact List.mem_map.mpr ⟨k, h, rfl⟩
theorem dkv_put {ks : List Int} {k : Int} (h : k ∉ ks) : putK (dkv ks) (Sum.inl k) (V.bl true) = dkv (ks ++ [k]) := by
  rw [putK_new _ (dkv_none h)]
  unfold dkv
  rw [List.map_append]
  rfl
/-! ### the table, by itself: rows of fewest pieces -/
abbrev Cell := Option Int
def rAt (r : List Cell) (i : Nat) : Cell := r.getD i none
theorem rAt_lt {r : List Cell} {i : Nat} (h : i < r.length) : r[i]? = some (rAt r i) := by
  unfold rAt
  rw [List.getD_eq_getElem?_getD, List.getElem?_eq_getElem h]
  rfl
theorem rAt_map {f : Nat → Cell} {n i : Nat} (h : i < n) : rAt ((List.range n).map f) i = f i := by
  unfold rAt
  rw [List.getD_eq_getElem?_getD, List.getElem?_map, List.getElem?_range h]
  rfl
theorem row_ext {r : List Cell} {n : Nat} {f : Nat → Cell} (hl : r.length = n) (h : ∀ i, i < n → rAt r i = f i) : r = (List.range n).map f := by
  apply List.ext_getElem?
  intro i
  by_cases hi : i < n
  · rw [rAt_lt (by omega), h i hi, List.getElem?_map, List.getElem?_range hi]
    rfl
  · rw [List.getElem?_eq_none (by omega), List.getElem?_eq_none (by rw [List.length_map, List.length_range]; omega)]
/-- a place, given what stands there and what stands ahead by some pieces -/
def bund (o few : Cell) (s : Int) : Cell :=
  match few with
  | none => o
  | some x => match o with
    | none => some (x + s)
    | some y => if x + s < y then some (x + s) else some y
theorem bund_some {o : Cell} {x s : Int} : ∃ m, bund o (some x) s = some m ∧ m ≤ x + s := by
  cases o with
  | none => exact ⟨_, rfl, by omega⟩
  | some y =>
    by_cases h : x + s < y
    · exact ⟨x + s, if_pos h, by omega⟩
    · exact ⟨y, if_neg h, by omega⟩
theorem bund_le {few : Cell} {y s : Int} : ∃ m, bund (some y) few s = some m ∧ m ≤ y := by
  cases few with
  | none => exact ⟨_, rfl, by omega⟩
  | some x =>
    by_cases h : x + s < y
    · exact ⟨x + s, if_pos h, by omega⟩
    · exact ⟨y, if_neg h, by omega⟩
theorem bund_or {o few : Cell} {s m : Int} (h : bund o few s = some m) : o = some m ∨ ∃ x, few = some x ∧ m = x + s := by
  cases few with
  | none => exact .inl h
  | some x =>
    cases o with
    | none => exact .inr ⟨x, rfl, (Option.some.inj h).symm⟩
    | some y =>
      by_cases z : x + s < y
      · have e : bund (some y) (some x) s = some (x + s) := if_pos z
        rw [e] at h
        exact .inr ⟨x, rfl, (Option.some.inj h).symm⟩
      · have e : bund (some y) (some x) s = some y := if_neg z
        rw [e] at h
        exact .inl h
/-- o is the least over up to n pieces of v on top of the row r, at the place d -/
def Lst (r : List Cell) (v n d : Nat) (o : Cell) : Prop :=
  (∀ (j : Nat) (x : Int), j ≤ n → j * v ≤ d → rAt r (d - j * v) = some x → ∃ m, o = some m ∧ m ≤ x + j) ∧
  (∀ m, o = some m → ∃ (j : Nat) (x : Int), j ≤ n ∧ j * v ≤ d ∧ rAt r (d - j * v) = some x ∧ m = x + j)
theorem Lst.uniq {r : List Cell} {v n d : Nat} {o p : Cell} (h : Lst r v n d o) (k : Lst r v n d p) : o = p := by
  obtain ⟨h1, h2⟩ := h
  obtain ⟨k1, k2⟩ := k
  cases o with
  | none =>
    cases p with
    | none => rfl
    | some m =>
      obtain ⟨j, x, a, b, c, _⟩ := k2 m rfl
      obtain ⟨_, z, _⟩ := h1 j x a b c
      cases z
  | some m =>
    obtain ⟨j, x, a, b, c, e⟩ := h2 m rfl
    obtain ⟨q, rfl, le1⟩ := k1 j x a b c
    obtain ⟨j', x', a', b', c', e'⟩ := k2 q rfl
    obtain ⟨m', em, le2⟩ := h1 j' x' a' b' c'
    cases em
    have : m = q := by omega
    rw [this]
theorem Lst.cut {r : List Cell} {v n m d : Nat} {o : Cell} (h : Lst r v n d o) (hm : ∀ j, j * v ≤ d → (j ≤ n ↔ j ≤ m)) : Lst r v m d o :=
  ⟨fun j x a b c => h.1 j x ((hm j b).mpr a) b c, fun q e => let ⟨j, x, a, b, c, z⟩ := h.2 q e; ⟨j, x, (hm j b).mp a, b, c, z⟩⟩
theorem Lst.zero {r : List Cell} {v d : Nat} : Lst r v 0 d (rAt r d) := by
  refine ⟨fun j x a b c => ?_, fun m e => ⟨0, m, Nat.le_refl _, by omega, by simpa using e, by simp⟩⟩
  have hj : j = 0 := by omega
  subst hj
  exact ⟨x, by simpa using c, by simp⟩
/-- s pieces more at once, where s is one more than before at most -/
theorem Lst.more {r : List Cell} {v n d s : Nat} {o p : Cell} (h : Lst r v n d o) (hp : s * v ≤ d → Lst r v n (d - s * v) p) (hs : s ≤ n + 1) :
    Lst r v (n + s) d (if s * v ≤ d then bund o p s else o) := by
  by_cases hd : s * v ≤ d
  · rw [if_pos hd]
    obtain ⟨h1, h2⟩ := h
    obtain ⟨p1, p2⟩ := hp hd
    refine ⟨fun j x a b c => ?_, fun m e => ?_⟩
    · by_cases hj : j ≤ n
      · obtain ⟨m, rfl, le⟩ := h1 j x hj b c
        obtain ⟨q, e, le'⟩ := bund_le (few := p) (y := m) (s := s)
        exact ⟨q, e, by omega⟩
      · have e1 : (j - s) * v = j * v - s * v := Nat.sub_mul ..
        have e2 : s * v ≤ j * v := Nat.mul_le_mul_right _ (by omega)
        obtain ⟨m, rfl, le⟩ := p1 (j - s) x (by omega) (by omega) (by rw [show d - s * v - (j - s) * v = d - j * v by omega]; exact c)
        obtain ⟨q, e, le'⟩ := bund_some (o := o) (x := m) (s := s)
        exact ⟨q, e, by omega⟩
    · rcases bund_or e with rfl | ⟨y, rfl, rfl⟩
      · obtain ⟨j, x, a, b, c, z⟩ := h2 m rfl
        exact ⟨j, x, by omega, b, c, z⟩
      · obtain ⟨j, x, a, b, c, z⟩ := p2 y rfl
        have e1 : (j + s) * v = j * v + s * v := Nat.add_mul ..
        exact ⟨j + s, x, by omega, by omega, by rw [show d - (j + s) * v = d - s * v - j * v by omega]; exact c, by omega⟩
  · rw [if_neg hd]
    refine h.cut fun j hj => ⟨fun _ => by omega, fun hle => ?_⟩
    by_cases hjn : j ≤ n
    · exact hjn
    · exfalso
      have : s * v ≤ j * v := Nat.mul_le_mul_right _ (by omega)
      omega
/-- a bundle of s pieces worth a -/
def withBundle (r : List Cell) (a s : Nat) : List Cell := (List.range r.length).map fun d => if a ≤ d then bund (rAt r d) (rAt r (d - a)) s else rAt r d
theorem withBundle_len (r : List Cell) (a s : Nat) : (withBundle r a s).length = r.length := by
  unfold withBundle
  rw [List.length_map, List.length_range]
/-- each size is one more than what is ahead at most -/
def Steps : Nat → List Nat → Prop
  | _, [] => True
  | n, s :: r => s ≤ n + 1 ∧ Steps (n + s) r
theorem steps_snoc : ∀ {l : List Nat} {n s : Nat}, Steps n l → s ≤ n + l.sum + 1 → Steps n (l ++ [s])
  | [], n, s, _, h => ⟨by simpa using h, trivial⟩
  | a :: l, n, s, ⟨h1, h2⟩, h => ⟨h1, steps_snoc h2 (by rw [List.sum_cons] at h; omega)⟩
theorem fold_lst {r : List Cell} {v : Nat} : ∀ {l : List Nat} {n : Nat} {o : List Cell}, Steps n l → o.length = r.length → (∀ d, d < r.length → Lst r v n d (rAt o d)) →
    (l.foldl (fun o s => withBundle o (s * v) s) o).length = r.length ∧ ∀ d, d < r.length → Lst r v (n + l.sum) d (rAt (l.foldl (fun o s => withBundle o (s * v) s) o) d)
  | [], n, o, _, hl, h => ⟨hl, by simpa using h⟩
  | s :: l, n, o, ⟨hs, hst⟩, hl, h => by
    have h' : ∀ d, d < r.length → Lst r v (n + s) d (rAt (withBundle o (s * v) s) d) := by
      intro d hd
      unfold withBundle
      rw [rAt_map (by omega)]
      exact (h d hd).more (fun hle => h _ (by omega)) hs
    have := fold_lst (l := l) hst (by rw [withBundle_len, hl]) h'
    rw [List.foldl_cons, List.sum_cons]
    rw [show n + (s + l.sum) = n + s + l.sum by omega]
    exact this
/-- the least, count by count, as it is walked -/
def leastUp (r : List Cell) (v d : Nat) : Nat → Cell
  | 0 => none
  | i + 1 => bund (leastUp r v d i) (rAt r (d - i * v)) i
theorem leastUp_lst {r : List Cell} {v d : Nat} : ∀ {i : Nat}, i * v ≤ d → Lst r v i d (leastUp r v d (i + 1))
  | 0, _ => by
    have e : leastUp r v d 1 = rAt r d := by
      show bund none (rAt r (d - 0 * v)) ((0 : Nat) : Int) = rAt r d
      rw [Nat.zero_mul, Nat.sub_zero]
      cases rAt r d with
      | none => rfl
      | some x => show some (x + 0) = some x; rw [Int.add_zero]
    rw [e]
    exact Lst.zero
  | i + 1, h => by
    have h0 : i * v ≤ d := Nat.le_trans (Nat.mul_le_mul_right _ (by omega)) h
    obtain ⟨h1, h2⟩ := leastUp_lst (r := r) h0
    show Lst r v (i + 1) d (bund (leastUp r v d (i + 1)) (rAt r (d - (i + 1) * v)) ((i + 1 : Nat) : Int))
    refine ⟨fun j x a b c => ?_, fun m e => ?_⟩
    · by_cases hj : j ≤ i
      · obtain ⟨m, e, le⟩ := h1 j x hj b c
        rw [e]
        obtain ⟨q, e', le'⟩ := bund_le (few := rAt r (d - (i + 1) * v)) (y := m) (s := ((i + 1 : Nat) : Int))
        exact ⟨q, e', by omega⟩
      · have hj' : j = i + 1 := by omega
        subst hj'
        rw [c]
        exact bund_some
    · rcases bund_or e with z | ⟨y, z, rfl⟩
      · obtain ⟨j, x, a, b, c, z⟩ := h2 m z
        exact ⟨j, x, by omega, b, c, z⟩
      · exact ⟨i + 1, y, Nat.le_refl _, h, z, rfl⟩
def leastF (r : List Cell) (v c d : Nat) : Cell := leastUp r v d (min c (d / v) + 1)
theorem leastF_lst {r : List Cell} {v c d : Nat} (hv : 0 < v) : Lst r v c d (leastF r v c d) := by
  have h1 : min c (d / v) * v ≤ d := Nat.le_trans (Nat.mul_le_mul_right _ (Nat.min_le_right ..)) (Nat.div_mul_le_self ..)
  refine (leastUp_lst h1).cut fun j hj => ?_
  have : j ≤ d / v := (Nat.le_div_iff_mul_le hv).mpr hj
  omega
/-- the next row -/
def nextRow (r : List Cell) (v c : Nat) : List Cell := (List.range r.length).map (leastF r v c)
theorem nextRow_len (r : List Cell) (v c : Nat) : (nextRow r v c).length = r.length := by
  unfold nextRow
  rw [List.length_map, List.length_range]
theorem fold_next {r : List Cell} {v c : Nat} {l : List Nat} (hv : 0 < v) (hst : Steps 0 l) (hsum : l.sum = min c ((r.length - 1) / v)) : l.foldl (fun o s => withBundle o (s * v) s) r = nextRow r v c := by
  obtain ⟨h1, h2⟩ := fold_lst (r := r) (v := v) hst rfl fun d _ => Lst.zero
  refine row_ext h1 fun d hd => ?_
  refine Lst.uniq ((h2 d hd).cut (m := c) fun j hj => ?_) (leastF_lst hv)
  have : j ≤ (r.length - 1) / v := (Nat.le_div_iff_mul_le hv).mpr (by omega)
  omega
/-- the rows of a till -/
def rowsOf (r : List Cell) : List (Int × Int) → List (List Cell)
  | [] => [r]
  | p :: ps => r :: rowsOf (nextRow r p.1.toNat p.2.toNat) ps
def row0 (n : Nat) : List Cell := some 0 :: List.replicate n none
theorem row0_len (n : Nat) : (row0 n).length = n + 1 := by simp [row0]
def lastRow (r : List Cell) : List (Int × Int) → List Cell
  | [] => r
  | p :: ps => lastRow (nextRow r p.1.toNat p.2.toNat) ps
theorem lastRow_snoc (r : List Cell) (p : Int × Int) : ∀ ps : List (Int × Int), lastRow r (ps ++ [p]) = nextRow (lastRow r ps) p.1.toNat p.2.toNat := by
  intro ps
  induction ps generalizing r with
  | nil => rfl
  | cons q ps ih => exact ih _
theorem rowsOf_snoc (r : List Cell) (p : Int × Int) : ∀ ps : List (Int × Int), rowsOf r (ps ++ [p]) = rowsOf r ps ++ [lastRow r (ps ++ [p])] := by
  intro ps
  induction ps generalizing r with
  | nil => rfl
  | cons q ps ih => show r :: rowsOf _ (ps ++ [p]) = r :: rowsOf _ ps ++ [lastRow _ (ps ++ [p])]; rw [ih]; rfl
theorem rowsOf_len (r : List Cell) (ps : List (Int × Int)) : (rowsOf r ps).length = ps.length + 1 := by
  induction ps generalizing r with
  | nil => rfl
  | cons q ps ih => show (rowsOf _ ps).length + 1 = _; rw [ih]; rfl
theorem rowsOf_at (r : List Cell) (ps : List (Int × Int)) : ∀ k, k ≤ ps.length → (rowsOf r ps)[k]? = some (lastRow r (ps.take k)) := by
  induction ps generalizing r with
  | nil => intro k hk; have : k = 0 := by simpa using hk
           subst this; rfl
  | cons q ps ih =>
    intro k hk
    cases k with
    | zero => rfl
    | succ k =>
      show (rowsOf _ ps)[k]? = some (lastRow _ (ps.take k))
      exact ih _ k (by simpa using hk)
theorem lastRow_len (r : List Cell) (ps : List (Int × Int)) : (lastRow r ps).length = r.length := by
  induction ps generalizing r with
  | nil => rfl
  | cons q ps ih => show (lastRow _ ps).length = _; rw [ih, nextRow_len]
/-! ### the way that is told -/
/-- the greatest number of pieces, up to g, that the row ahead goes with -/
def pickUp (r : List Cell) (v d : Nat) (m : Int) : Nat → Nat
  | 0 => 0
  | g + 1 => if rAt r (d - (g + 1) * v) = some (m - ((g + 1 : Nat) : Int)) then g + 1 else pickUp r v d m g
def pick (r : List Cell) (v c d : Nat) (m : Int) : Nat := pickUp r v d m (min c (d / v))
theorem pickUp_le (r : List Cell) (v d : Nat) (m : Int) : ∀ g, pickUp r v d m g ≤ g
  | 0 => Nat.le_refl _
  | g + 1 => by
    unfold pickUp
    split
    · exact Nat.le_refl _
    · exact Nat.le_succ_of_le (pickUp_le r v d m g)
theorem pickUp_ok {r : List Cell} {v d : Nat} {m : Int} : ∀ {g : Nat}, (∃ j, j ≤ g ∧ rAt r (d - j * v) = some (m - (j : Int))) → rAt r (d - pickUp r v d m g * v) = some (m - (pickUp r v d m g : Int)) ∧ ∀ j, pickUp r v d m g < j → j ≤ g → rAt r (d - j * v) ≠ some (m - (j : Int))
  | 0, ⟨j, hj, h⟩ => by
    obtain rfl : j = 0 := by omega
    exact ⟨h, fun j h1 h2 => by omega⟩
  | g + 1, ⟨j, hj, h⟩ => by
    unfold pickUp
    by_cases e : rAt r (d - (g + 1) * v) = some (m - ((g + 1 : Nat) : Int))
    · rw [if_pos e]
      exact ⟨e, fun j h1 h2 => by omega⟩
    · rw [if_neg e]
      have hj2 : j ≠ g + 1 := fun z => e (by rw [← z]; exact h)
      obtain ⟨h1, h2⟩ := pickUp_ok (g := g) ⟨j, by omega, h⟩
      refine ⟨h1, fun i hi hi2 => ?_⟩
      by_cases z : i = g + 1
      · rw [z]
        exact e
      · exact h2 i hi (by omega)
/-- what the table tells of the last place goes back by some pieces of the last kind -/
theorem back_one {r : List Cell} {v c d : Nat} {m : Int} (hv : 0 < v) (h : leastF r v c d = some m) : ∃ j, j ≤ min c (d / v) ∧ rAt r (d - j * v) = some (m - (j : Int)) := by
  obtain ⟨j, x, a, b, e, rfl⟩ := (leastF_lst hv).2 m h
  refine ⟨j, Nat.le_min.mpr ⟨a, (Nat.le_div_iff_mul_le hv).mpr b⟩, ?_⟩
  rw [e]
  congr 1
  omega
def cellI (o : Cell) : Int := o.getD 0
/-- the way, by the table, of the first k kinds for d -/
def given (r0 : List Cell) (ps : List (Int × Int)) : Nat → Nat → List (Int × Int)
  | 0, _ => []
  | k + 1, d =>
    let p := ps.getD k (0, 0)
    let g := pick (lastRow r0 (ps.take k)) p.1.toNat p.2.toNat d (cellI (rAt (lastRow r0 (ps.take (k + 1))) d))
    given r0 ps k (d - g * p.1.toNat) ++ (if 0 < g then [(p.1, (g : Int))] else [])
theorem given_succ (r0 : List Cell) (ps : List (Int × Int)) (k d : Nat) {p : Int × Int} (hp : ps[k]? = some p) {g : Nat} (hg : g = pick (lastRow r0 (ps.take k)) p.1.toNat p.2.toNat d (cellI (rAt (lastRow r0 (ps.take (k + 1))) d))) :
    given r0 ps (k + 1) d = given r0 ps k (d - g * p.1.toNat) ++ (if 0 < g then [(p.1, (g : Int))] else []) := by
  subst hg
  show given r0 ps k _ ++ _ = _
  rw [show ps.getD k (0, 0) = p by rw [List.getD_eq_getElem?_getD, hp]; rfl]
/-- a place that the table tells, goes on to one that it tells -/
theorem step_ok {r0 : List Cell} {ps : List (Int × Int)} {k d : Nat} {m : Int} {p : Int × Int} (hp : ps[k]? = some p) (hv : 1 ≤ p.1) (hd : d < r0.length) (h : rAt (lastRow r0 (ps.take (k + 1))) d = some m) {g : Nat}
    (hg : g = pick (lastRow r0 (ps.take k)) p.1.toNat p.2.toNat d m) :
    g ≤ p.2.toNat ∧ g * p.1.toNat ≤ d ∧ rAt (lastRow r0 (ps.take k)) (d - g * p.1.toNat) = some (m - (g : Int)) := by
  have hl : (lastRow r0 (ps.take k)).length = r0.length := lastRow_len ..
  have e : leastF (lastRow r0 (ps.take k)) p.1.toNat p.2.toNat d = some m := by
    rw [← h, List.take_add_one, hp]
    show _ = rAt (lastRow r0 (ps.take k ++ [p])) d
    rw [lastRow_snoc]
    exact (rAt_map (by rw [hl]; exact hd)).symm
  have hb := back_one (by omega) e
  have hle := pickUp_le (lastRow r0 (ps.take k)) p.1.toNat d m (min p.2.toNat (d / p.1.toNat))
  have hok := (pickUp_ok hb).1
  have hgg : g = pickUp (lastRow r0 (ps.take k)) p.1.toNat d m (min p.2.toNat (d / p.1.toNat)) := hg
  rw [← hgg] at hle hok
  refine ⟨by omega, ?_, hok⟩
  exact Nat.le_trans (Nat.mul_le_mul_right _ (by omega : g ≤ d / p.1.toNat)) (Nat.div_mul_le_self ..)
def worthP (l : List (Int × Int)) : Int := (l.map fun p => p.1 * p.2).sum
def manyP (l : List (Int × Int)) : Int := (l.map (·.2)).sum
theorem worthP_app (l k : List (Int × Int)) : worthP (l ++ k) = worthP l + worthP k := by
  unfold worthP
  rw [List.map_append, List.sum_append]
theorem manyP_app (l k : List (Int × Int)) : manyP (l ++ k) = manyP l + manyP k := by
  unfold manyP
  rw [List.map_append, List.sum_append]
theorem row0_some {n d : Nat} {m : Int} (h : rAt (row0 n) d = some m) : d = 0 ∧ m = 0 := by
  cases d with
  | zero =>
    have : some (0 : Int) = some m := h
    exact ⟨rfl, (Option.some.inj this).symm⟩
  | succ d =>
    have : (List.replicate n (none : Cell)).getD d none = some m := h
    rw [List.getD_eq_getElem?_getD, List.getElem?_replicate] at this
    split at this <;> cases this
/-- what the way is -/
theorem given_ok {n : Nat} {ps : List (Int × Int)} (hv : ∀ p ∈ ps, 1 ≤ p.1) : ∀ {k d : Nat} {m : Int}, k ≤ ps.length → d < n + 1 → rAt (lastRow (row0 n) (ps.take k)) d = some m →
    worthP (given (row0 n) ps k d) = (d : Int) ∧ manyP (given (row0 n) ps k d) = m ∧ (∀ q ∈ given (row0 n) ps k d, 1 ≤ q.2 ∧ ∃ c, (q.1, c) ∈ ps.take k ∧ q.2 ≤ c) ∧
    (ps.Pairwise (fun p q => p.1 < q.1) → (given (row0 n) ps k d).Pairwise fun p q => p.1 < q.1) ∧ (given (row0 n) ps k d).length ≤ k
  | 0, d, m, _, _, h => by
    obtain ⟨rfl, rfl⟩ := row0_some h
    exact ⟨rfl, rfl, by simp [given], fun _ => .nil, Nat.le_refl _⟩
  | k + 1, d, m, hk, hd, h => by
    have hp := List.getElem?_eq_getElem (show k < ps.length by omega)
    have hpm := List.getElem_mem (show k < ps.length by omega)
    generalize ps[k] = p at hp hpm
    have hv1 := hv p hpm
    obtain ⟨g1, g2, g3⟩ := step_ok hp hv1 (by rw [row0_len]; exact hd) h rfl
    rw [given_succ (row0 n) ps k d hp (g := pick (lastRow (row0 n) (ps.take k)) p.1.toNat p.2.toNat d m) (by rw [h]; rfl)]
    generalize pick (lastRow (row0 n) (ps.take k)) p.1.toNat p.2.toNat d m = g at g1 g2 g3
    obtain ⟨i1, i2, i3, i4, i5⟩ := given_ok hv (k := k) (by omega) (by omega) g3
    have tk : ps.take (k + 1) = ps.take k ++ [p] := by
      rw [List.take_add_one, hp]
      rfl
    by_cases hg : 0 < g
    · rw [if_pos hg]
      refine ⟨?_, ?_, ?_, ?_, ?_⟩
      · rw [worthP_app, i1]
        show ((d - g * p.1.toNat : Nat) : Int) + (p.1 * (g : Int) + 0) = d
        have e : ((g * p.1.toNat : Nat) : Int) = (g : Int) * p.1 := by
          rw [Int.natCast_mul, Int.toNat_of_nonneg (by omega)]
        rw [Int.mul_comm p.1]
        omega
      · rw [manyP_app, i2]
        show m - (g : Int) + ((g : Int) + 0) = m
        omega
      · intro q hq
        rcases List.mem_append.mp hq with z | z
        · obtain ⟨a, c, b, b'⟩ := i3 q z
          exact ⟨a, c, by rw [tk]; exact List.mem_append.mpr (.inl b), b'⟩
        · rw [List.mem_singleton.mp z]
          exact ⟨by show (1 : Int) ≤ g; omega, p.2, by rw [tk]; exact List.mem_append.mpr (.inr (List.mem_singleton.mpr rfl)), by show (g : Int) ≤ p.2; omega⟩
      · intro hr
        rw [List.pairwise_append]
        refine ⟨i4 hr, List.pairwise_singleton .., fun a ha b hb => ?_⟩
        rw [List.mem_singleton.mp hb]
        obtain ⟨_, c, hc, _⟩ := i3 a ha
        have hpw : (ps.take k ++ [p]).Pairwise fun p q => p.1 < q.1 := by
          rw [← tk]
          exact hr.sublist (List.take_sublist ..)
        exact (List.pairwise_append.mp hpw).2.2 _ hc p (List.mem_singleton.mpr rfl)
      · rw [List.length_append]
        show _ + 1 ≤ k + 1
        omega
    · rw [if_neg hg, List.append_nil]
      have g0 : g = 0 := by omega
      subst g0
      refine ⟨by rw [i1]; omega, by rw [i2]; simp, fun q hq => ?_, i4, by omega⟩
      obtain ⟨a, c, b, b'⟩ := i3 q hq
      exact ⟨a, c, by rw [tk]; exact List.mem_append.mpr (.inl b), b'⟩
/-! ### the scales, by themselves -/
/-- what stands at a place, none beside the row -/
def cellAt (r : List Cell) (z : Int) : Cell := if 0 ≤ z ∧ z < r.length then rAt r z.toNat else none
/-- res is the least over from less c to o pieces of v on top of the row r, at the place d -/
def Lit (r : List Cell) (v c o : Nat) (d : Int) (res : Cell) : Prop :=
  (∀ (j x : Int), -(c : Int) ≤ j → j ≤ o → cellAt r (d - j * v) = some x → ∃ m, res = some m ∧ m ≤ x + j.natAbs) ∧
  (∀ m, res = some m → ∃ (j x : Int), -(c : Int) ≤ j ∧ j ≤ o ∧ cellAt r (d - j * v) = some x ∧ m = x + j.natAbs)
theorem Lit.uniq {r : List Cell} {v c o : Nat} {d : Int} {p q : Cell} (h : Lit r v c o d p) (k : Lit r v c o d q) : p = q := by
  obtain ⟨h1, h2⟩ := h
  obtain ⟨k1, k2⟩ := k
  cases p with
  | none =>
    cases q with
    | none => rfl
    | some m =>
      obtain ⟨j, x, a, b, e, _⟩ := k2 m rfl
      obtain ⟨_, z, _⟩ := h1 j x a b e
      cases z
  | some m =>
    obtain ⟨j, x, a, b, e, em⟩ := h2 m rfl
    obtain ⟨n, rfl, le1⟩ := k1 j x a b e
    obtain ⟨j', x', a', b', e', em'⟩ := k2 n rfl
    obtain ⟨m', y, le2⟩ := h1 j' x' a' b' e'
    cases y
    have : m = n := by omega
    rw [this]
/-- number by number, as it is walked: the i-th is i less c -/
def litUp (r : List Cell) (v c : Nat) (d : Int) : Nat → Cell
  | 0 => none
  | i + 1 => bund (litUp r v c d i) (cellAt r (d - (-(c : Int) + i) * v)) ((-(c : Int) + i).natAbs : Int)
theorem litUp_le {r : List Cell} {v c : Nat} {d : Int} : ∀ {n i : Nat} {x : Int}, i < n → cellAt r (d - (-(c : Int) + i) * v) = some x → ∃ m, litUp r v c d n = some m ∧ m ≤ x + ((-(c : Int) + i).natAbs : Int)
  | n + 1, i, x, hi, hx => by
    by_cases e : i = n
    · subst e
      show ∃ m, bund _ _ _ = some m ∧ _
      rw [hx]
      exact bund_some
    · obtain ⟨m, hm, hle⟩ := litUp_le (n := n) (by omega) hx
      obtain ⟨q, hq, hqle⟩ := bund_le (few := cellAt r (d - (-(c : Int) + n) * v)) (y := m) (s := ((-(c : Int) + n).natAbs : Int))
      exact ⟨q, by show bund _ _ _ = _; rw [hm]; exact hq, by omega⟩
theorem litUp_of {r : List Cell} {v c : Nat} {d : Int} : ∀ {n : Nat} {m : Int}, litUp r v c d n = some m → ∃ (i : Nat) (x : Int), i < n ∧ cellAt r (d - (-(c : Int) + i) * v) = some x ∧ m = x + ((-(c : Int) + i).natAbs : Int)
  | 0, m, h => by cases h
  | n + 1, m, h => by
    rcases bund_or h with e | ⟨x, e, rfl⟩
    · obtain ⟨i, x, hi, hx, hm⟩ := litUp_of e
      exact ⟨i, x, by omega, hx, hm⟩
    · exact ⟨n, x, by omega, e, rfl⟩
def litF (r : List Cell) (v c o : Nat) (d : Int) : Cell := litUp r v c d (c + o + 1)
theorem litF_lit {r : List Cell} {v c o : Nat} {d : Int} : Lit r v c o d (litF r v c o d) := by
  refine ⟨fun j x a b e => ?_, fun m h => ?_⟩
  · obtain ⟨i, hi⟩ : ∃ i : Nat, j = -(c : Int) + i := ⟨(j + c).toNat, by omega⟩
    subst hi
    exact litUp_le (by omega) e
  · obtain ⟨i, x, hi, hx, hm⟩ := litUp_of h
    exact ⟨_, x, by omega, by omega, hx, hm⟩
def nextLit (r : List Cell) (v c o : Nat) : List Cell := (List.range r.length).map fun d : Nat => litF r v c o (d : Int)
theorem nextLit_len (r : List Cell) (v c o : Nat) : (nextLit r v c o).length = r.length := by
  unfold nextLit
  rw [List.length_map, List.length_range]
theorem nextLit_at {r : List Cell} {v c o d : Nat} (h : d < r.length) : rAt (nextLit r v c o) d = litF r v c o (d : Int) := rAt_map h
/-- a kind: its value, what lies in the till, what is in the purse -/
abbrev Kd := Int × Int × Int
def stepL (r : List Cell) (k : Kd) : List Cell := nextLit r k.1.toNat k.2.1.toNat k.2.2.toNat
def lastL (r : List Cell) (ks : List Kd) : List Cell := ks.foldl stepL r
theorem lastL_snoc (r : List Cell) (ks : List Kd) (k : Kd) : lastL r (ks ++ [k]) = stepL (lastL r ks) k := by
  unfold lastL
  rw [List.foldl_append]
  rfl
theorem lastL_len (r : List Cell) (ks : List Kd) : (lastL r ks).length = r.length := by
  unfold lastL
  induction ks generalizing r with
  | nil => rfl
  | cons k ks ih =>
    rw [List.foldl_cons, ih]
    exact nextLit_len ..
def rowsL (r : List Cell) (ks : List Kd) : List (List Cell) := (List.range (ks.length + 1)).map fun k => lastL r (ks.take k)
theorem rowsL_len (r : List Cell) (ks : List Kd) : (rowsL r ks).length = ks.length + 1 := by
  unfold rowsL
  rw [List.length_map, List.length_range]
theorem rowsL_at (r : List Cell) (ks : List Kd) {k : Nat} (h : k ≤ ks.length) : (rowsL r ks)[k]? = some (lastL r (ks.take k)) := by
  unfold rowsL
  rw [List.getElem?_map, List.getElem?_range (by omega)]
  rfl
def row0L (low high : Nat) : List Cell := List.replicate low none ++ some 0 :: List.replicate high none
theorem row0L_len (low high : Nat) : (row0L low high).length = low + high + 1 := by
  unfold row0L
  rw [List.length_append, List.length_cons, List.length_replicate, List.length_replicate]
  omega
theorem row0L_at {low high : Nat} {z m : Int} (h : cellAt (row0L low high) z = some m) : z = low ∧ m = 0 := by
  unfold cellAt at h
  split at h
  · next hz =>
    obtain ⟨i, rfl⟩ : ∃ i : Nat, z = (i : Int) := ⟨z.toNat, by omega⟩
    rw [Int.toNat_natCast] at h
    unfold rAt row0L at h
    rw [List.getD_eq_getElem?_getD] at h
    by_cases h1 : i < low
    · rw [List.getElem?_append_left (by rw [List.length_replicate]; exact h1), List.getElem?_replicate, if_pos h1] at h
      cases h
    · rw [List.getElem?_append_right (by rw [List.length_replicate]; omega), List.length_replicate] at h
      by_cases h2 : i = low
      · subst h2
        rw [Nat.sub_self] at h
        exact ⟨rfl, (Option.some.inj h).symm⟩
      · obtain ⟨k, hk⟩ : ∃ k, i - low = k + 1 := ⟨i - low - 1, by omega⟩
        rw [hk, List.getElem?_cons_succ, List.getElem?_replicate] at h
        split at h <;> cases h
  · cases h
theorem row0L_low {low high : Nat} : cellAt (row0L low high) (low : Int) = some 0 := by
  unfold cellAt
  rw [if_pos ⟨by omega, by rw [row0L_len]; omega⟩, Int.toNat_natCast]
  unfold rAt row0L
  rw [List.getD_eq_getElem?_getD, List.getElem?_append_right (by rw [List.length_replicate]; exact Nat.le_refl _), List.length_replicate, Nat.sub_self]
  rfl
/-! the deal that is told: the greatest number that goes with the row ahead -/
def pickL (r : List Cell) (v c : Nat) (d m : Int) : Nat → Int
  | 0 => -(c : Int)
  | i + 1 => if cellAt r (d - (-(c : Int) + (i + 1 : Nat)) * v) = some (m - ((-(c : Int) + (i + 1 : Nat)).natAbs : Int)) then -(c : Int) + (i + 1 : Nat) else pickL r v c d m i
theorem pickL_in (r : List Cell) (v c : Nat) (d m : Int) : ∀ n, -(c : Int) ≤ pickL r v c d m n ∧ pickL r v c d m n ≤ -(c : Int) + n
  | 0 => by
    unfold pickL
    omega
  | n + 1 => by
    have := pickL_in r v c d m n
    unfold pickL
    split <;> omega
theorem pickL_ok {r : List Cell} {v c : Nat} {d m : Int} : ∀ {n : Nat}, (∃ i : Nat, i ≤ n ∧ cellAt r (d - (-(c : Int) + i) * v) = some (m - ((-(c : Int) + i).natAbs : Int))) →
    cellAt r (d - pickL r v c d m n * v) = some (m - ((pickL r v c d m n).natAbs : Int)) ∧ ∀ j : Int, pickL r v c d m n < j → j ≤ -(c : Int) + n → cellAt r (d - j * v) ≠ some (m - (j.natAbs : Int))
  | 0, ⟨i, hi, h⟩ => by
    obtain rfl : i = 0 := by omega
    unfold pickL
    refine ⟨by simpa using h, fun j h1 h2 => by omega⟩
  | n + 1, ⟨i, hi, h⟩ => by
    unfold pickL
    by_cases e : cellAt r (d - (-(c : Int) + (n + 1 : Nat)) * v) = some (m - ((-(c : Int) + (n + 1 : Nat)).natAbs : Int))
    · rw [if_pos e]
      exact ⟨e, fun j h1 h2 => by omega⟩
    · rw [if_neg e]
      have hi2 : i ≠ n + 1 := fun z => e (by rw [← z]; exact h)
      obtain ⟨h1, h2⟩ := pickL_ok (n := n) ⟨i, by omega, h⟩
      refine ⟨h1, fun j hj hj2 => ?_⟩
      by_cases z : j = -(c : Int) + (n + 1 : Nat)
      · rw [z]
        exact e
      · exact h2 j hj (by omega)
def pickK (r : List Cell) (k : Kd) (d m : Int) : Int := pickL r k.1.toNat k.2.1.toNat d m (k.2.1.toNat + k.2.2.toNat)
theorem back_oneL {r : List Cell} {v c o : Nat} {d : Int} {m : Int} (h : litF r v c o d = some m) : ∃ i : Nat, i ≤ c + o ∧ cellAt r (d - (-(c : Int) + i) * v) = some (m - ((-(c : Int) + i).natAbs : Int)) := by
  obtain ⟨i, x, hi, hx, rfl⟩ := litUp_of h
  refine ⟨i, by omega, ?_⟩
  rw [hx]
  congr 1
  omega
theorem cellAt_next {r : List Cell} {k : Kd} {z : Int} {m : Int} (h : cellAt (stepL r k) z = some m) : 0 ≤ z ∧ z < r.length ∧ litF r k.1.toNat k.2.1.toNat k.2.2.toNat z = some m := by
  unfold cellAt at h
  split at h
  · next hz =>
    have hl : (stepL r k).length = r.length := nextLit_len ..
    rw [hl] at hz
    refine ⟨hz.1, hz.2, ?_⟩
    have := nextLit_at (r := r) (v := k.1.toNat) (c := k.2.1.toNat) (o := k.2.2.toNat) (d := z.toNat) (by omega)
    rw [Int.toNat_of_nonneg hz.1] at this
    rw [← this]
    exact h
  · cases h
/-- the way, by the scales, of the first k kinds to the place d -/
def wayL (r0 : List Cell) (ks : List Kd) : Nat → Int → List Int
  | 0, _ => []
  | k + 1, d =>
    let p := ks.getD k (0, 0, 0)
    let g := pickK (lastL r0 (ks.take k)) p d (cellI (cellAt (lastL r0 (ks.take (k + 1))) d))
    wayL r0 ks k (d - g * p.1.toNat) ++ [g]
theorem wayL_succ (r0 : List Cell) (ks : List Kd) (k : Nat) (d : Int) {p : Kd} (hp : ks[k]? = some p) {g : Int} (hg : g = pickK (lastL r0 (ks.take k)) p d (cellI (cellAt (lastL r0 (ks.take (k + 1))) d))) :
    wayL r0 ks (k + 1) d = wayL r0 ks k (d - g * p.1.toNat) ++ [g] := by
  subst hg
  show wayL r0 ks k _ ++ _ = _
  rw [show ks.getD k (0, 0, 0) = p by rw [List.getD_eq_getElem?_getD, hp]; rfl]
theorem wayL_len (r0 : List Cell) (ks : List Kd) : ∀ (k : Nat) (d : Int), (wayL r0 ks k d).length = k
  | 0, _ => rfl
  | k + 1, d => by
    show (wayL r0 ks k _ ++ [_]).length = _
    rw [List.length_append, wayL_len r0 ks k]
    rfl
/-- a place that the scales tell, goes on to one that they tell -/
theorem stepL_ok {r0 : List Cell} {ks : List Kd} {k : Nat} {d m : Int} {p : Kd} (hp : ks[k]? = some p) (h : cellAt (lastL r0 (ks.take (k + 1))) d = some m) {g : Int} (hg : g = pickK (lastL r0 (ks.take k)) p d m) :
    -(p.2.1.toNat : Int) ≤ g ∧ g ≤ p.2.2.toNat ∧ cellAt (lastL r0 (ks.take k)) (d - g * p.1.toNat) = some (m - (g.natAbs : Int)) ∧ ∀ j : Int, g < j → j ≤ p.2.2.toNat → cellAt (lastL r0 (ks.take k)) (d - j * p.1.toNat) ≠ some (m - (j.natAbs : Int)) := by
  rw [List.take_add_one, hp] at h
  change cellAt (lastL r0 (ks.take k ++ [p])) d = some m at h
  rw [lastL_snoc] at h
  obtain ⟨_, _, hl⟩ := cellAt_next h
  have hb := back_oneL hl
  obtain ⟨h1, h2⟩ := pickL_ok hb
  have hin := pickL_in (lastL r0 (ks.take k)) p.1.toNat p.2.1.toNat d m (p.2.1.toNat + p.2.2.toNat)
  have hgg : g = pickL (lastL r0 (ks.take k)) p.1.toNat p.2.1.toNat d m (p.2.1.toNat + p.2.2.toNat) := hg
  rw [← hgg] at h1 h2 hin
  exact ⟨hin.1, by omega, h1, fun j a b => h2 j a (by omega)⟩
/-! ### rows as lists -/
def vO : Cell → V
  | none => .non
  | some i => .int i
theorem vO_at {r : List Cell} {i : Nat} (h : i < r.length) : (r.map vO)[i]? = some (vO (rAt r i)) := by
  rw [List.getElem?_map, rAt_lt h]
  rfl
def Row (K : PySem.W.Frag) (H : Hp) (a : Addr) (r : List Cell) : Prop := SqL K H a (r.map vO)
/-- the rows, each a list of its own -/
def RowsAt (H : Hp) : List Addr → List (List Cell) → Prop := Paired fun a r => H a = some (.lst (r.map vO))
theorem RowsAt.ex {H H' : Hp} (e : Ex H H') : ∀ {as : List Addr} {rs : List (List Cell)}, RowsAt H as rs → RowsAt H' as rs
  | _, _, .nil => .nil
  | _, _, .cons h r => .cons (e _ _ h) (RowsAt.ex e r)
theorem RowsAt.len {H : Hp} {as : List Addr} {rs : List (List Cell)} (h : RowsAt H as rs) : as.length = rs.length := Paired.length h
theorem RowsAt.snoc {H : Hp} : ∀ {as : List Addr} {rs : List (List Cell)} {a : Addr} {r : List Cell}, RowsAt H as rs → H a = some (.lst (r.map vO)) → RowsAt H (as ++ [a]) (rs ++ [r])
  | _, _, _, _, .nil, h => .cons h .nil
  | _, _, _, _, .cons b r, h => .cons b (RowsAt.snoc r h)
theorem RowsAt.get {H : Hp} : ∀ {as : List Addr} {rs : List (List Cell)} {i : Nat} {r : List Cell}, RowsAt H as rs → rs[i]? = some r → ∃ a, as[i]? = some a ∧ H a = some (.lst (r.map vO))
  | _, _, i, _, .nil, e => by simp at e
  | _, _, 0, _, .cons h _, e => by simp at e; subst e; exact ⟨_, by simp, h⟩
  | _, _, i + 1, _, .cons _ r, e => by
    obtain ⟨a, h1, h2⟩ := RowsAt.get (i := i) r (by simpa using e)
    exact ⟨a, by simpa using h1, h2⟩
theorem RowsAt.getA {H : Hp} : ∀ {as : List Addr} {rs : List (List Cell)} {i : Nat} {a : Addr}, RowsAt H as rs → as[i]? = some a → ∃ r, rs[i]? = some r ∧ H a = some (.lst (r.map vO))
  | _, _, i, _, .nil, e => by simp at e
  | _, _, 0, _, .cons h _, e => by simp at e; subst e; exact ⟨_, by simp, h⟩
  | _, _, i + 1, _, .cons _ r, e => by
    obtain ⟨x, h1, h2⟩ := RowsAt.getA (i := i) r (by simpa using e)
    exact ⟨x, by simpa using h1, h2⟩
theorem RowsAt.up {H : Hp} {f : Addr} {o : HO} : ∀ {as : List Addr} {rs : List (List Cell)}, f ∉ as → RowsAt H as rs → RowsAt (upd H f o) as rs
  | _, _, _, .nil => .nil
  | _, _, hf, .cons h r => .cons (by rw [upd_ne fun e => hf (by rw [← e]; exact List.mem_cons_self)]; exact h) (RowsAt.up (fun z => hf (List.mem_cons_of_mem _ z)) r)
theorem RowsAt.mem {H : Hp} : ∀ {as : List Addr} {rs : List (List Cell)} {x : Addr}, RowsAt H as rs → x ∈ as → ∃ o, H x = some o
  | a :: as, _, x, .cons h r, hx => by
    rcases List.mem_cons.mp hx with e | e
    · exact ⟨_, e ▸ h⟩
    · exact RowsAt.mem r e
/-- the table: new lists -/
def NewRows (H : Hp) (rs : List (List Cell)) (Q : VK) : Prop := ∀ R as H2, Ex H H2 → (∀ a ∈ R :: as, H a = none) → (R :: as).Nodup → H2 R = some (.lst (as.map V.ref)) → RowsAt H2 as rs → Q (.ref R) H2
theorem at_row {H : Hp} {as : List Addr} {rs : List (List Cell)} {i : Int} {k : Nat} {r : List Cell} (h : RowsAt H as rs) (hi : i = (k : Int)) (e : rs[k]? = some r) : ∃ a, atI (as.map V.ref) i = some (.ref a) ∧ as[k]? = some a ∧ H a = some (.lst (r.map vO)) := by
  obtain ⟨a, h1, h2⟩ := h.get e
  refine ⟨a, at_of hi ?_, h1, h2⟩
  rw [List.getElem?_map, h1]
  rfl
/-- the bundle, as far as a place -/
def wbUp (r : List Cell) (A s m : Nat) : List Cell := (List.range r.length).map fun d => if A ≤ d ∧ d < m then bund (rAt r d) (rAt r (d - A)) s else rAt r d
theorem wbUp_len (r : List Cell) (A s m : Nat) : (wbUp r A s m).length = r.length := by
  show ((List.range r.length).map _).length = _
  rw [List.length_map, List.length_range]
theorem wbUp_start (r : List Cell) (A s : Nat) : wbUp r A s A = r := by
  refine (row_ext rfl fun i hi => ?_).symm
  rw [if_neg (by omega)]
theorem wbUp_end {r : List Cell} {A s m : Nat} (h : r.length ≤ m) : wbUp r A s m = withBundle r A s := by
  refine row_ext (wbUp_len ..) fun i hi => ?_
  rw [show rAt (wbUp r A s m) i = _ from rAt_map hi]
  by_cases ha : A ≤ i
  · rw [if_pos ha, if_pos ⟨ha, by omega⟩]
  · rw [if_neg ha, if_neg fun z => ha z.1]
theorem wbUp_at {r : List Cell} {A s m : Nat} (h : m < r.length) : rAt (wbUp r A s m) m = rAt r m := by
  rw [show rAt (wbUp r A s m) m = _ from rAt_map h, if_neg (by omega)]
theorem set_map {r : List Cell} {m : Nat} {c : Cell} : (r.map vO).set m (vO c) = (r.set m c).map vO := by
  rw [List.map_set]
theorem wbUp_set {r : List Cell} {A s m : Nat} {c : Cell} (hm : m < r.length) (ha : A ≤ m) (hc : c = bund (rAt r m) (rAt r (m - A)) s) : (wbUp r A s m).set m c = wbUp r A s (m + 1) := by
  apply List.ext_getElem?
  intro i
  by_cases hi : i < r.length
  · rw [rAt_lt (r := wbUp r A s (m + 1)) (by rw [wbUp_len]; exact hi), show rAt (wbUp r A s (m + 1)) i = _ from rAt_map hi]
    by_cases e : i = m
    · subst e
      rw [List.getElem?_set_self (by rw [wbUp_len]; exact hi), if_pos ⟨ha, by omega⟩, hc]
    · rw [List.getElem?_set_ne (by omega), rAt_lt (by rw [wbUp_len]; exact hi), show rAt (wbUp r A s m) i = _ from rAt_map hi]
      by_cases z : A ≤ i ∧ i < m
      · rw [if_pos z, if_pos ⟨z.1, by omega⟩]
      · rw [if_neg z, if_neg (by omega)]
  · rw [List.getElem?_eq_none (by rw [List.length_set, wbUp_len]; omega), List.getElem?_eq_none (by rw [wbUp_len]; omega)]
theorem wbUp_keep {r : List Cell} {A s m : Nat} (hm : m < r.length) (h : rAt r m = bund (rAt r m) (rAt r (m - A)) s) : wbUp r A s (m + 1) = wbUp r A s m := by
  refine row_ext (n := r.length) (wbUp_len ..) fun i hi => ?_
  rw [show rAt (wbUp r A s (m + 1)) i = _ from rAt_map hi]
  by_cases e : i = m
  · subst e
    rw [if_neg (by omega : ¬ (A ≤ i ∧ i < i))]
    split
    · exact h.symm
    · rfl
  · by_cases z : A ≤ i ∧ i < m
    · rw [if_pos z, if_pos ⟨z.1, by omega⟩]
    · rw [if_neg z, if_neg (by omega)]
/-- a new row -/
def NewRow (H : Hp) (r : List Cell) (Q : VK) : Prop := ∀ p H2, Ex H H2 → H p = none → H2 p = some (.lst (r.map vO)) → Q (.ref p) H2
def spBundle (K : PySem.W.Frag) : Sp := fun vs H Q _ => ∃ (a : Addr) (r : List Cell) (A s : Nat), vs = [.ref a, .int (A : Int), .int (s : Int)] ∧ Row K H a r ∧ r.length ≤ 2000 ∧ A ≤ 1000000 ∧ NewRow H (withBundle r A s) Q
theorem ok_with_bundle (T : Tx K mg) : FnOk P w K mg base CX0 1 T.a__with_bundle T.d__with_bundle P__with_bundle (spBundle K) := by
  refine T.f__with_bundle.ok sc__with_bundle (fun vs H Q E h => ?_) (fun cdv A outer s H vs Q E hr h => ?_)
  · obtain ⟨a, r, B, s, rfl, _⟩ := h
    rfl
  · obtain ⟨a, r, B, s, rfl, hS, hl, hB, q⟩ := h
    refine ⟨_, (pss_cons (ps_set (i := 3) sc__with_bundle.nd rfl (.inl rfl) (pe_callTy call_list_of (by rfl) T.m_list (by decide +kernel) (pa_cons (pv 0) pa_nil)))
    (pss_cons (ps_for PassesOwn.never rfl (pi_range2 (by rfl) T.m_range (pa_cons (pv 1) (pa_cons (pe_callB call_len_seq (by rfl) T.m_len (by decide +kernel) (pa_cons (pv 0) pa_nil)) pa_nil))) (pg_name (i := 4) sc__with_bundle.nd rfl (.inl rfl))
      (pss_cons (ps_set (i := 5) sc__with_bundle.nd rfl (.inl rfl) (pe_ix ix_list (pv 0) (pe_op op_sub (pv 4) (pv 1)) (fun _ _ => rfl)))
      (pss_one (ps_if (PW.pt (pw_and (pt_cmpR op_notN (pv 5) pe_non (nomark _)) (pw_and1 (PW.pt (pw_or (pt_cmpR op_isN (pe_ix ix_list (pv 3) (pv 4) (fun _ _ => rfl)) pe_non (nomark _)) (pw_or1 (pt_cmpR op_lt (pe_op op_add (pv 5) (pv 2)) (pe_ix ix_list (pv 3) (pv 4) (fun _ _ => rfl)) (nomark _))))))))
        (pss_one (ps_asg (pe_op op_add (pv 5) (pv 2)) (pg_sub (pv 3) (pv 4) set_list)))
        pss_nil))))
    (pss_one (ps_ret (pv 3))))), ?_⟩
    have hS' : SqL K H a (r.map vO) := hS
    refine ⟨_, rfl, a, _, rfl, .inl hS', fun l hl0 => ?_⟩
    have hrl : (r.map vO).length = r.length := List.length_map _
    have nal : ∀ ys, H a = some (.lst ys) → a ≠ l := fun ys z => ne_of_none z hl0
    refine ⟨_, rfl, _, rfl, a, _, rfl, .inl ((Ex.nw hl0).seq hS'), _, _, rfl, ⟨by omega, by omega, by omega, by omega⟩, ?_⟩
    refine for_range (fun i σ H' => ∃ y4 y5, σ = [some (.ref a), some (.int (B : Int)), some (.int (s : Int)), some (.ref l), y4, y5] ∧ Ex H H' ∧ H' l = some (.lst ((wbUp r B s (B + i)).map vO)))
      ⟨_, _, rfl, Ex.nw hl0, by rw [Nat.add_zero, wbUp_start]; exact upd_same⟩ ?_ ?_
    · rintro i σ H1 hi ⟨y4, y5, rfl, ex, el⟩
      have hlt : B + i < r.length := by omega
      have a1 : atI (r.map vO) ((B : Int) + (i : Int) - (B : Int)) = some (vO (rAt r i)) := at_of (j := i) (by omega) (vO_at (by omega))
      have a2 : atI ((wbUp r B s (B + i)).map vO) ((B : Int) + (i : Int)) = some (vO (rAt r (B + i))) := at_of (j := B + i) (by omega) (by
        rw [vO_at (by rw [wbUp_len]; exact hlt), wbUp_at hlt])
      have sub : B + i - B = i := by omega
      refine ⟨_, rfl, _, rfl, _, rfl, _, _, rfl, rfl, a, _, _, _, rfl, rfl, ex.seq hS', a1, ?_⟩
      have keep : bund (rAt r (B + i)) (rAt r i) (s : Int) = rAt r (B + i) → wbUp r B s (B + (i + 1)) = wbUp r B s (B + i) := fun z => wbUp_keep hlt (by
        show rAt r (B + i) = bund (rAt r (B + i)) (rAt r (B + i - B)) s
        rw [sub]
        exact z.symm)
      have put : ∀ {x : Int} {o : Cell}, rAt r i = some x → rAt r (B + i) = o → bund o (some x) (s : Int) = some (x + (s : Int)) → ((wbUp r B s (B + i)).map vO).set (B + i) (.int (x + (s : Int))) = (wbUp r B s (B + (i + 1))).map vO := by
        intro x o h1 h2 h3
        rw [show V.int (x + (s : Int)) = vO (some (x + (s : Int))) from rfl, set_map]
        congr 1
        refine wbUp_set hlt (by omega) ?_
        rw [sub, h1, h2, h3]
      have hix : ixN ((wbUp r B s (B + i)).map vO).length ((B : Int) + (i : Int)) = some (B + i) := by
        rw [show ((B : Int) + (i : Int)) = ((B + i : Nat) : Int) from rfl]
        exact Evl.ixN_nat (by rw [List.length_map, wbUp_len]; exact hlt)
      cases hx : rAt r i with
      | none =>
        refine ⟨_, rfl, rfl, _, rfl, iteDN (fun z => absurd rfl z) (fun _ => iteF ?_)⟩
        exact ⟨_, _, rfl, ex, by rw [keep (by rw [hx]; rfl)]; exact el⟩
      | some x =>
        refine ⟨_, rfl, rfl, _, rfl, iteDN (fun _ => ?_) (fun z => nomatch z)⟩
        cases hy : rAt r (B + i) with
        | none =>
          rw [hy] at a2
          refine ⟨_, rfl, _, rfl, l, _, _, _, rfl, rfl, .of el, a2, rfl, _, rfl, iteD (fun _ => iteT ?_) (fun z => absurd rfl z)⟩
          refine ⟨_, rfl, _, rfl, _, _, rfl, rfl, _, rfl, _, rfl, l, _, _, B + i, rfl, rfl, el, hix, _, _, rfl, Ex.mu ex hl0, ?_⟩
          rw [upd_same, put hx hy rfl]
        | some y =>
          rw [hy] at a2
          refine ⟨_, rfl, _, rfl, l, _, _, _, rfl, rfl, .of el, a2, rfl, _, rfl, iteD (fun z => nomatch z) (fun _ => ?_)⟩
          refine ⟨_, rfl, _, rfl, _, _, rfl, rfl, _, rfl, _, rfl, l, _, _, _, rfl, rfl, .of el, a2, _, _, rfl, rfl, _, rfl, iteD (fun e => ?_) (fun e => ?_)⟩
          · refine ⟨_, rfl, _, rfl, _, _, rfl, rfl, _, rfl, _, rfl, l, _, _, B + i, rfl, rfl, el, hix, _, _, rfl, Ex.mu ex hl0, ?_⟩
            rw [upd_same, put hx hy (if_pos e)]
          · refine ⟨_, _, rfl, ex, ?_⟩
            rw [keep (by rw [hx, hy]; exact if_neg e)]
            exact el
    · rintro σ H1 ⟨y4, y5, rfl, ex, el⟩
      rw [wbUp_end (by omega)] at el
      exact ⟨_, rfl, q l H1 ex hl0 el⟩
/-- the bundles -/
def spBundles : Sp := fun vs H Q _ => ∃ n : Nat, vs = [.int (n : Int)] ∧ n ≤ 100000 ∧ ∀ p ss H2, Ex H H2 → H p = none → H2 p = some (.lst (ss.map fun k : Nat => V.int (k : Int))) → Steps 0 ss → ss.sum = n → ss.length ≤ n → Q (.ref p) H2
theorem ok_bundles (T : Tx K mg) : FnOk P w K mg base CX0 1 T.a__bundles T.d__bundles P__bundles spBundles := by
  refine T.f__bundles.ok sc__bundles (fun vs H Q E h => ?_) (fun cdv A outer s H vs Q E hr h => ?_)
  · obtain ⟨n, rfl, _⟩ := h
    rfl
  · obtain ⟨n, rfl, hn, q⟩ := h
    refine ⟨_, (pss_cons (ps_set (i := 1) sc__bundles.nd rfl (.inl rfl) (pe_lst pa_nil))
    (pss_cons (ps_set (i := 2) sc__bundles.nd rfl (.inl rfl) pe_int)
    (pss_cons (ps_while PassesOwn.never (pt_cmpR op_gt (pv 0) pe_int (nomark _))
      (pss_cons (ps_set (i := 3) sc__bundles.nd rfl (.inl rfl) (pe_callB (call_min2 rfl) (by rfl) T.m_min (by decide +kernel) (pa_cons (pv 2) (pa_cons (pv 0) pa_nil))))
      (pss_cons (ps_expr (pe_bm PySem.F.plainAttrs_list PySem.F.slot_list_append PySem.F.type_list_append mt_append (pv 1) (pa_cons (pv 3) pa_nil)))
      (pss_cons (ps_aug (i := 0) sc__bundles.nd rfl (.inl rfl) (pv 3) ip_sub)
      (pss_one (ps_aug (i := 2) sc__bundles.nd rfl (.inl rfl) pe_int ip_mulR))))))
    (pss_one (ps_ret (pv 1)))))), ?_⟩
    refine ⟨Nat.zero_le _, fun l hl0 => ?_⟩
    refine ⟨fun m σ H' => ∃ (ss : List Nat) (z : Nat) (y3 : Option V), σ = [some (.int (m : Int)), some (.ref l), some (.int (z : Int)), y3] ∧ Ex H H' ∧ H' l = some (.lst (ss.map fun k : Nat => V.int (k : Int))) ∧ Steps 0 ss ∧ ss.sum + m = n ∧ ss.length ≤ ss.sum ∧ 1 ≤ z ∧ (m = 0 ∨ z = ss.sum + 1),
      ⟨n, [], 1, none, rfl, Ex.nw hl0, upd_same, trivial, by simp, by simp, Nat.le_refl _, .inr (by simp)⟩, ?_⟩
    rintro m σ H' ⟨ss, z, y3, rfl, ex, el, hst, hsum, hlen, hz, hmz⟩
    refine ⟨_, rfl, _, _, rfl, rfl, _, rfl, iteD (fun e => ?_) (fun e => ?_)⟩
    · have hm : 0 < m := by omega
      obtain ⟨t, ht, ht1, ht2, ht3⟩ : ∃ t : Nat, (if (m : Int) < (z : Int) then (m : Int) else (z : Int)) = (t : Int) ∧ 1 ≤ t ∧ t ≤ m ∧ t ≤ z ∧ (t = m ∨ t = z) := by
        by_cases h : (m : Int) < (z : Int)
        · exact ⟨m, if_pos h, by omega, by omega, by omega, .inl rfl⟩
        · exact ⟨z, if_neg h, hz, by omega, by omega, .inr rfl⟩
      refine ⟨fun σ' H2 => ∃ m', m' < m ∧ ∃ (ss : List Nat) (z : Nat) (y3 : Option V), σ' = [some (.int (m' : Int)), some (.ref l), some (.int (z : Int)), y3] ∧ Ex H H2 ∧ H2 l = some (.lst (ss.map fun k : Nat => V.int (k : Int))) ∧ Steps 0 ss ∧ ss.sum + m' = n ∧ ss.length ≤ ss.sum ∧ 1 ≤ z ∧ (m' = 0 ∨ z = ss.sum + 1), fun _ _ z => z, ?_⟩
      refine ⟨_, rfl, _, rfl, _, _, rfl, ?_⟩
      rw [ht]
      have hl2 : (ss ++ [t]).map (fun k : Nat => V.int (k : Int)) = ss.map (fun k : Nat => V.int (k : Int)) ++ [V.int (t : Int)] := by rw [List.map_append]; rfl
      have hs2 : (ss ++ [t]).sum = ss.sum + t := by rw [List.sum_append]; simp
      refine ⟨_, rfl, .inl ⟨rfl, _, .of el⟩, _, rfl, l, _, _, rfl, rfl, el, len63' (by rw [List.length_map]; omega), ?_⟩
      refine ⟨_, rfl, _, rfl, _, _, rfl, rfl, ?_⟩
      refine ⟨_, rfl, _, _, rfl, rfl, .inr ⟨by decide, by decide⟩, ?_⟩
      refine ⟨m - t, by omega, ss ++ [t], z * 2, some (.int (t : Int)), ?_, Ex.mu ex hl0, ?_, steps_snoc hst (by omega), by omega, by rw [List.length_append, hs2]; simp; omega, by omega, by omega⟩
      · show [some (V.int ((m : Int) - (t : Int))), some (.ref l), some (.int ((z : Int) * 2)), some (.int (t : Int))] = _
        rw [show (m : Int) - (t : Int) = ((m - t : Nat) : Int) by omega, show (z : Int) * 2 = ((z * 2 : Nat) : Int) by omega]
      · rw [hl2]
        exact upd_same
    · exact ⟨_, rfl, q l ss H' ex hl0 el hst (by omega) (by omega)⟩
theorem le_sum : ∀ {l : List Nat} {x : Nat}, x ∈ l → x ≤ l.sum
  | a :: l, x, h => by
    rw [List.sum_cons]
    rcases List.mem_cons.mp h with e | e
    · omega
    · have := le_sum e
      omega
theorem fold_len (r : List Cell) (v : Nat) : ∀ (l : List Nat), (l.foldl (fun o s => withBundle o (s * v) s) r).length = r.length := by
  intro l
  induction l generalizing r with
  | nil => rfl
  | cons s l ih => rw [List.foldl_cons, ih, withBundle_len]
/-- a kind more -/
def spKind (K : PySem.W.Frag) : Sp := fun vs H Q _ => ∃ (a : Addr) (r : List Cell) (v c : Nat), vs = [.ref a, .int (v : Int), .int (c : Int)] ∧ Row K H a r ∧ 1 ≤ r.length ∧ r.length ≤ 2000 ∧ 1 ≤ v ∧ v ≤ 100000 ∧ NewRow H (nextRow r v c) Q
theorem ok_with_kind (T : Tx K mg) : FnOk P w K mg base CX0 2 T.a_with_kind T.d_with_kind P_with_kind (spKind K) := by
  have G__bundles := ok_bundles (P := P) (w := w) (base := base) T
  have G__with_bundle := ok_with_bundle (P := P) (w := w) (base := base) T
  refine T.f_with_kind.ok sc_with_kind (fun vs H Q E h => ?_) (fun cdv A outer s H vs Q E hr h => ?_)
  · obtain ⟨a, r, v, c, rfl, _⟩ := h
    rfl
  · obtain ⟨a, r, v, c, rfl, hS, hl1, hl, hv1, hv2, q⟩ := h
    refine ⟨_, (pss_cons (ps_set (i := 3) sc_with_kind.nd rfl (.inl rfl) (pe_callTy call_list_of (by rfl) T.m_list (by decide +kernel) (pa_cons (pv 0) pa_nil)))
    (pss_cons (ps_set (i := 4) sc_with_kind.nd rfl (.inl rfl) (pe_callB (call_min2 rfl) (by rfl) T.m_min (by decide +kernel) (pa_cons (pv 2) (pa_cons (pe_op op_fdiv (pe_op op_sub (pe_callB call_len_seq (by rfl) T.m_len (by decide +kernel) (pa_cons (pv 0) pa_nil)) pe_int) (pv 1)) pa_nil))))
    (pss_cons (ps_for PassesOwn.never rfl (pi_list (pe_call G__bundles (hr.mono (by decide)) (by rfl) T.g__bundles T.f__bundles.kp T.p__bundles .nil pass0 (pa_cons (pv 4) pa_nil))) (pg_name (i := 5) sc_with_kind.nd rfl (.inl rfl))
      (pss_one (ps_set (i := 3) sc_with_kind.nd rfl (.inl rfl) (pe_call G__with_bundle (hr.mono (by decide)) (by rfl) T.g__with_bundle T.f__with_bundle.kp T.p__with_bundle .nil pass0 (pa_cons (pv 3) (pa_cons (pe_op op_mul (pv 5) (pv 1)) (pa_cons (pv 5) pa_nil)))))))
    (pss_one (ps_ret (pv 3)))))), ?_⟩
    have hS' : SqL K H a (r.map vO) := hS
    have hrl : (r.map vO).length = r.length := List.length_map _
    refine ⟨_, rfl, a, _, rfl, .inl hS', fun l hl0 => ?_⟩
    (generalize hh : upd H l _ = H1; have e1 : Ex H H1 := (by rw [← hh]; exact Ex.nw hl0); have cl := (show H1 l = some _ by rw [← hh]; exact upd_same); clear hh)
    obtain ⟨n, hn, hnn⟩ : ∃ n : Nat, (if (((r.map vO).length : Int) - 1) / (v : Int) < (c : Int) then (((r.map vO).length : Int) - 1) / (v : Int) else (c : Int)) = (n : Int) ∧ n = min c ((r.length - 1) / v) := by
      rw [hrl, show ((r.length : Int) - 1) / (v : Int) = (((r.length - 1) / v : Nat) : Int) by
        rw [Int.natCast_ediv]
        congr 1
        omega]
      by_cases h : (((r.length - 1) / v : Nat) : Int) < (c : Int)
      · exact ⟨(r.length - 1) / v, if_pos h, by omega⟩
      · exact ⟨c, if_neg h, by omega⟩
    have hn2 : n ≤ 2000 := by
      have : (r.length - 1) / v ≤ r.length - 1 := Nat.div_le_self ..
      omega
    refine ⟨_, rfl, _, rfl, a, _, rfl, .inl (e1.seq hS'), _, _, rfl, rfl, _, rfl, _, _, rfl, rfl, ⟨by omega, by omega⟩, _, _, rfl, ?_⟩
    rw [hn]
    refine ⟨_, rfl, n, rfl, by omega, fun p ss H2 e2 hp ep hst hsum hlen => ?_⟩
    refine ⟨p, rfl, ⟨_, .of ep⟩, for_list (xs := ss.map fun k : Nat => V.int (k : Int)) (fun i σ H' => ∃ o y5, σ = [some (.ref a), some (.int (v : Int)), some (.int (c : Int)), some (.ref o), some (.int (n : Int)), y5] ∧ Ex H2 H' ∧ H o = none ∧ H' o = some (.lst (((ss.take i).foldl (fun o s => withBundle o (s * v) s) r).map vO)))
      ⟨l, _, rfl, Ex.rfl', hl0, e2 _ _ cl⟩ (fun i σ H' _ h => by obtain ⟨_, _, _, e, _⟩ := h; exact .of (e _ _ ep)) ?_ ?_⟩
    · rintro i x σ H3 hx ⟨o, y5, rfl, ex, ho, eo⟩
      rw [List.getElem?_map] at hx
      obtain ⟨s, hs, rfl⟩ := Option.map_eq_some_iff.mp hx
      have hsl : s ≤ n := by
        rw [← hsum]
        exact le_sum (List.mem_of_getElem? hs)
      have hsv : s * v ≤ r.length - 1 := by
        have h1 : n * v ≤ r.length - 1 := by
          rw [hnn]
          exact Nat.le_trans (Nat.mul_le_mul_right _ (Nat.min_le_right ..)) (Nat.div_mul_le_self ..)
        exact Nat.le_trans (Nat.mul_le_mul_right _ hsl) h1
      have hfl : ((ss.take i).foldl (fun o s => withBundle o (s * v) s) r).length = r.length := fold_len ..
      refine ⟨_, rfl, _, rfl, _, rfl, _, _, rfl, rfl, .inr ⟨by omega, by omega⟩, _, rfl, o, _, s * v, s, congrArg (fun z => [V.ref o, V.int z, V.int (s : Int)]) (Int.natCast_mul ..).symm, .of eo, by omega, by omega, fun p' H4 e4 hp' ep' => ?_⟩
      refine ⟨p', _, rfl, ex.tr e4, none_back ((e1.tr e2).tr ex) hp', ?_⟩
      rw [List.take_add_one, hs, List.foldl_append]
      exact ep'
    · rintro σ H3 ⟨o, y5, rfl, ex, ho, eo⟩
      rw [List.take_of_length_le (by rw [List.length_map]; exact Nat.le_refl _), fold_next (v := v) (c := c) (by omega) hst (by omega)] at eo
      exact ⟨_, rfl, q o H3 ((e1.tr e2).tr ex) ho eo⟩
/-! ### count_of -/
/-- the first count of a kind -/
def countIn (ps : List (Int × Int)) (v : Int) : Option Int := ps.lookup v
theorem countIn_cons (p : Int × Int) (ps : List (Int × Int)) (v : Int) : countIn (p :: ps) v = if p.1 = v then some p.2 else countIn ps v := by
  unfold countIn
  rw [List.lookup_cons]
  by_cases h : p.1 = v
  · rw [if_pos h, show (v == p.1) = true by simp [h]]
  · rw [if_neg h, show (v == p.1) = false by simpa using fun e => h (Eq.symm e)]
theorem countIn_mem {ps : List (Int × Int)} {v c : Int} (h : countIn ps v = some c) : (v, c) ∈ ps := by
  induction ps with
  | nil => cases h
  | cons p ps ih =>
    rw [countIn_cons] at h
    by_cases e : p.1 = v
    · rw [if_pos e] at h
      have : p = (v, c) := by rw [← e, ← Option.some.inj h]
      rw [this]
      exact List.mem_cons_self
    · rw [if_neg e] at h
      exact List.mem_cons_of_mem _ (ih h)
theorem countIn_nd {ps : List (Int × Int)} {p : Int × Int} (nd : (ps.map (·.1)).Nodup) (hp : p ∈ ps) : countIn ps p.1 = some p.2 := by
  induction ps with
  | nil => cases hp
  | cons q ps ih =>
    rw [List.map_cons, List.nodup_cons] at nd
    rw [countIn_cons]
    rcases List.mem_cons.mp hp with e | e
    · rw [e, if_pos rfl]
    · rw [if_neg fun z => nd.1 (by rw [z]; exact List.mem_map.mpr ⟨p, e, rfl⟩)]
      exact ih nd.2 e
/-! ### a whole number -/
def spWhole : Sp := fun vs H Q _ => ∃ i : Int, vs = [.int i] ∧ Q (.bl true) H
theorem ok_whole (T : Tx K mg) : FnOk P w K mg base CX0 1 T.a__law_whole T.d__law_whole P__law_whole spWhole := by
  refine T.f__law_whole.ok sc__law_whole (fun vs H Q E h => ?_) (fun cdv A outer s H vs Q E hr h => ?_)
  · obtain ⟨i, rfl, _⟩ := h
    rfl
  · obtain ⟨i, rfl, q⟩ := h
    refine ⟨_, (pss_one (ps_ret (pe_and (pe_callB call_isi (by rfl) T.m_isinstance (by decide +kernel) (pa_cons (pv 0) (pa_cons (pe_bltn (v := .ty "int") (by rfl) T.m_int (by decide +kernel) rfl) pa_nil))) (pe_one (pe_not (pe_callB call_isi (by rfl) T.m_isinstance (by decide +kernel) (pa_cons (pv 0) (pa_cons (pe_bltn (v := .ty "bool") (by rfl) T.m_bool (by decide +kernel) rfl) pa_nil)))))))), ?_⟩
    refine ⟨_, rfl, _, _, _, _, true, rfl, .ty "int", .base (.int _), kit_ty (by decide +kernel), true, rfl, iteT ?_⟩
    exact ⟨_, rfl, _, _, _, _, false, rfl, .ty "bool", .base (.int _), kit_ty (by decide +kernel), false, rfl, q⟩
/-! ### a row, looked at -/
def spRow : Sp := fun vs H Q _ => ∃ (a : Addr) (r : List Cell) (n : Int), vs = [.ref a, .int n] ∧ H a = some (.lst (r.map vO)) ∧ (r.length : Int) = n ∧ Q (.bl true) H
theorem ok_row (T : Tx K mg) : FnOk P w K mg base CX0 2 T.a__law_row T.d__law_row P__law_row spRow := by
  have G__law_whole := ok_whole (P := P) (w := w) (base := base) T
  refine T.f__law_row.ok sc__law_row (fun vs H Q E h => ?_) (fun cdv A outer s H vs Q E hr h => ?_)
  · obtain ⟨a, r, n, rfl, _⟩ := h
    rfl
  · obtain ⟨a, r, n, rfl, ha, hn, q⟩ := h
    refine ⟨_, (pss_cons (ps_if (PW.pt (pw_or (pt_not (pt_val (pe_callB call_isi (by rfl) T.m_isinstance (by decide +kernel) (pa_cons (pv 0) (pa_cons (pe_bltn (v := .ty "list") (by rfl) T.m_list (by decide +kernel) rfl) pa_nil))))) (pw_or1 (pt_cmpR op_ne (pe_callB call_len_seq (by rfl) T.m_len (by decide +kernel) (pa_cons (pv 0) pa_nil)) (pv 1) (nomark _)))))
      (pss_one (ps_ret pe_bl))
      pss_nil)
    (pss_cons (ps_for PassesOwn.never rfl (pi_list (pv 0)) (pg_name (i := 2) sc__law_row.nd rfl (.inl rfl))
      (pss_one (ps_if (PW.pt (pw_and (pt_cmpR op_notN (pv 2) pe_non (nomark _)) (pw_and1 (pt_not (pt_val (pe_call G__law_whole (hr.mono (by decide)) (by rfl) T.g__law_whole T.f__law_whole.kp T.p__law_whole .nil pass0 (pa_cons (pv 2) pa_nil)))))))
        (pss_one (ps_ret pe_bl))
        pss_nil)))
    (pss_one (ps_ret pe_bl)))), ?_⟩
    subst hn
    refine ⟨_, rfl, _, _, _, _, true, rfl, .ty "list", .base (.lst ha), kit_ty (by decide +kernel), _, rfl, iteF ?_⟩
    refine ⟨_, rfl, a, _, rfl, .inl (.of ha), _, rfl, rfl, _, rfl, iteVN (fun z => absurd (by rw [List.length_map]) z) (fun _ => ?_)⟩
    refine ⟨_, rfl, a, rfl, ⟨_, .of ha⟩, for_list (xs := r.map vO) (fun i σ H' => ∃ y2, σ = [some (.ref a), some (.int (r.length : Int)), y2] ∧ H' = H) ⟨_, rfl, rfl⟩ (fun i σ H' _ h => by obtain ⟨_, _, rfl⟩ := h; exact .of ha) ?_ ?_⟩
    · rintro i x σ H' hx ⟨y2, rfl, rfl⟩
      rw [List.getElem?_map] at hx
      obtain ⟨c, _, rfl⟩ := Option.map_eq_some_iff.mp hx
      cases c with
      | none => exact ⟨_, rfl, rfl, _, rfl, iteDN (fun z => absurd rfl z) (fun _ => iteF ⟨_, rfl, rfl⟩)⟩
      | some j => exact ⟨_, rfl, rfl, _, rfl, iteDN (fun _ => ⟨_, rfl, j, rfl, true, rfl, iteF ⟨_, rfl, rfl⟩⟩) (fun z => nomatch z)⟩
    · rintro σ H' ⟨y2, rfl, rfl⟩
      exact q
/-! ### rows as data -/
def dO : Cell → PyData
  | none => .none
  | some i => .int i
def rowD (r : List Cell) : PyData := .list (r.map dO)
theorem cell_dp {K : PySem.W.Frag} {H : Hp} (c : Cell) : Dp K H (vO c) (dO c) := by
  cases c with
  | none => exact .non
  | some i => exact .int i
theorem cells_dp {K : PySem.W.Frag} {H : Hp} : ∀ r : List Cell, DpAll K H (r.map vO) (r.map dO)
  | [] => .nil
  | c :: r => .cons (cell_dp c) (cells_dp r)
theorem row_dp {K : PySem.W.Frag} {H : Hp} {a : Addr} {r : List Cell} (h : SqL K H a (r.map vO)) : Dp K H (.ref a) (rowD r) := .lst h (cells_dp r)
theorem canLay_cells : ∀ r : List Cell, PyData.canLayAll0 (r.map dO) = true
  | [] => rfl
  | c :: r => by
    rw [List.map_cons]
    show (PyData.canLay0 (dO c) && PyData.canLayAll0 (r.map dO)) = true
    rw [canLay_cells r]
    cases c <;> rfl
theorem depth_cells : ∀ r : List Cell, PyData.depthAll (r.map dO) ≤ 3
  | [] => by decide
  | c :: r => by
    have h := depth_cells r
    rw [List.map_cons]
    show max (PyData.depth (dO c)) (PyData.depthAll (r.map dO)) ≤ 3
    have : PyData.depth (dO c) ≤ 3 := by cases c <;> simp [dO, PyData.depth]
    omega
theorem shaped_row (r : List Cell) : SeqAt.shaped (rowD r) = true := by
  unfold SeqAt.shaped
  have h1 : PyData.canLay0 (rowD r) = true := canLay_cells r
  have h2 : PyData.depth (rowD r) ≤ 64 := by
    have := depth_cells r
    simp only [rowD, PyData.depth]
    omega
  rw [h1, decide_eq_true h2]
  rfl
def rowsD (rs : List (List Cell)) : PyData := .list (rs.map rowD)
theorem canLay_rows : ∀ rs : List (List Cell), PyData.canLayAll0 (rs.map rowD) = true
  | [] => rfl
  | r :: rs => by
    rw [List.map_cons]
    show (PyData.canLay0 (rowD r) && PyData.canLayAll0 (rs.map rowD)) = true
    rw [canLay_rows rs]
    rw [show PyData.canLay0 (rowD r) = true from canLay_cells r]
    rfl
theorem depth_rows : ∀ rs : List (List Cell), PyData.depthAll (rs.map rowD) ≤ 10
  | [] => by decide
  | r :: rs => by
    have h := depth_rows rs
    rw [List.map_cons]
    show max (PyData.depth (rowD r)) (PyData.depthAll (rs.map rowD)) ≤ 10
    have : PyData.depth (rowD r) ≤ 10 := by
      have := depth_cells r
      simp only [rowD, PyData.depth]
      omega
    omega
theorem shaped_rows (rs : List (List Cell)) : SeqAt.shaped (rowsD rs) = true := by
  unfold SeqAt.shaped
  have h1 : PyData.canLay0 (rowsD rs) = true := canLay_rows rs
  have h2 : PyData.depth (rowsD rs) ≤ 64 := by
    have := depth_rows rs
    simp only [rowsD, PyData.depth]
    omega
  rw [h1, decide_eq_true h2]
  rfl
theorem rows_dpAll {K : PySem.W.Frag} {H : Hp} : ∀ {as : List Addr} {rs : List (List Cell)}, RowsAt H as rs → DpAll K H (as.map V.ref) (rs.map rowD)
  | _, _, .nil => .nil
  | _, _, .cons h r => .cons (row_dp (.of h)) (rows_dpAll r)
theorem rows_dp {K : PySem.W.Frag} {H : Hp} {R : Addr} {as : List Addr} {rs : List (List Cell)} (h : SqL K H R (as.map V.ref)) (k : RowsAt H as rs) : Dp K H (.ref R) (rowsD rs) := .lst h (rows_dpAll k)
/-! ### a till and a purse, and what is due of their scales -/
structure Gen2 (ps us : List (Int × Int)) : Prop where
  rp : Rising ps
  ru : Rising us
  vp : ∀ p ∈ ps, 1 ≤ p.1 ∧ p.1 ≤ 5000 ∧ 0 ≤ p.2 ∧ p.2 ≤ 2000000
  vu : ∀ p ∈ us, 1 ≤ p.1 ∧ p.1 ≤ 5000 ∧ 0 ≤ p.2 ∧ p.2 ≤ 2000000
  lp : 1 ≤ ps.length ∧ ps.length ≤ 12
  lu : us.length ≤ 12
def lacks (ps us : List (Int × Int)) : Bool := us.any fun q => !decide (q.1 ∈ ps.map fun p => p.1)
def dueS (ps us : List (Int × Int)) : Str := if lacks ps us = true then "kind" else if worthP ps + worthP us > 1500 then "sum" else ""
theorem dueS_in (ps us : List (Int × Int)) : dueS ps us = "kind" ∨ dueS ps us = "sum" ∨ dueS ps us = "" := by
  unfold dueS
  split
  · exact .inl rfl
  · split
    · exact .inr (.inl rfl)
    · exact .inr (.inr rfl)
def lowOf (ps : List (Int × Int)) : Nat := (worthP ps).toNat
/-! ### the law's walk over the scales -/
/-! ### what is in the purse of a kind -/
def ownOf (us : List (Int × Int)) (v : Int) : Int := (countIn us v).getD 0
def spOwn (K : PySem.W.Frag) : Sp := fun vs H Q _ => ∃ (a : Addr) (us : List (Int × Int)) (v : Int), vs = [.ref a, .int v] ∧ Till K H a us ∧ Q (.int (ownOf us v)) H
theorem ok_own (T : Tx K mg) : FnOk P w K mg base CX0 1 T.a__law_own T.d__law_own P__law_own (spOwn K) := by
  refine T.f__law_own.ok sc__law_own (fun vs H Q E h => ?_) (fun cdv A outer s H vs Q E hr h => ?_)
  · obtain ⟨a, us, v, rfl, _⟩ := h
    rfl
  · obtain ⟨a, us, v, rfl, ⟨xs, hS, hp⟩, q⟩ := h
    refine ⟨_, (pss_cons (ps_for PassesOwn.never rfl (pi_list (pv 0)) (pg_name (i := 2) sc__law_own.nd rfl (.inl rfl))
      (pss_one (ps_if (pt_cmpR op_eq (pe_ix ix_tup (pv 2) pe_int (fun _ _ => rfl)) (pv 1) (nomark _))
        (pss_one (ps_ret (pe_ix ix_tup (pv 2) pe_int (fun _ _ => rfl))))
        pss_nil)))
    (pss_one (ps_ret pe_int))), ?_⟩
    unfold ownOf at q
    refine ⟨_, rfl, a, rfl, ⟨xs, hS⟩, for_list (xs := xs) (fun i σ H' => ∃ y2, σ = [some (.ref a), some (.int v), y2] ∧ H' = H ∧ countIn us v = countIn (us.drop i) v) ⟨_, rfl, rfl, rfl⟩ (fun i σ H' _ h => by obtain ⟨_, _, rfl, _⟩ := h; exact hS) ?_ ?_⟩
    · rintro i x σ H' hx ⟨y2, rfl, rfl, hc⟩
      obtain ⟨p, t, h1, rfl, h3⟩ := Prs.get hp hx
      rw [drop_at h1, countIn_cons] at hc
      refine ⟨_, rfl, t, _, 0, .int p.1, rfl, rfl, .of h3, rfl, _, rfl, rfl, _, rfl, iteVI (fun e => ?_) (fun e => ?_)⟩
      · rw [if_pos e] at hc
        rw [hc] at q
        exact ⟨_, rfl, t, _, 1, .int p.2, rfl, rfl, .of h3, rfl, q⟩
      · rw [if_neg e] at hc
        exact ⟨_, rfl, rfl, hc⟩
    · rintro σ H' ⟨y2, rfl, rfl, hc⟩
      rw [List.drop_of_length_le (by rw [hp.len]; exact Nat.le_refl _)] at hc
      rw [hc] at q
      exact q
/-- the kinds of a till and a purse -/
def kindsOf (ps us : List (Int × Int)) : List Kd := ps.map fun p => (p.1, p.2, ownOf us p.1)
theorem kindsOf_len (ps us : List (Int × Int)) : (kindsOf ps us).length = ps.length := List.length_map _
theorem kindsOf_at {ps us : List (Int × Int)} {k : Nat} {p : Int × Int} (h : ps[k]? = some p) : (kindsOf ps us)[k]? = some (p.1, p.2, ownOf us p.1) := by
  unfold kindsOf
  rw [List.getElem?_map, h]
  rfl
def spTotal (K : PySem.W.Frag) : Sp := fun vs H Q _ => ∃ (a : Addr) (us : List (Int × Int)), vs = [.ref a] ∧ Till K H a us ∧ (∀ p ∈ us, 0 ≤ p.1 ∧ p.1 ≤ 1000000000) ∧ Q (.int (worthP us)) H
theorem ok_total (T : Tx K mg) : FnOk P w K mg base CX0 1 T.a__law_total T.d__law_total P__law_total (spTotal K) := by
  refine T.f__law_total.ok sc__law_total (fun vs H Q E h => ?_) (fun cdv A outer s H vs Q E hr h => ?_)
  · obtain ⟨a, us, rfl, _⟩ := h
    rfl
  · obtain ⟨a, us, rfl, ⟨xs, hS, hp⟩, hv, q⟩ := h
    refine ⟨_, (pss_cons (ps_set (i := 1) sc__law_total.nd rfl (.inl rfl) pe_int)
    (pss_cons (ps_for PassesOwn.never rfl (pi_list (pv 0)) (pg_name (i := 2) sc__law_total.nd rfl (.inl rfl))
      (pss_one (ps_set (i := 1) sc__law_total.nd rfl (.inl rfl) (pe_op op_add (pv 1) (pe_op op_mul (pe_ix ix_tup (pv 2) pe_int (fun _ _ => rfl)) (pe_ix ix_tup (pv 2) pe_int (fun _ _ => rfl)))))))
    (pss_one (ps_ret (pv 1))))), ?_⟩
    refine ⟨_, rfl, a, rfl, ⟨xs, hS⟩, for_list (xs := xs) (fun i σ H' => ∃ y2, σ = [some (.ref a), some (.int (worthP (us.take i))), y2] ∧ H' = H) ⟨_, rfl, rfl⟩ (fun i σ H' _ h => by obtain ⟨_, _, rfl⟩ := h; exact hS) ?_ ?_⟩
    · rintro i x σ H' hx ⟨y2, rfl, rfl⟩
      obtain ⟨p, t, h1, rfl, h3⟩ := Prs.get hp hx
      have hpv := hv p (List.mem_of_getElem? h1)
      refine ⟨_, rfl, _, rfl, t, _, 0, .int p.1, rfl, rfl, .of h3, rfl, _, rfl, t, _, 1, .int p.2, rfl, rfl, .of h3, rfl, _, _, rfl, rfl, .inl ⟨by omega, by omega⟩, _, _, rfl, rfl, some (.ref t), ?_, rfl⟩
      rw [take_snoc h1, worthP_app]
      show [_, some (V.int (worthP (us.take i) + p.1 * p.2)), _] = [_, some (V.int (worthP (us.take i) + (p.1 * p.2 + 0))), _]
      rw [Int.add_zero]
    · rintro σ H' ⟨y2, rfl, rfl⟩
      rw [List.take_of_length_le (by rw [hp.len]; exact Nat.le_refl _)]
      exact ⟨_, rfl, q⟩
def spLightest (K : PySem.W.Frag) : Sp := fun vs H Q _ => ∃ (a t : Addr) (r : List Cell) (d v c o : Nat), vs = [.ref a, .int (d : Int), .ref t, .int (o : Int)] ∧ Row K H a r ∧ H t = some (.tup [.int (v : Int), .int (c : Int)]) ∧ r.length ≤ 100000 ∧ d ≤ 100000 ∧ v ≤ 100000 ∧ c ≤ 100000 ∧ o ≤ 100000 ∧ Q (vO (litF r v c o (d : Int))) H
theorem ok_lightest (T : Tx K mg) : FnOk P w K mg base CX0 1 T.a__law_lightest T.d__law_lightest P__law_lightest (spLightest K) := by
  refine T.f__law_lightest.ok sc__law_lightest (fun vs H Q E h => ?_) (fun cdv A outer s H vs Q E hr h => ?_)
  · obtain ⟨a, t, r, d, v, c, o, rfl, _⟩ := h
    rfl
  · obtain ⟨a, t, r, d, v, c, o, rfl, hS, ht, hl, hd, hv, hc, ho, q⟩ := h
    refine ⟨_, (pss_cons (ps_set (i := 4) sc__law_lightest.nd rfl (.inl rfl) pe_non)
    (pss_cons (ps_for PassesOwn.never rfl (pi_range2 (by rfl) T.m_range (pa_cons (pe_op op_sub pe_int (pe_ix ix_tup (pv 2) pe_int (fun _ _ => rfl))) (pa_cons (pe_op op_add (pv 3) pe_int) pa_nil))) (pg_name (i := 5) sc__law_lightest.nd rfl (.inl rfl))
      (pss_cons (ps_set (i := 6) sc__law_lightest.nd rfl (.inl rfl) (pe_op op_sub (pv 1) (pe_op op_mul (pv 5) (pe_ix ix_tup (pv 2) pe_int (fun _ _ => rfl)))))
      (pss_one (ps_if (PW.pt (pw_and (pt_cmpR op_le pe_int (pv 6) (nomark _)) (pw_and (pt_cmpR op_lt (pv 6) (pe_callB call_len_seq (by rfl) T.m_len (by decide +kernel) (pa_cons (pv 0) pa_nil)) (nomark _)) (pw_and1 (pt_cmpR op_notN (pe_ix ix_list (pv 0) (pv 6) (fun _ _ => rfl)) pe_non (nomark _))))))
        (pss_cons (ps_set (i := 7) sc__law_lightest.nd rfl (.inl rfl) (pe_op op_add (pe_ix ix_list (pv 0) (pv 6) (fun _ _ => rfl)) (pe_callB call_abs (by rfl) T.m_abs (by decide +kernel) (pa_cons (pv 5) pa_nil))))
        (pss_one (ps_if (PW.pt (pw_or (pt_cmpR op_isN (pv 4) pe_non (nomark _)) (pw_or1 (pt_cmpR op_lt (pv 7) (pv 4) (nomark _)))))
          (pss_one (ps_set (i := 4) sc__law_lightest.nd rfl (.inl rfl) (pv 7)))
          pss_nil)))
        pss_nil))))
    (pss_one (ps_ret (pv 4))))), ?_⟩
    have hS' : SqL K H a (r.map vO) := hS
    refine ⟨_, rfl, t, _, 1, .int (c : Int), rfl, rfl, .of ht, rfl, _, _, rfl, rfl, _, rfl, _, _, rfl, rfl, _, _, rfl, ⟨by omega, by omega, by omega, by omega⟩, ?_⟩
    refine for_range (fun i σ H' => ∃ y5 y6 y7, σ = [some (.ref a), some (.int (d : Int)), some (.ref t), some (.int (o : Int)), some (vO (litUp r v c (d : Int) i)), y5, y6, y7] ∧ H' = H) ⟨_, _, _, rfl, rfl⟩ ?_ ?_
    · rintro i σ H' hi ⟨y5, y6, y7, rfl, rfl⟩
      have ej : (0 : Int) - (c : Int) + (i : Int) = -(c : Int) + i := by omega
      rw [ej]
      generalize hj : -(c : Int) + (i : Int) = j
      have hup : litUp r v c (d : Int) (i + 1) = bund (litUp r v c (d : Int) i) (cellAt r ((d : Int) - j * v)) (j.natAbs : Int) := by
        rw [← hj]
        rfl
      refine ⟨_, rfl, _, rfl, _, rfl, t, _, 0, .int (v : Int), rfl, rfl, .of ht, rfl, _, _, rfl, rfl, .inr ⟨by omega, by omega⟩, _, _, rfl, rfl, ?_⟩
      have hab : (if j < 0 then -j else j) = (j.natAbs : Int) := by split <;> omega
      have none_of : cellAt r ((d : Int) - j * (v : Int)) = none → litUp r v c (d : Int) (i + 1) = litUp r v c (d : Int) i := fun e => by
        rw [hup, e]
        rfl
      have keep : litUp r v c (d : Int) (i + 1) = litUp r v c (d : Int) i → ∀ y7 : Option V, ∃ y5 y6 y7', [some (V.ref a), some (.int (d : Int)), some (.ref t), some (.int (o : Int)), some (vO (litUp r v c (d : Int) i)), some (.int j), some (.int ((d : Int) - j * (v : Int))), y7] = [some (.ref a), some (.int (d : Int)), some (.ref t), some (.int (o : Int)), some (vO (litUp r v c (d : Int) (i + 1))), y5, y6, y7'] ∧ H' = H' := fun e y7 => ⟨_, _, _, by rw [e], rfl⟩
      refine ⟨_, rfl, _, _, rfl, rfl, _, rfl, iteD (fun z0 => ?_) (fun z0 => iteF (keep (none_of (if_neg fun y => z0 y.1)) _))⟩
      refine ⟨_, rfl, _, rfl, a, _, rfl, .inl hS', _, _, rfl, rfl, _, rfl, iteD (fun z1 => ?_) (fun z1 => iteF (keep (none_of (if_neg fun y => z1 (by rw [List.length_map]; exact y.2))) _))⟩
      have z1' : ((d : Int) - j * (v : Int)) < (r.length : Int) := by
        have y : ((d : Int) - j * (v : Int)) < ((r.map vO).length : Int) := z1
        rw [List.length_map] at y
        exact y
      have z0' : 0 ≤ ((d : Int) - j * (v : Int)) := z0
      have hcz : cellAt r ((d : Int) - j * (v : Int)) = rAt r ((d : Int) - j * (v : Int)).toNat := if_pos ⟨z0', z1'⟩
      have a1 : atI (r.map vO) ((d : Int) - j * (v : Int)) = some (vO (cellAt r ((d : Int) - j * (v : Int)))) := at_of (j := ((d : Int) - j * (v : Int)).toNat) (by omega) (by rw [hcz]; exact vO_at (by omega))
      cases hx : cellAt r ((d : Int) - j * (v : Int)) with
      | none =>
        rw [hx] at a1
        exact ⟨_, rfl, _, rfl, a, _, _, _, rfl, rfl, hS', a1, rfl, _, rfl, iteDN (fun y => absurd rfl y) (fun _ => keep (none_of hx) _)⟩
      | some x =>
        rw [hx] at a1 hup
        refine ⟨_, rfl, _, rfl, a, _, _, _, rfl, rfl, hS', a1, rfl, _, rfl, iteDN (fun _ => ?_) (fun y => nomatch y)⟩
        refine ⟨_, rfl, _, rfl, a, _, _, _, rfl, rfl, hS', a1, _, rfl, ?_⟩
        refine ⟨_, rfl, _, _, rfl, rfl, ?_⟩
        cases hy : litUp r v c (d : Int) i with
        | none =>
          rw [hy] at hup
          refine ⟨_, rfl, rfl, _, rfl, iteD (fun _ => iteT ?_) (fun y => absurd rfl y)⟩
          refine ⟨_, rfl, some (.int j), some (.int ((d : Int) - j * (v : Int))), some (.int (x + (if j < 0 then -j else j))), ?_, rfl⟩
          rw [hup, show bund none (some x) (j.natAbs : Int) = some (x + (if j < 0 then -j else j)) by rw [hab]; rfl]
          rfl
        | some y =>
          rw [hy] at hup
          refine ⟨_, rfl, rfl, _, rfl, iteD (fun e => nomatch e) (fun _ => ?_)⟩
          refine ⟨_, rfl, _, rfl, _, _, rfl, rfl, _, rfl, iteD (fun e => ?_) (fun e => ?_)⟩
          · refine ⟨_, rfl, some (.int j), some (.int ((d : Int) - j * (v : Int))), some (.int (x + (if j < 0 then -j else j))), ?_, rfl⟩
            rw [hup, show bund (some y) (some x) (j.natAbs : Int) = some (x + (if j < 0 then -j else j)) by
              have e' : x + (if j < 0 then -j else j) < y := e
              rw [hab] at e' ⊢
              exact if_pos e']
            rfl
          · refine ⟨some (.int j), some (.int ((d : Int) - j * (v : Int))), some (.int (x + (if j < 0 then -j else j))), ?_, rfl⟩
            rw [hup, show bund (some y) (some x) (j.natAbs : Int) = some y by
              have e' : ¬ x + (if j < 0 then -j else j) < y := e
              rw [hab] at e'
              exact if_neg e']
            rfl
    · rintro σ H' ⟨y5, y6, y7, rfl, rfl⟩
      refine ⟨_, rfl, ?_⟩
      rw [show (((o : Int) + 1) - (0 - (c : Int))).toNat = c + o + 1 by omega]
      exact q
/-! ### what fits -/
theorem scl0 (low high : Nat) : (List.replicate low [V.non]).flatten ++ [V.int 0] ++ (List.replicate high [V.non]).flatten = (row0L low high).map vO := by
  have h : ∀ n, (List.replicate n [V.non]).flatten = (List.replicate n (none : Cell)).map vO := by
    intro n
    induction n with
    | zero => rfl
    | succ n ih =>
      rw [List.replicate_succ, List.replicate_succ, List.flatten_cons, List.map_cons, ih]
      rfl
  rw [h, h]
  unfold row0L
  rw [List.map_append, List.append_assoc]
  rfl
/-- small enough to be told -/
def Fits (us : List (Int × Int)) : Prop := us.length ≤ 1000 ∧ ∀ p ∈ us, 0 ≤ p.1 ∧ p.1 ≤ 100000 ∧ 0 ≤ p.2 ∧ p.2 ≤ 100000
theorem worthP_nn {us : List (Int × Int)} (h : ∀ p ∈ us, 0 ≤ p.1 ∧ 0 ≤ p.2) : 0 ≤ worthP us := by
  unfold worthP
  induction us with
  | nil => exact Int.le_refl _
  | cons p us ih =>
    rw [List.map_cons, List.sum_cons]
    have h1 := ih fun q hq => h q (List.mem_cons_of_mem _ hq)
    have h2 := h p List.mem_cons_self
    have h3 : 0 ≤ p.1 * p.2 := Int.mul_nonneg h2.1 h2.2
    omega
theorem worthP_ge {us : List (Int × Int)} (h : ∀ p ∈ us, 0 ≤ p.1 ∧ 0 ≤ p.2) {p : Int × Int} (hp : p ∈ us) : p.1 * p.2 ≤ worthP us := by
  induction us with
  | nil => cases hp
  | cons q us ih =>
    have h1 := worthP_nn fun r hr => h r (List.mem_cons_of_mem _ hr)
    have h2 := h q List.mem_cons_self
    have h3 : 0 ≤ q.1 * q.2 := Int.mul_nonneg h2.1 h2.2
    show _ ≤ (List.map (fun p : Int × Int => p.1 * p.2) (q :: us)).sum
    rw [List.map_cons, List.sum_cons]
    rcases List.mem_cons.mp hp with e | e
    · rw [e]
      unfold worthP at h1
      omega
    · have := ih (fun r hr => h r (List.mem_cons_of_mem _ hr)) e
      unfold worthP at this
      omega
theorem le_mul_of {a b : Int} (ha : 1 ≤ a) (hb : 0 ≤ b) : b ≤ a * b := by
  have : 1 * b ≤ a * b := Int.mul_le_mul_of_nonneg_right ha hb
  rw [Int.one_mul] at this
  exact this
theorem ownOf_in {us : List (Int × Int)} (h : Fits us) (v : Int) : 0 ≤ ownOf us v ∧ ownOf us v ≤ 100000 := by
  unfold ownOf
  cases e : countIn us v with
  | none => exact ⟨Int.le_refl _, by decide⟩
  | some c =>
    have := h.2 _ (countIn_mem e)
    exact ⟨this.2.2.1, this.2.2.2⟩
def scalesOf (ps us : List (Int × Int)) : List (List Cell) := rowsL (row0L (lowOf ps) (lowOf us)) (kindsOf ps us)
def twoD (ps us : List (Int × Int)) : PyData := .list [.list (ps.map dP), .list (us.map dP)]
theorem shaped_two (ps us : List (Int × Int)) : SeqAt.shaped (twoD ps us) = true := by
  unfold SeqAt.shaped
  have h1 : PyData.canLay0 (twoD ps us) = true := by
    show (PyData.canLayAll0 (ps.map dP) && (PyData.canLayAll0 (us.map dP) && true)) = true
    rw [canLay_dPs, canLay_dPs]
    rfl
  have h2 : PyData.depth (twoD ps us) ≤ 64 := by
    have a := depth_dPs ps
    have b := depth_dPs us
    simp only [twoD, PyData.depth, PyData.depthAll]
    omega
  rw [h1, decide_eq_true h2]
  rfl
def spScaled (K : PySem.W.Frag) : Sp := fun vs H Q _ => ∃ (R t u : Addr) (as : List Addr) (ps us : List (Int × Int)), vs = [.ref R, .ref t, .ref u] ∧ H R = some (.lst (as.map V.ref)) ∧ RowsAt H as (scalesOf ps us) ∧ Till K H t ps ∧ Till K H u us ∧ Fits ps ∧ Fits us ∧ worthP ps + worthP us ≤ 10000 ∧ Ret (.bl true) H Q
theorem ok_scaled (T : Tx K mg) : FnOk P w K mg base CX0 3 T.a__law_scaled T.d__law_scaled P__law_scaled (spScaled K) := by
  have G__law_total := ok_total (P := P) (w := w) (base := base) T
  have G__law_row := ok_row (P := P) (w := w) (base := base) T
  have G__law_own := ok_own (P := P) (w := w) (base := base) T
  have G__law_lightest := ok_lightest (P := P) (w := w) (base := base) T
  refine T.f__law_scaled.ok sc__law_scaled (fun vs H Q E h => ?_) (fun cdv A outer s H vs Q E hr h => ?_)
  · obtain ⟨R, t, u, as, ps, us, rfl, _⟩ := h
    rfl
  · obtain ⟨R, t, u, as, ps, us, rfl, eR, hrows, ⟨xs, hS, hp⟩, hU, hfp, hfu, hw, q⟩ := h
    refine ⟨_, (pss_cons (ps_set (i := 3) sc__law_scaled.nd rfl (.inl rfl) (pe_call G__law_total (hr.mono (by decide)) (by rfl) T.g__law_total T.f__law_total.kp T.p__law_total .nil pass0 (pa_cons (pv 1) pa_nil)))
    (pss_cons (ps_set (i := 4) sc__law_scaled.nd rfl (.inl rfl) (pe_op op_add (pe_op op_add (pv 3) (pe_call G__law_total (hr.mono (by decide)) (by rfl) T.g__law_total T.f__law_total.kp T.p__law_total .nil pass0 (pa_cons (pv 2) pa_nil))) pe_int))
    (pss_cons (ps_if (PW.pt (pw_or (pt_not (pt_val (pe_callB call_isi (by rfl) T.m_isinstance (by decide +kernel) (pa_cons (pv 0) (pa_cons (pe_bltn (v := .ty "list") (by rfl) T.m_list (by decide +kernel) rfl) pa_nil))))) (pw_or (pt_cmpR op_ne (pe_callB call_len_seq (by rfl) T.m_len (by decide +kernel) (pa_cons (pv 0) pa_nil)) (pe_op op_add (pe_callB call_len_seq (by rfl) T.m_len (by decide +kernel) (pa_cons (pv 1) pa_nil)) pe_int) (nomark _)) (pw_or1 (pt_not (pt_val (pe_call G__law_row (hr.mono (by decide)) (by rfl) T.g__law_row T.f__law_row.kp T.p__law_row .nil pass0 (pa_cons (pe_ix ix_list (pv 0) pe_int (fun _ _ => rfl)) (pa_cons (pv 4) pa_nil)))))))))
      (pss_one (ps_ret pe_bl))
      pss_nil)
    (pss_cons (ps_if (pt_cmpR (op_neD hr.units) (pe_ix ix_list (pv 0) pe_int (fun _ _ => rfl)) (pe_op op_cat (pe_op op_cat (pe_op op_rep (pe_lst (pa_cons pe_non pa_nil)) (pv 3)) (pe_lst (pa_cons pe_int pa_nil))) (pe_op op_rep (pe_lst (pa_cons pe_non pa_nil)) (pe_op op_sub (pe_op op_sub (pv 4) (pv 3)) pe_int))) (nomark _))
      (pss_one (ps_ret pe_bl))
      pss_nil)
    (pss_cons (ps_for PassesOwn.never rfl (pi_range1 (by rfl) T.m_range (pa_cons (pe_callB call_len_seq (by rfl) T.m_len (by decide +kernel) (pa_cons (pv 1) pa_nil)) pa_nil)) (pg_name (i := 5) sc__law_scaled.nd rfl (.inl rfl))
      (pss_cons (ps_if (pt_not (pt_val (pe_call G__law_row (hr.mono (by decide)) (by rfl) T.g__law_row T.f__law_row.kp T.p__law_row .nil pass0 (pa_cons (pe_ix ix_list (pv 0) (pe_op op_add (pv 5) pe_int) (fun _ _ => rfl)) (pa_cons (pv 4) pa_nil)))))
        (pss_one (ps_ret pe_bl))
        pss_nil)
      (pss_cons (ps_set (i := 6) sc__law_scaled.nd rfl (.inl rfl) (pe_call G__law_own (hr.mono (by decide)) (by rfl) T.g__law_own T.f__law_own.kp T.p__law_own .nil pass0 (pa_cons (pv 2) (pa_cons (pe_ix ix_tup (pe_ix ix_list (pv 1) (pv 5) (fun _ _ => rfl)) pe_int (fun _ _ => rfl)) pa_nil))))
      (pss_one (ps_for PassesOwn.never rfl (pi_range1 (by rfl) T.m_range (pa_cons (pv 4) pa_nil)) (pg_name (i := 7) sc__law_scaled.nd rfl (.inl rfl))
        (pss_one (ps_if (pt_cmpR op_ne (pe_ix ix_list (pe_ix ix_list (pv 0) (pe_op op_add (pv 5) pe_int) (fun _ _ => rfl)) (pv 7) (fun _ _ => rfl)) (pe_call G__law_lightest (hr.mono (by decide)) (by rfl) T.g__law_lightest T.f__law_lightest.kp T.p__law_lightest .nil pass0 (pa_cons (pe_ix ix_list (pv 0) (pv 5) (fun _ _ => rfl)) (pa_cons (pv 7) (pa_cons (pe_ix ix_list (pv 1) (pv 5) (fun _ _ => rfl)) (pa_cons (pv 6) pa_nil))))) (nomark _))
          (pss_one (ps_ret pe_bl))
          pss_nil)))))))
    (pss_one (ps_ret pe_bl))))))), ?_⟩
    have hpl := hp.len
    have hl0 : worthP ps = (lowOf ps : Int) := (Int.toNat_of_nonneg (worthP_nn fun p hp => ⟨(hfp.2 p hp).1, (hfp.2 p hp).2.2.1⟩)).symm
    have hh0 : worthP us = (lowOf us : Int) := (Int.toNat_of_nonneg (worthP_nn fun p hp => ⟨(hfu.2 p hp).1, (hfu.2 p hp).2.2.1⟩)).symm
    have hal : (as.map V.ref).length = ps.length + 1 := by
      rw [List.length_map, hrows.len]
      show (rowsL _ _).length = _
      rw [rowsL_len, kindsOf_len]
    obtain ⟨a0, i0, _, ea0⟩ := at_row hrows (i := 0) (k := 0) rfl (rowsL_at _ _ (Nat.zero_le _))
    have ea0' : H a0 = some (.lst ((row0L (lowOf ps) (lowOf us)).map vO)) := ea0
    generalize hlo : lowOf ps = low at hl0 ea0'
    generalize hhi : lowOf us = high at hh0 ea0'
    have hrl : (row0L low high).length = low + high + 1 := row0L_len ..
    refine ⟨_, rfl, t, ps, rfl, ⟨xs, hS, hp⟩, fun p hp => by have := hfp.2 p hp; omega, ?_⟩
    rw [hl0]
    refine ⟨_, rfl, _, rfl, u, us, rfl, hU, fun p hp => by have := hfu.2 p hp; omega, ?_⟩
    rw [hh0]
    refine ⟨_, _, rfl, rfl, _, _, rfl, rfl, ?_⟩
    refine ⟨_, rfl, _, _, _, _, true, rfl, .ty "list", .base (.lst eR), kit_ty (by decide +kernel), _, rfl, iteF ?_⟩
    refine ⟨_, rfl, R, _, rfl, .inl (.of eR), _, rfl, t, xs, rfl, .inl hS, _, _, rfl, rfl, rfl, _, rfl, iteVN (fun z => absurd (by rw [hal, hpl]; rfl) z) (fun _ => ?_)⟩
    refine ⟨_, rfl, R, _, _, .ref a0, rfl, rfl, .of eR, i0, _, rfl, a0, row0L low high, _, rfl, ea0', by rw [hrl]; rfl, true, rfl, iteF ?_⟩
    -- the row of no kinds
    refine ⟨_, rfl, R, _, _, .ref a0, rfl, rfl, .of eR, i0, ?_⟩
    refine ⟨len63 (by show 1 ≤ _; decide), fun l1 hl1 => ?_⟩
    (generalize hh : upd H l1 _ = H1; have e1 : Ex H H1 := (by rw [← hh]; exact Ex.nw hl1); have c1 := (show H1 l1 = some _ by rw [← hh]; exact upd_same); clear hh)
    refine ⟨_, rfl, l1, _, _, rfl, rfl, c1, by omega, by omega, len63 (by rw [Int.toNat_natCast]; show 1 * low ≤ _; omega), fun l2 hl2 => ?_⟩
    rw [Int.toNat_natCast]
    (generalize hh : upd H1 l2 _ = H2; have e2 : Ex H1 H2 := (by rw [← hh]; exact Ex.nw hl2); have c2 := (show H2 l2 = some _ by rw [← hh]; exact upd_same); clear hh)
    refine ⟨len63 (by show 1 ≤ _; decide), fun l3 hl3 => ?_⟩
    (generalize hh : upd H2 l3 _ = H3; have e3 : Ex H2 H3 := (by rw [← hh]; exact Ex.nw hl3); have c3 := (show H3 l3 = some _ by rw [← hh]; exact upd_same); clear hh)
    refine ⟨l2, l3, _, _, rfl, rfl, e3 _ _ c2, c3, len63 (by simp; omega), fun l4 hl4 => ?_⟩
    (generalize hh : upd H3 l4 _ = H4; have e4 : Ex H3 H4 := (by rw [← hh]; exact Ex.nw hl4); have c4 := (show H4 l4 = some _ by rw [← hh]; exact upd_same); clear hh)
    refine ⟨len63 (by show 1 ≤ _; decide), fun l5 hl5 => ?_⟩
    (generalize hh : upd H4 l5 _ = H5; have e5 : Ex H4 H5 := (by rw [← hh]; exact Ex.nw hl5); have c5 := (show H5 l5 = some _ by rw [← hh]; exact upd_same); clear hh)
    have hsz : ((low : Int) + (high : Int) + 1 - (low : Int) - 1).toNat = high := by omega
    refine ⟨_, rfl, _, rfl, _, _, rfl, rfl, _, _, rfl, rfl, l5, _, _, rfl, rfl, c5, by omega, by omega, len63 (by rw [hsz]; show 1 * high ≤ _; omega), fun l6 hl6 => ?_⟩
    rw [hsz]
    (generalize hh : upd H5 l6 _ = H6; have e6 : Ex H5 H6 := (by rw [← hh]; exact Ex.nw hl6); have c6 := (show H6 l6 = some _ by rw [← hh]; exact upd_same); clear hh)
    refine ⟨l4, l6, _, _, rfl, rfl, e6 _ _ (e5 _ _ c4), c6, len63 (by simp; omega), fun l7 hl7 => ?_⟩
    rw [scl0]
    (generalize hh : upd H6 l7 _ = H7; have e7 : Ex H6 H7 := (by rw [← hh]; exact Ex.nw hl7); have c7 := (show H7 l7 = some _ by rw [← hh]; exact upd_same); clear hh)
    have ex7 : Ex H H7 := (((((e1.tr e2).tr e3).tr e4).tr e5).tr e6).tr e7
    refine ⟨_, _, row_dp (K := K) (.of (ex7 _ _ ea0')), row_dp (K := K) (.of c7), shaped_row _, shaped_row _, ?_⟩
    rw [eqv_of_shaped (shaped_row _)]
    refine ⟨_, rfl, iteF ?_⟩
    have eR7 := ex7 _ _ eR
    have hrows7 := hrows.ex ex7
    have hS7 := ex7.seq hS
    have hp7 := hp.ex ex7
    have hU7 := hU.ex ex7
    have hll : ∀ j, (lastL (row0L low high) ((kindsOf ps us).take j)).length = low + high + 1 := fun j => by rw [lastL_len, hrl]
    unfold scalesOf at hrows7
    rw [hlo, hhi] at hrows7
    refine ⟨_, rfl, t, xs, rfl, .inl hS7, _, rfl, by have := hfp.1; omega, by have := hfp.1; omega, ?_⟩
    refine for_range (fun i σ H' => ∃ y5 y6 y7, σ = [some (.ref R), some (.ref t), some (.ref u), some (.int (low : Int)), some (.int ((low : Int) + (high : Int) + 1)), y5, y6, y7] ∧ H' = H7) ⟨_, _, _, rfl, rfl⟩ ?_ ?_
    · rintro k σ H' hk ⟨y5, y6, y7, rfl, rfl⟩
      have hk' : k < ps.length := by omega
      obtain ⟨b, ib, _, eb⟩ := at_row hrows7 (i := 0 + (k : Int) + 1) (k := k + 1) (by omega) (rowsL_at _ _ (by rw [kindsOf_len]; omega))
      obtain ⟨a, ia, _, ea⟩ := at_row hrows7 (i := 0 + (k : Int)) (k := k) (by omega) (rowsL_at _ _ (by rw [kindsOf_len]; omega))
      have hpk := List.getElem?_eq_getElem hk'
      obtain ⟨t2, hx0, h3⟩ := Prs.getL hp7 hpk
      have hpv := hfp.2 _ (List.getElem_mem hk')
      generalize ps[k] = p at hpk h3 hpv
      have hx : atI xs (0 + (k : Int)) = some (.ref t2) := at_of (Int.zero_add _) hx0
      have hkk := kindsOf_at (us := us) hpk
      have hown := ownOf_in hfu p.1
      obtain ⟨v, hv0⟩ : ∃ v : Nat, p.1 = (v : Int) := ⟨p.1.toNat, (Int.toNat_of_nonneg (by omega)).symm⟩
      obtain ⟨c, hc0⟩ : ∃ c : Nat, p.2 = (c : Int) := ⟨p.2.toNat, (Int.toNat_of_nonneg (by omega)).symm⟩
      obtain ⟨o, ho0⟩ : ∃ o : Nat, ownOf us p.1 = (o : Int) := ⟨(ownOf us p.1).toNat, (Int.toNat_of_nonneg (by omega)).symm⟩
      have hstep : lastL (row0L low high) ((kindsOf ps us).take (k + 1)) = nextLit (lastL (row0L low high) ((kindsOf ps us).take k)) v c o := by
        rw [take_snoc hkk, lastL_snoc]
        show nextLit _ p.1.toNat p.2.toNat (ownOf us p.1).toNat = _
        rw [show p.1.toNat = v by omega, show p.2.toNat = c by omega, show (ownOf us p.1).toNat = o by omega]
      rw [hv0, hc0] at h3
      refine ⟨_, rfl, _, rfl, _, _, rfl, rfl, R, _, _, _, rfl, rfl, .of eR7, ib, _, rfl, b, _, _, rfl, eb, by rw [hll]; rfl, true, rfl, iteF ?_⟩
      refine ⟨_, rfl, _, rfl, _, rfl, t, xs, _, _, rfl, rfl, hS7, hx, t2, _, 0, .int (v : Int), rfl, rfl, .of h3, rfl, u, us, (v : Int), rfl, hU7, ?_⟩
      rw [← hv0, ho0]
      refine ⟨_, rfl, _, rfl, by omega, by omega, ?_⟩
      refine for_range (fun i σ H9 => ∃ y7, σ = [some (.ref R), some (.ref t), some (.ref u), some (.int (low : Int)), some (.int ((low : Int) + (high : Int) + 1)), some (.int (0 + (k : Int))), some (.int (o : Int)), y7] ∧ H9 = H') ⟨_, rfl, rfl⟩ ?_ ?_
      · rintro d σ H9 hd ⟨y7, rfl, rfl⟩
        have hd' : d < low + high + 1 := by omega
        have c1 : rAt (lastL (row0L low high) ((kindsOf ps us).take (k + 1))) d = litF (lastL (row0L low high) ((kindsOf ps us).take k)) v c o (d : Int) := by
          rw [hstep]
          exact nextLit_at (by rw [hll]; exact hd')
        have id : atI ((lastL (row0L low high) ((kindsOf ps us).take (k + 1))).map vO) (0 + (d : Int)) = some (vO (litF (lastL (row0L low high) ((kindsOf ps us).take k)) v c o (d : Int))) := at_of (Int.zero_add _) (by
          rw [vO_at (by rw [hll]; exact hd'), c1])
        refine ⟨_, rfl, _, rfl, _, _, rfl, rfl, R, _, _, _, rfl, rfl, .of eR7, ib, _, rfl, b, _, _, _, rfl, rfl, .of eb, id, ?_⟩
        refine ⟨_, rfl, _, rfl, R, _, _, _, rfl, rfl, .of eR7, ia, _, rfl, _, rfl, _, rfl, t, xs, _, _, rfl, rfl, hS7, hx, _, rfl, ?_⟩
        refine ⟨a, t2, _, d, v, c, o, by rw [Int.zero_add]; rfl, .of ea, h3, by rw [hll]; omega, by omega, by omega, by omega, by omega, ?_⟩
        generalize litF _ _ _ _ _ = z
        have hsc : scal (vO z) (vO z) = true := by cases z <;> rfl
        exact ⟨hsc, _, rfl, iteDN (fun y => absurd rfl y) (fun _ => ⟨_, rfl, rfl⟩)⟩
      · rintro σ H9 ⟨y7, rfl, rfl⟩
        exact ⟨_, _, _, rfl, rfl⟩
    · rintro σ H' ⟨y5, y6, y7, rfl, rfl⟩
      exact q _ ex7
/-! ### a value, drawn -/
def valueT (c k : Int) : Int := if c % 3 = 0 then menu.getD (mixed c k % 10).toNat 0 else if c % 3 = 1 then 1 + mixed c k % 12 else 1 + mixed c k % 60
theorem valueT_in (c k : Int) (_ : 1 ≤ k ∧ k ≤ 11) : 1 ≤ valueT c k ∧ valueT c k ≤ 1000 := by
  unfold valueT
  split
  · exact menu_in _ (by have := Int.emod_lt_of_pos (mixed c k) (by decide : (0 : Int) < 10); have := Int.emod_nonneg (mixed c k) (by decide : (10 : Int) ≠ 0); omega)
  · split <;> omega
def spValueT : Sp := fun vs H Q _ => ∃ c k, vs = [.int c, .int k] ∧ (-(2 ^ 64) < k ∧ k < 2 ^ 64) ∧ Ret (.int (valueT c k)) H Q
theorem ok_valueT (T : Tx K mg) : FnOk P w K mg base CX0 2 T.a__law_value T.d__law_value P__law_value spValueT := by
  have G__law_mixed := ok_mixed (P := P) (w := w) (base := base) T
  refine T.f__law_value.ok sc__law_value (fun vs H Q E h => ?_) (fun cdv A outer s H vs Q E hr h => ?_)
  · obtain ⟨c, k, rfl, _⟩ := h
    rfl
  · obtain ⟨c, k, rfl, hk, q⟩ := h
    refine ⟨_, (pss_cons (ps_set (i := 2) sc__law_value.nd rfl (.inl rfl) (pe_call G__law_mixed (hr.mono (by decide)) (by rfl) T.g__law_mixed T.f__law_mixed.kp T.p__law_mixed .nil pass0 (pa_cons (pv 0) (pa_cons (pv 1) pa_nil))))
    (pss_cons (ps_if (pt_cmpR op_eq (pe_op op_mod (pv 0) pe_int) pe_int (nomark _))
      (pss_one (ps_ret (pe_ix ix_list (pe_lst (pa_cons pe_int (pa_cons pe_int (pa_cons pe_int (pa_cons pe_int (pa_cons pe_int (pa_cons pe_int (pa_cons pe_int (pa_cons pe_int (pa_cons pe_int (pa_cons pe_int pa_nil))))))))))) (pe_op op_mod (pv 2) pe_int) (fun _ _ => rfl))))
      pss_nil)
    (pss_cons (ps_if (pt_cmpR op_eq (pe_op op_mod (pv 0) pe_int) pe_int (nomark _))
      (pss_one (ps_ret (pe_op op_add pe_int (pe_op op_mod (pv 2) pe_int))))
      pss_nil)
    (pss_one (ps_ret (pe_op op_add pe_int (pe_op op_mod (pv 2) pe_int))))))), ?_⟩
    unfold valueT at q
    repeat (first | refine ⟨_, rfl, ?_⟩ | refine ⟨(by show (0 : Int) < _; decide), ?_⟩ | refine ⟨⟨by decide, by decide⟩, ?_⟩ | refine ⟨.inr ⟨by decide, by decide⟩, ?_⟩ | refine ⟨.inl ⟨by decide, by decide⟩, ?_⟩ | refine ⟨⟨by decide, by decide, by decide⟩, ?_⟩ | refine ⟨_, _, rfl, rfl, ?_⟩ | refine ⟨rfl, _, rfl, ?_⟩)
    refine ⟨_, _, rfl, hk, ?_⟩
    repeat (first | refine ⟨_, rfl, ?_⟩ | refine ⟨(by show (0 : Int) < _; decide), ?_⟩ | refine ⟨⟨by decide, by decide⟩, ?_⟩ | refine ⟨.inr ⟨by decide, by decide⟩, ?_⟩ | refine ⟨.inl ⟨by decide, by decide⟩, ?_⟩ | refine ⟨⟨by decide, by decide, by decide⟩, ?_⟩ | refine ⟨_, _, rfl, rfl, ?_⟩ | refine ⟨rfl, _, rfl, ?_⟩)
    first | refine iteVI (fun e => ?_) (fun e => ?_) | refine iteVN (fun e => ?_) (fun e => ?_) | refine iteD (fun e => ?_) (fun e => ?_) | refine iteDN (fun e => ?_) (fun e => ?_) | refine iteB (fun e => ?_) (fun e => ?_)
    · rw [if_pos e] at q
      refine ⟨len63 (by decide), fun p hp => ?_⟩
      repeat (first | refine ⟨_, rfl, ?_⟩ | refine ⟨(by show (0 : Int) < _; decide), ?_⟩ | refine ⟨⟨by decide, by decide⟩, ?_⟩ | refine ⟨.inr ⟨by decide, by decide⟩, ?_⟩ | refine ⟨.inl ⟨by decide, by decide⟩, ?_⟩ | refine ⟨⟨by decide, by decide, by decide⟩, ?_⟩ | refine ⟨_, _, rfl, rfl, ?_⟩ | refine ⟨rfl, _, rfl, ?_⟩)
      exact ⟨p, menu.map V.int, _, _, rfl, rfl, .of upd_same, menu_at rfl (Int.emod_nonneg _ (by decide)) (Int.emod_lt_of_pos _ (by decide)), q _ (Ex.nw hp)⟩
    · rw [if_neg e] at q
      repeat (first | refine ⟨_, rfl, ?_⟩ | refine ⟨(by show (0 : Int) < _; decide), ?_⟩ | refine ⟨⟨by decide, by decide⟩, ?_⟩ | refine ⟨.inr ⟨by decide, by decide⟩, ?_⟩ | refine ⟨.inl ⟨by decide, by decide⟩, ?_⟩ | refine ⟨⟨by decide, by decide, by decide⟩, ?_⟩ | refine ⟨_, _, rfl, rfl, ?_⟩ | refine ⟨rfl, _, rfl, ?_⟩)
      first | refine iteVI (fun e => ?_) (fun e => ?_) | refine iteVN (fun e => ?_) (fun e => ?_) | refine iteD (fun e => ?_) (fun e => ?_) | refine iteDN (fun e => ?_) (fun e => ?_) | refine iteB (fun e => ?_) (fun e => ?_)
      · rw [if_pos e] at q
        repeat (first | refine ⟨_, rfl, ?_⟩ | refine ⟨(by show (0 : Int) < _; decide), ?_⟩ | refine ⟨⟨by decide, by decide⟩, ?_⟩ | refine ⟨.inr ⟨by decide, by decide⟩, ?_⟩ | refine ⟨.inl ⟨by decide, by decide⟩, ?_⟩ | refine ⟨⟨by decide, by decide, by decide⟩, ?_⟩ | refine ⟨_, _, rfl, rfl, ?_⟩ | refine ⟨rfl, _, rfl, ?_⟩)
        exact q _ Ex.rfl'
      · rw [if_neg e] at q
        repeat (first | refine ⟨_, rfl, ?_⟩ | refine ⟨(by show (0 : Int) < _; decide), ?_⟩ | refine ⟨⟨by decide, by decide⟩, ?_⟩ | refine ⟨.inr ⟨by decide, by decide⟩, ?_⟩ | refine ⟨.inl ⟨by decide, by decide⟩, ?_⟩ | refine ⟨⟨by decide, by decide, by decide⟩, ?_⟩ | refine ⟨_, _, rfl, rfl, ?_⟩ | refine ⟨rfl, _, rfl, ?_⟩)
        exact q _ Ex.rfl'
/-! ### a till and a purse, drawn -/
theorem perm_sum {l k : List Int} (h : l.Perm k) : l.sum = k.sum := by
  induction h with
  | nil => rfl
  | cons a _ ih => rw [List.sum_cons, List.sum_cons, ih]
  | swap a b l =>
    rw [List.sum_cons, List.sum_cons, List.sum_cons, List.sum_cons]
    omega
  | trans _ _ h1 h2 => exact h1.trans h2
/-- what is drawn: a till and a purse of some of its kinds, not worth too much -/
structure Dp2 (ps us : List (Int × Int)) : Prop where
  nd : (ps.map (·.1)).Nodup
  und : (us.map (·.1)).Nodup
  val : ∀ p ∈ ps, 1 ≤ p.1 ∧ p.1 ≤ 1000 ∧ 0 ≤ p.2 ∧ p.2 ≤ 1000
  own : ∀ u ∈ us, (∃ c, (u.1, c) ∈ ps) ∧ 0 ≤ u.2 ∧ u.2 ≤ 1000
  few : us.length ≤ ps.length
  low : worthP ps + worthP us ≤ 600
def spTaP (K : PySem.W.Frag) : Sp := fun vs H Q _ => ∃ (a : Addr) (ns : List Int) (most : Int), vs = [.ref a, .int most] ∧ SqL K H a (ns.map V.int) ∧ 1 ≤ most ∧ most ≤ 6 ∧
  ∀ l t u xs ys ps us H2, Ex H H2 → H l = none → H2 l = some (.lst [.ref t, .ref u]) → H t = none → H u = none → t ≠ u → t ≠ l → u ≠ l → H2 t = some (.lst xs) → H2 u = some (.lst ys) → Prs H2 xs ps → Prs H2 ys us → Rising ps → Rising us → Dp2 ps us → 1 ≤ ps.length → ps.length ≤ 10 → (most ≤ 3 → (ps.length : Int) ≤ most) → Q (.ref l) H2
theorem ok_tap (T : Tx K mg) : FnOk P w K mg base CX0 3 T.a__law_till_and_purse T.d__law_till_and_purse P__law_till_and_purse (spTaP K) := by
  have G__law_cell_at := ok_cell_at (P := P) (w := w) (base := base) T
  have G__law_value := ok_valueT (P := P) (w := w) (base := base) T
  have G__law_mixed := ok_mixed (P := P) (w := w) (base := base) T
  refine T.f__law_till_and_purse.ok sc__law_till_and_purse (fun vs H Q E h => ?_) (fun cdv A outer s H vs Q E hr h => ?_)
  · obtain ⟨a, ns, most, rfl, _⟩ := h
    rfl
  · obtain ⟨a, ns, most, rfl, hS, hm1, hm6, q⟩ := h
    refine ⟨_, (pss_cons (ps_set (i := 2) sc__law_till_and_purse.nd rfl (.inl rfl) (pe_op op_add pe_int (pe_op op_mod (pe_call G__law_cell_at (hr.mono (by decide)) (by rfl) T.g__law_cell_at T.f__law_cell_at.kp T.p__law_cell_at .nil pass0 (pa_cons (pv 0) (pa_cons pe_int pa_nil))) (pv 1))))
    (Evl.pss_cut (ps_if (PW.pt (pw_and (pt_cmpR op_gt (pv 1) pe_int (nomark _)) (pw_and1 (pt_cmpR op_eq (pe_op op_mod (pe_op op_fdiv (pe_call G__law_cell_at (hr.mono (by decide)) (by rfl) T.g__law_cell_at T.f__law_cell_at.kp T.p__law_cell_at .nil pass0 (pa_cons (pv 0) (pa_cons pe_int pa_nil))) (pv 1)) pe_int) pe_int (nomark _)))))
      (pss_one (ps_set (i := 2) sc__law_till_and_purse.nd rfl (.inl rfl) (pe_op op_add pe_int (pe_op op_mod (pe_op op_fdiv (pe_op op_fdiv (pe_call G__law_cell_at (hr.mono (by decide)) (by rfl) T.g__law_cell_at T.f__law_cell_at.kp T.p__law_cell_at .nil pass0 (pa_cons (pv 0) (pa_cons pe_int pa_nil))) (pv 1)) pe_int) pe_int))))
      pss_nil)
    (pss_cons (ps_set (i := 3) sc__law_till_and_purse.nd rfl (.inl rfl) (pe_lst pa_nil))
    (pss_cons (ps_set (i := 4) sc__law_till_and_purse.nd rfl (.inl rfl) (pe_lst pa_nil))
    (pss_cons (ps_set (i := 5) sc__law_till_and_purse.nd rfl (.inl rfl) pe_dnewK)
    (pss_cons (ps_set (i := 6) sc__law_till_and_purse.nd rfl (.inl rfl) pe_int)
    (pss_cons (ps_for PassesOwn.never rfl (pi_range1 (by rfl) T.m_range (pa_cons (pv 2) pa_nil)) (pg_name (i := 7) sc__law_till_and_purse.nd rfl (.inl rfl))
      (pss_cons (ps_set (i := 8) sc__law_till_and_purse.nd rfl (.inl rfl) (pe_call G__law_value (hr.mono (by decide)) (by rfl) T.g__law_value T.f__law_value.kp T.p__law_value .nil pass0 (pa_cons (pe_call G__law_cell_at (hr.mono (by decide)) (by rfl) T.g__law_cell_at T.f__law_cell_at.kp T.p__law_cell_at .nil pass0 (pa_cons (pv 0) (pa_cons pe_int pa_nil))) (pa_cons (pe_op op_add (pv 7) pe_int) pa_nil))))
      (pss_cons (ps_while PassesOwn.never (pt_cmp (pc_din (hu_of hr) (pv 8) (pv 5)))
        (pss_one (ps_set (i := 8) sc__law_till_and_purse.nd rfl (.inl rfl) (pe_op op_add (pe_op op_mod (pv 8) pe_int) pe_int))))
      (pss_cons (ps_dput (hu_of hr) (pv 5) (pv 8) pe_bl rfl)
      (pss_cons (ps_set (i := 9) sc__law_till_and_purse.nd rfl (.inl rfl) (pe_call G__law_mixed (hr.mono (by decide)) (by rfl) T.g__law_mixed T.f__law_mixed.kp T.p__law_mixed .nil pass0 (pa_cons (pe_call G__law_cell_at (hr.mono (by decide)) (by rfl) T.g__law_cell_at T.f__law_cell_at.kp T.p__law_cell_at .nil pass0 (pa_cons (pv 0) (pa_cons pe_int pa_nil))) (pa_cons (pe_op op_add (pv 7) pe_int) pa_nil))))
      (pss_cons (ps_set (i := 10) sc__law_till_and_purse.nd rfl (.inl rfl) (pe_op op_mod (pe_op op_fdiv (pv 9) pe_int) pe_int))
      (Evl.pss_cut (ps_if (pt_cmpR op_eq (pe_op op_mod (pv 9) pe_int) pe_int (nomark _))
        (pss_one (ps_set (i := 10) sc__law_till_and_purse.nd rfl (.inl rfl) (pe_op op_mod (pe_op op_fdiv (pv 9) pe_int) pe_int)))
        pss_nil)
      (pss_cons (ps_set (i := 11) sc__law_till_and_purse.nd rfl (.inl rfl) (pe_op op_mod (pe_op op_fdiv (pv 9) pe_int) pe_int))
      (Evl.pss_cut (ps_if (pt_cmpR op_eq (pe_op op_mod (pe_op op_fdiv (pv 9) pe_int) pe_int) pe_int (nomark _))
        (pss_one (ps_set (i := 11) sc__law_till_and_purse.nd rfl (.inl rfl) (pe_op op_mod (pe_op op_fdiv (pv 9) pe_int) pe_int)))
        pss_nil)
      (Evl.pss_cut (ps_if (pt_cmpR op_gt (pv 2) pe_int (nomark _))
        (pss_cons (ps_set (i := 10) sc__law_till_and_purse.nd rfl (.inl rfl) (pe_op op_mod (pv 10) pe_int))
        (pss_one (ps_set (i := 11) sc__law_till_and_purse.nd rfl (.inl rfl) (pe_op op_mod (pv 11) pe_int))))
        pss_nil)
      (Evl.pss_cut (ps_if (pt_cmpR op_gt (pe_op op_add (pv 6) (pe_op op_mul (pv 8) (pe_op op_add (pv 10) (pv 11)))) pe_int (nomark _))
        (pss_cons (ps_set (i := 10) sc__law_till_and_purse.nd rfl (.inl rfl) pe_int)
        (pss_one (ps_set (i := 11) sc__law_till_and_purse.nd rfl (.inl rfl) pe_int)))
        pss_nil)
      (pss_cons (ps_set (i := 6) sc__law_till_and_purse.nd rfl (.inl rfl) (pe_op op_add (pv 6) (pe_op op_mul (pv 8) (pe_op op_add (pv 10) (pv 11)))))
      (pss_cons (ps_expr (pe_bm PySem.F.plainAttrs_list PySem.F.slot_list_append PySem.F.type_list_append mt_append (pv 3) (pa_cons (pe_tup (pa_cons (pv 8) (pa_cons (pv 10) pa_nil))) pa_nil)))
      (pss_one (ps_if (pt_cmpR op_gt (pe_op op_mod (pe_op op_fdiv (pv 9) pe_int) pe_int) pe_int (nomark _))
        (pss_one (ps_expr (pe_bm PySem.F.plainAttrs_list PySem.F.slot_list_append PySem.F.type_list_append mt_append (pv 4) (pa_cons (pe_tup (pa_cons (pv 8) (pa_cons (pv 11) pa_nil))) pa_nil))))
        pss_nil)))))))))))))))
    (pss_one (ps_ret (pe_lst (pa_cons (pe_callB cr_sortedPO (by rfl) T.m_sorted (by decide +kernel) (pa_cons (pv 3) pa_nil)) (pa_cons (pe_callB cr_sortedPO (by rfl) T.m_sorted (by decide +kernel) (pa_cons (pv 4) pa_nil)) pa_nil)))))))))))), ?_⟩
    refine ⟨_, rfl, a, ns, 0, rfl, hS, _, rfl, _, _, rfl, rfl, hm1, _, _, rfl, rfl, ?_⟩
    have n0 : 0 ≤ cell ns 0 % most := Int.emod_nonneg _ (by omega)
    have n1 : cell ns 0 % most < most := Int.emod_lt_of_pos _ (by omega)
    -- how many kinds
    refine ⟨fun σ' H' => ∃ m : Int, 1 ≤ m ∧ m ≤ 10 ∧ (most ≤ 3 → m ≤ most) ∧ σ' = [some (.ref a), some (.int most), some (.int m), none, none, none, none, none, none, none, none, none] ∧ H' = H, ?_, ?_⟩
    · repeat (first | refine ⟨_, rfl, ?_⟩ | refine ⟨(by show (0 : Int) < _; decide), ?_⟩ | refine ⟨⟨by decide, by decide⟩, ?_⟩ | refine ⟨.inr ⟨by decide, by decide⟩, ?_⟩ | refine ⟨.inl ⟨by decide, by decide⟩, ?_⟩ | refine ⟨⟨by decide, by decide, by decide⟩, ?_⟩ | refine ⟨_, _, rfl, rfl, ?_⟩ | refine ⟨rfl, _, rfl, ?_⟩)
      first | refine iteVI (fun e => ?_) (fun e => ?_) | refine iteVN (fun e => ?_) (fun e => ?_) | refine iteD (fun e => ?_) (fun e => ?_) | refine iteDN (fun e => ?_) (fun e => ?_) | refine iteB (fun e => ?_) (fun e => ?_)
      · refine ⟨_, rfl, a, ns, 0, rfl, hS, _, rfl, _, _, rfl, rfl, ⟨by omega, by omega⟩, ?_⟩
        repeat (first | refine ⟨_, rfl, ?_⟩ | refine ⟨(by show (0 : Int) < _; decide), ?_⟩ | refine ⟨⟨by decide, by decide⟩, ?_⟩ | refine ⟨.inr ⟨by decide, by decide⟩, ?_⟩ | refine ⟨.inl ⟨by decide, by decide⟩, ?_⟩ | refine ⟨⟨by decide, by decide, by decide⟩, ?_⟩ | refine ⟨_, _, rfl, rfl, ?_⟩ | refine ⟨rfl, _, rfl, ?_⟩)
        first | refine iteVI (fun e2 => ?_) (fun e2 => ?_) | refine iteVN (fun e2 => ?_) (fun e2 => ?_) | refine iteD (fun e2 => ?_) (fun e2 => ?_) | refine iteDN (fun e2 => ?_) (fun e2 => ?_) | refine iteB (fun e2 => ?_) (fun e2 => ?_)
        · refine ⟨_, rfl, a, ns, 0, rfl, hS, _, rfl, _, _, rfl, rfl, ⟨by omega, by omega⟩, ?_⟩
          repeat (first | refine ⟨_, rfl, ?_⟩ | refine ⟨(by show (0 : Int) < _; decide), ?_⟩ | refine ⟨⟨by decide, by decide⟩, ?_⟩ | refine ⟨.inr ⟨by decide, by decide⟩, ?_⟩ | refine ⟨.inl ⟨by decide, by decide⟩, ?_⟩ | refine ⟨⟨by decide, by decide, by decide⟩, ?_⟩ | refine ⟨_, _, rfl, rfl, ?_⟩ | refine ⟨rfl, _, rfl, ?_⟩)
          exact ⟨_, by omega, by omega, by omega, rfl, rfl⟩
        · exact ⟨_, by omega, by omega, by omega, rfl, rfl⟩
      · exact iteF ⟨_, by omega, by omega, by omega, rfl, rfl⟩
    rintro σ' H' ⟨m, hm1, hm10, hm3, rfl, rfl⟩
    refine ⟨Nat.zero_le _, fun f hf => ?_⟩
    refine ⟨Nat.zero_le _, fun g hg d hd => ?_⟩
    have hg0 : H' g = none := none_back (Ex.nw hf) hg
    have hd0 : H' d = none := none_back ((Ex.nw hf).tr (Ex.nw hg)) hd
    have nfg : f ≠ g := ne_of_none upd_same hg
    have nfd : f ≠ d := ne_of_none ((Ex.nw hg) _ _ upd_same) hd
    have ngd : g ≠ d := ne_of_none upd_same hd
    have exd := ((Ex.nw (o := .lst []) hf).tr (Ex.nw (o := .lst []) hg)).tr (Ex.nw (o := .dK (dkv [])) hd)
    refine ⟨_, rfl, m, rfl, by omega, by omega, ?_⟩
    refine for_range (fun i σ H => ∃ (xs ys : List V) (ps us : List (Int × Int)) (low : Int) (y7 y8 y9 y10 y11 : Option V), σ = [some (.ref a), some (.int most), some (.int m), some (.ref f), some (.ref g), some (.ref d), some (.int low), y7, y8, y9, y10, y11] ∧ Ex H' H ∧ H f = some (.lst xs) ∧ H g = some (.lst ys) ∧ H d = some (.dK (dkv (ps.map (·.1)))) ∧
        Prs H xs ps ∧ Prs H ys us ∧ (ps.map (·.1)).Nodup ∧ (us.map (·.1)).Nodup ∧ (∀ p ∈ ps, 1 ≤ p.1 ∧ p.1 ≤ 1000 ∧ 0 ≤ p.2 ∧ p.2 ≤ 1000) ∧ (∀ u ∈ us, (∃ c, (u.1, c) ∈ ps) ∧ 0 ≤ u.2 ∧ u.2 ≤ 1000) ∧ us.length ≤ ps.length ∧ 0 ≤ low ∧ low ≤ 600 ∧ worthP ps + worthP us ≤ low ∧ ps.length = i)
      ⟨[], [], [], [], 0, none, none, none, none, none, rfl, exd, (Ex.nw hd) _ _ ((Ex.nw hg) _ _ upd_same), (Ex.nw hd) _ _ upd_same, upd_same, .nil, .nil, List.nodup_nil, List.nodup_nil, by simp, by simp, Nat.le_refl _, Int.le_refl _, by decide, Int.le_refl _, rfl⟩ ?_ ?_
    · rintro i σ H1 hi ⟨xs, ys, ps, us, low, y7, y8, y9, y10, y11, rfl, ex, ef, eg, ed, hps, hus, hnp, hnu, hvp, hvu, hfew, hlo0, hlo6, hwo, hlen⟩
      have hi' : i < 10 := by omega
      refine ⟨_, rfl, a, ns, 1, rfl, ex.seq hS, ?_⟩
      repeat (first | refine ⟨_, rfl, ?_⟩ | refine ⟨(by show (0 : Int) < _; decide), ?_⟩ | refine ⟨⟨by decide, by decide⟩, ?_⟩ | refine ⟨.inr ⟨by decide, by decide⟩, ?_⟩ | refine ⟨.inl ⟨by decide, by decide⟩, ?_⟩ | refine ⟨⟨by decide, by decide, by decide⟩, ?_⟩ | refine ⟨_, _, rfl, rfl, ?_⟩ | refine ⟨rfl, _, rfl, ?_⟩)
      refine ⟨_, _, rfl, ⟨by omega, by omega⟩, fun H2 e2 => ?_⟩
      have ex2 := Ex.tr ex e2
      have ef2 := e2 _ _ ef
      have eg2 := e2 _ _ eg
      have ed2 := e2 _ _ ed
      have hps2 := hps.ex e2
      have hus2 := hus.ex e2
      have hv := valueT_in (cell ns 1) (0 + (i : Int) + 1) (by omega)
      generalize hvv : valueT (cell ns 1) (0 + (i : Int) + 1) = v0 at hv
      obtain ⟨j, hj, hmin⟩ := least (free_at (ks := ps.map (·.1)) v0 (by rw [List.length_map]; omega))
      refine ⟨fun n σ H => ∃ k, k + n = j ∧ σ = [some (.ref a), some (.int most), some (.int m), some (.ref f), some (.ref g), some (.ref d), some (.int low), some (.int (0 + (i : Int))), some (.int (itn v0 k)), y9, y10, y11] ∧ H = H2,
        ⟨j, 0, by omega, by rw [itn_zero hv.1 hv.2]; rfl, rfl⟩, ?_⟩
      rintro n σ H4 ⟨k, hk, rfl, rfl⟩
      refine ⟨_, rfl, _, rfl, d, _, rfl, DGet.k (k := Sum.inl (itn v0 k)) ed2, _, rfl, ?_⟩
      by_cases hn : n = 0
      · have hkj : k = j := by omega
        subst hkj
        rw [dkv_none hj]
        refine iteF ?_
        refine ⟨_, rfl, _, rfl, d, _, rfl, DPut.k (k := Sum.inl (itn v0 k)) ed2 ?_, ?_⟩
        · unfold dkv
          rw [List.length_map, List.length_map]
          exact len63' (by omega)
        rw [dkv_put hj]
        have hin := itn_in v0 k
        generalize hvk : itn v0 k = v at hin hj
        have ef3 : (upd H4 d (.dK (dkv (ps.map (·.1) ++ [v])))) f = some (.lst xs) := by rw [upd_ne nfd]; exact ef2
        have eg3 : (upd H4 d (.dK (dkv (ps.map (·.1) ++ [v])))) g = some (.lst ys) := by rw [upd_ne ngd]; exact eg2
        have ed3 : (upd H4 d (.dK (dkv (ps.map (·.1) ++ [v])))) d = some (.dK (dkv (ps.map (·.1) ++ [v]))) := upd_same
        have ex3 : Ex H' (upd H4 d (.dK (dkv (ps.map (·.1) ++ [v])))) := Ex.mu ex2 hd0
        have hps3 : Prs (upd H4 d (.dK (dkv (ps.map (·.1) ++ [v])))) xs ps := hps2.up (by intro ys z; rw [ed2] at z; cases z)
        have hus3 : Prs (upd H4 d (.dK (dkv (ps.map (·.1) ++ [v])))) ys us := hus2.up (by intro ys z; rw [ed2] at z; cases z)
        generalize upd H4 d (.dK (dkv (ps.map (·.1) ++ [v]))) = H5 at ef3 eg3 ed3 ex3 hps3 hus3
        refine ⟨_, rfl, a, ns, 2, rfl, ex3.seq hS, ?_⟩
        repeat (first | refine ⟨_, rfl, ?_⟩ | refine ⟨(by show (0 : Int) < _; decide), ?_⟩ | refine ⟨⟨by decide, by decide⟩, ?_⟩ | refine ⟨.inr ⟨by decide, by decide⟩, ?_⟩ | refine ⟨.inl ⟨by decide, by decide⟩, ?_⟩ | refine ⟨⟨by decide, by decide, by decide⟩, ?_⟩ | refine ⟨_, _, rfl, rfl, ?_⟩ | refine ⟨rfl, _, rfl, ?_⟩)
        refine ⟨_, _, rfl, ⟨by omega, by omega⟩, ?_⟩
        generalize hdr : mixed (cell ns 2) (0 + (i : Int) + 1) = dr
        -- the counts
        refine ⟨_, rfl, _, _, rfl, rfl, ⟨by decide, by decide⟩, _, _, rfl, rfl, by show (0 : Int) < 4; decide, ?_⟩
        refine ⟨fun σ' H => ∃ c : Int, 0 ≤ c ∧ c ≤ 30 ∧ σ' = [some (.ref a), some (.int most), some (.int m), some (.ref f), some (.ref g), some (.ref d), some (.int low), some (.int (0 + (i : Int))), some (.int v), some (.int dr), some (.int c), y11] ∧ H = H5, ?_, ?_⟩
        · have c0 : 0 ≤ dr / 2 % 4 := Int.emod_nonneg _ (by decide)
          have c4 : dr / 2 % 4 < 4 := Int.emod_lt_of_pos _ (by decide)
          have f0 : 0 ≤ dr / 12 % 30 := Int.emod_nonneg _ (by decide)
          have f4 : dr / 12 % 30 < 30 := Int.emod_lt_of_pos _ (by decide)
          repeat (first | refine ⟨_, rfl, ?_⟩ | refine ⟨(by show (0 : Int) < _; decide), ?_⟩ | refine ⟨⟨by decide, by decide⟩, ?_⟩ | refine ⟨.inr ⟨by decide, by decide⟩, ?_⟩ | refine ⟨.inl ⟨by decide, by decide⟩, ?_⟩ | refine ⟨⟨by decide, by decide, by decide⟩, ?_⟩ | refine ⟨_, _, rfl, rfl, ?_⟩ | refine ⟨rfl, _, rfl, ?_⟩)
          first | refine iteVI (fun e => ?_) (fun e => ?_) | refine iteVN (fun e => ?_) (fun e => ?_) | refine iteD (fun e => ?_) (fun e => ?_) | refine iteDN (fun e => ?_) (fun e => ?_) | refine iteB (fun e => ?_) (fun e => ?_)
          · repeat (first | refine ⟨_, rfl, ?_⟩ | refine ⟨(by show (0 : Int) < _; decide), ?_⟩ | refine ⟨⟨by decide, by decide⟩, ?_⟩ | refine ⟨.inr ⟨by decide, by decide⟩, ?_⟩ | refine ⟨.inl ⟨by decide, by decide⟩, ?_⟩ | refine ⟨⟨by decide, by decide, by decide⟩, ?_⟩ | refine ⟨_, _, rfl, rfl, ?_⟩ | refine ⟨rfl, _, rfl, ?_⟩)
            exact ⟨_, f0, by omega, rfl, rfl⟩
          · exact ⟨_, c0, by omega, rfl, rfl⟩
        rintro σ' H ⟨c, hc0, hc30, rfl, rfl⟩
        refine ⟨_, rfl, _, _, rfl, rfl, ⟨by decide, by decide⟩, _, _, rfl, rfl, by show (0 : Int) < 4; decide, ?_⟩
        refine ⟨fun σ' H9 => ∃ o : Int, 0 ≤ o ∧ o ≤ 30 ∧ σ' = [some (.ref a), some (.int most), some (.int m), some (.ref f), some (.ref g), some (.ref d), some (.int low), some (.int (0 + (i : Int))), some (.int v), some (.int dr), some (.int c), some (.int o)] ∧ H9 = H, ?_, ?_⟩
        · have c0 : 0 ≤ dr / 360 % 4 := Int.emod_nonneg _ (by decide)
          have c4 : dr / 360 % 4 < 4 := Int.emod_lt_of_pos _ (by decide)
          have f0 : 0 ≤ dr / 360 % 30 := Int.emod_nonneg _ (by decide)
          have f4 : dr / 360 % 30 < 30 := Int.emod_lt_of_pos _ (by decide)
          repeat (first | refine ⟨_, rfl, ?_⟩ | refine ⟨(by show (0 : Int) < _; decide), ?_⟩ | refine ⟨⟨by decide, by decide⟩, ?_⟩ | refine ⟨.inr ⟨by decide, by decide⟩, ?_⟩ | refine ⟨.inl ⟨by decide, by decide⟩, ?_⟩ | refine ⟨⟨by decide, by decide, by decide⟩, ?_⟩ | refine ⟨_, _, rfl, rfl, ?_⟩ | refine ⟨rfl, _, rfl, ?_⟩)
          first | refine iteVI (fun e => ?_) (fun e => ?_) | refine iteVN (fun e => ?_) (fun e => ?_) | refine iteD (fun e => ?_) (fun e => ?_) | refine iteDN (fun e => ?_) (fun e => ?_) | refine iteB (fun e => ?_) (fun e => ?_)
          · repeat (first | refine ⟨_, rfl, ?_⟩ | refine ⟨(by show (0 : Int) < _; decide), ?_⟩ | refine ⟨⟨by decide, by decide⟩, ?_⟩ | refine ⟨.inr ⟨by decide, by decide⟩, ?_⟩ | refine ⟨.inl ⟨by decide, by decide⟩, ?_⟩ | refine ⟨⟨by decide, by decide, by decide⟩, ?_⟩ | refine ⟨_, _, rfl, rfl, ?_⟩ | refine ⟨rfl, _, rfl, ?_⟩)
            exact ⟨_, f0, by omega, rfl, rfl⟩
          · exact ⟨_, c0, by omega, rfl, rfl⟩
        rintro σ' H9 ⟨o, ho0, ho30, rfl, rfl⟩
        refine ⟨fun σ' H => ∃ c o : Int, 0 ≤ c ∧ c ≤ 30 ∧ 0 ≤ o ∧ o ≤ 30 ∧ σ' = [some (.ref a), some (.int most), some (.int m), some (.ref f), some (.ref g), some (.ref d), some (.int low), some (.int (0 + (i : Int))), some (.int v), some (.int dr), some (.int c), some (.int o)] ∧ H = H9, ?_, ?_⟩
        · have c0 : 0 ≤ c % 2 := Int.emod_nonneg _ (by decide)
          have c4 : c % 2 < 2 := Int.emod_lt_of_pos _ (by decide)
          have f0 : 0 ≤ o % 2 := Int.emod_nonneg _ (by decide)
          have f4 : o % 2 < 2 := Int.emod_lt_of_pos _ (by decide)
          repeat (first | refine ⟨_, rfl, ?_⟩ | refine ⟨(by show (0 : Int) < _; decide), ?_⟩ | refine ⟨⟨by decide, by decide⟩, ?_⟩ | refine ⟨.inr ⟨by decide, by decide⟩, ?_⟩ | refine ⟨.inl ⟨by decide, by decide⟩, ?_⟩ | refine ⟨⟨by decide, by decide, by decide⟩, ?_⟩ | refine ⟨_, _, rfl, rfl, ?_⟩ | refine ⟨rfl, _, rfl, ?_⟩)
          first | refine iteVI (fun e => ?_) (fun e => ?_) | refine iteVN (fun e => ?_) (fun e => ?_) | refine iteD (fun e => ?_) (fun e => ?_) | refine iteDN (fun e => ?_) (fun e => ?_) | refine iteB (fun e => ?_) (fun e => ?_)
          · repeat (first | refine ⟨_, rfl, ?_⟩ | refine ⟨(by show (0 : Int) < _; decide), ?_⟩ | refine ⟨⟨by decide, by decide⟩, ?_⟩ | refine ⟨.inr ⟨by decide, by decide⟩, ?_⟩ | refine ⟨.inl ⟨by decide, by decide⟩, ?_⟩ | refine ⟨⟨by decide, by decide, by decide⟩, ?_⟩ | refine ⟨_, _, rfl, rfl, ?_⟩ | refine ⟨rfl, _, rfl, ?_⟩)
            exact ⟨_, _, c0, by omega, f0, by omega, rfl, rfl⟩
          · exact ⟨c, o, hc0, hc30, ho0, ho30, rfl, rfl⟩
        rintro σ' H ⟨c, o, hc0, hc30, ho0, ho30, rfl, rfl⟩
        refine ⟨fun σ' H9 => ∃ c o : Int, 0 ≤ c ∧ c ≤ 30 ∧ 0 ≤ o ∧ o ≤ 30 ∧ low + v * (c + o) ≤ 600 ∧ σ' = [some (.ref a), some (.int most), some (.int m), some (.ref f), some (.ref g), some (.ref d), some (.int low), some (.int (0 + (i : Int))), some (.int v), some (.int dr), some (.int c), some (.int o)] ∧ H9 = H, ?_, ?_⟩
        · refine ⟨_, rfl, _, rfl, _, rfl, _, rfl, _, _, rfl, rfl, _, _, rfl, rfl, .inl ⟨by omega, by omega⟩, _, _, rfl, rfl, _, _, rfl, rfl, _, rfl, iteD (fun e => ?_) (fun e => ?_)⟩
          · exact ⟨0, 0, Int.le_refl _, by decide, Int.le_refl _, by decide, by rw [Int.add_zero, Int.mul_zero]; omega, rfl, rfl⟩
          · have e' : ¬ 600 < low + v * (c + o) := e
            exact ⟨c, o, hc0, hc30, ho0, ho30, by omega, rfl, rfl⟩
        rintro σ' H9 ⟨c, o, hc0, hc30, ho0, ho30, hle, rfl, rfl⟩
        have hvc : 0 ≤ v * c := Int.mul_nonneg (by omega) hc0
        have hvo : 0 ≤ v * o := Int.mul_nonneg (by omega) ho0
        have hvd : v * (c + o) = v * c + v * o := Int.mul_add ..
        refine ⟨_, rfl, _, rfl, _, rfl, _, rfl, _, _, rfl, rfl, _, _, rfl, rfl, .inl ⟨by omega, by omega⟩, _, _, rfl, rfl, ?_⟩
        -- into the till
        refine ⟨_, rfl, .inl ⟨rfl, xs, .of ef3⟩, _, rfl, _, rfl, len63 (by show 2 ≤ _; decide), fun t ht => ?_⟩
        have ntf : f ≠ t := ne_of_none ef3 ht
        have ntg : g ≠ t := ne_of_none eg3 ht
        have ntd : d ≠ t := ne_of_none ed3 ht
        have ef4 : (upd H9 t (.tup [.int v, .int c])) f = some (.lst xs) := by rw [upd_ne ntf]; exact ef3
        refine ⟨f, xs, _, rfl, rfl, ef4, len63' (by rw [hps3.len]; omega), ?_⟩
        generalize hH6 : upd (upd H9 t (.tup [.int v, .int c])) f (.lst (xs ++ [.ref t])) = H6
        have ex6 : Ex H' H6 := hH6 ▸ Ex.mu (ex3.tr (Ex.nw ht)) hf
        have ef6 : H6 f = some (.lst (xs ++ [.ref t])) := by rw [← hH6]; exact upd_same
        have eg6 : H6 g = some (.lst ys) := by rw [← hH6, upd_ne nfg.symm]; exact (Ex.nw ht) _ _ eg3
        have ed6 : H6 d = some (.dK (dkv ((ps ++ [(v, c)]).map (·.1)))) := by rw [← hH6, upd_ne nfd.symm, List.map_append]; exact (Ex.nw ht) _ _ ed3
        have up6 : ∀ {us : List V} {rs : List (Int × Int)}, Prs H9 us rs → Prs H6 us rs := fun h => hH6 ▸ (h.ex (Ex.nw ht)).up (by intro bs y; rw [ef4] at y; cases y)
        have ht6 : H6 t = some (.tup [.int v, .int c]) := by rw [← hH6, upd_ne ntf.symm]; exact upd_same
        have hps6 : Prs H6 (xs ++ [.ref t]) (ps ++ [(v, c)]) := Prs.snoc (up6 hps3) ⟨t, rfl, ht6⟩
        have hus6 := up6 hus3
        have hnp' : ((ps ++ [(v, c)]).map (·.1)).Nodup := by
          rw [List.map_append]
          exact nd_snoc hnp hj
        have hvp' : ∀ p ∈ ps ++ [(v, c)], 1 ≤ p.1 ∧ p.1 ≤ 1000 ∧ 0 ≤ p.2 ∧ p.2 ≤ 1000 := fun p hp => by
          rcases List.mem_append.mp hp with h | h
          · exact hvp p h
          · rw [List.mem_singleton.mp h]
            exact ⟨hin.1, hin.2, hc0, by show c ≤ 1000; omega⟩
        have hvu' : ∀ u ∈ us, (∃ c', (u.1, c') ∈ ps ++ [(v, c)]) ∧ 0 ≤ u.2 ∧ u.2 ≤ 1000 := fun u hu => by
          obtain ⟨⟨c', h1⟩, h2⟩ := hvu u hu
          exact ⟨⟨c', List.mem_append.mpr (.inl h1)⟩, h2⟩
        have hw1 : worthP (ps ++ [(v, c)]) = worthP ps + v * c := by
          rw [worthP_app]
          show _ + (v * c + 0) = _
          omega
        have hpl : (ps ++ [(v, c)]).length = i + 1 := by rw [List.length_append, hlen]; rfl
        refine ⟨_, rfl, _, _, rfl, rfl, ⟨by decide, by decide⟩, _, _, rfl, rfl, by show (0 : Int) < 3; decide, _, _, rfl, rfl, _, rfl, iteD (fun e => ?_) (fun e => ?_)⟩
        · refine ⟨_, rfl, .inl ⟨rfl, ys, .of eg6⟩, _, rfl, _, rfl, len63 (by show 2 ≤ _; decide), fun t2 ht2 => ?_⟩
          have eg7 : (upd H6 t2 (.tup [.int v, .int o])) g = some (.lst ys) := by rw [upd_ne (ne_of_none eg6 ht2)]; exact eg6
          refine ⟨g, ys, _, rfl, rfl, eg7, len63' (by rw [hus.len]; omega), ?_⟩
          have hunv : v ∉ us.map (·.1) := fun hm => by
            obtain ⟨u, hu, hu1⟩ := List.mem_map.mp hm
            obtain ⟨⟨c', h1⟩, _⟩ := hvu u hu
            exact hj (List.mem_map.mpr ⟨_, h1, hu1⟩)
          refine ⟨xs ++ [.ref t], ys ++ [.ref t2], ps ++ [(v, c)], us ++ [(v, o)], low + v * (c + o), _, _, _, _, _, rfl, Ex.mu (ex6.tr (Ex.nw ht2)) hg0, ?_, upd_same, ?_, ?_, ?_, hnp', by rw [List.map_append]; exact nd_snoc hnu hunv, hvp', fun u hu => ?_, by rw [List.length_append, List.length_append]; show us.length + 1 ≤ ps.length + 1; omega, by omega, by omega, ?_, hpl⟩
          · rw [upd_ne nfg]
            exact (Ex.nw ht2) _ _ ef6
          · rw [upd_ne ngd.symm]
            exact (Ex.nw ht2) _ _ ed6
          · exact (hps6.ex (Ex.nw ht2)).up (by intro bs y; rw [eg7] at y; cases y)
          · refine Prs.up (by intro bs y; rw [eg7] at y; cases y) ?_
            exact Prs.snoc (hus6.ex (Ex.nw ht2)) ⟨t2, rfl, upd_same⟩
          · rcases List.mem_append.mp hu with h | h
            · exact hvu' u h
            · rw [List.mem_singleton.mp h]
              exact ⟨⟨c, List.mem_append.mpr (.inr (List.mem_singleton.mpr rfl))⟩, ho0, by show o ≤ 1000; omega⟩
          · rw [hw1, worthP_app, hvd]
            show _ + (_ + (v * o + 0)) ≤ _
            omega
        · exact ⟨xs ++ [.ref t], ys, ps ++ [(v, c)], us, low + v * (c + o), _, _, _, _, _, rfl, ex6, ef6, eg6, ed6, hps6, hus6, hnp', hnu, hvp', hvu', by rw [List.length_append]; omega, by omega, by omega, by rw [hw1, hvd]; omega, hpl⟩
      · have hin : itn v0 k ∈ ps.map (·.1) := by
          by_cases z : itn v0 k ∈ ps.map (·.1)
          · exact z
          · exact absurd z (hmin k (by omega))
        obtain ⟨v, ev⟩ := dkv_some hin
        rw [ev]
        refine iteT ⟨fun σ' H'' => ∃ n', n' < n ∧ ∃ k', k' + n' = j ∧ σ' = [some (.ref a), some (.int most), some (.int m), some (.ref f), some (.ref g), some (.ref d), some (.int low), some (.int (0 + (i : Int))), some (.int (itn v0 k')), y9, y10, y11] ∧ H'' = H4, fun _ _ z => z, ?_⟩
        repeat (first | refine ⟨_, rfl, ?_⟩ | refine ⟨(by show (0 : Int) < _; decide), ?_⟩ | refine ⟨⟨by decide, by decide⟩, ?_⟩ | refine ⟨.inr ⟨by decide, by decide⟩, ?_⟩ | refine ⟨.inl ⟨by decide, by decide⟩, ?_⟩ | refine ⟨⟨by decide, by decide, by decide⟩, ?_⟩ | refine ⟨_, _, rfl, rfl, ?_⟩ | refine ⟨rfl, _, rfl, ?_⟩)
        exact ⟨n - 1, by omega, k + 1, by omega, by rw [itn_succ]; rfl, rfl⟩
    · rintro σ H1 ⟨xs, ys, ps, us, low, y7, y8, y9, y10, y11, rfl, ex, ef, eg, ed, hps, hus, hnp, hnu, hvp, hvu, hfew, hlo0, hlo6, hwo, hlen⟩
      refine ⟨_, rfl, f, xs, pairAt H1, rfl, .of ef, hps.all, fun zs t z1 z2 ht => ?_⟩
      obtain ⟨qs, hq, hpm, hris⟩ := sorted_prs hps hnp z1 z2
      (generalize hh : upd H1 t _ = H2; have e2 : Ex H1 H2 := (by rw [← hh]; exact Ex.nw ht); have ct := (show H2 t = some _ by rw [← hh]; exact upd_same); clear hh)
      have hq2 := hq.ex e2
      have hus2 := hus.ex e2
      refine ⟨_, rfl, g, ys, pairAt H2, rfl, .of (e2 _ _ eg), hus2.all, fun ws u z3 z4 hu => ?_⟩
      obtain ⟨rs, hr, hpm2, hris2⟩ := sorted_prs hus2 hnu z3 z4
      have ntu : t ≠ u := ne_of_none ct hu
      (generalize hh : upd H2 u _ = H3; have e3 : Ex H2 H3 := (by rw [← hh]; exact Ex.nw hu); have cu := (show H3 u = some _ by rw [← hh]; exact upd_same); clear hh)
      refine ⟨len63 (by show 2 ≤ _; decide), fun l hl => ?_⟩
      have ex3 := (ex.tr e2).tr e3
      have ntl : t ≠ l := ne_of_none (e3 _ _ ct) hl
      have nul : u ≠ l := ne_of_none cu hl
      refine q l t u zs ws qs rs _ (ex3.tr (Ex.nw hl)) (none_back ex3 hl) upd_same (none_back ex ht) (none_back (ex.tr e2) hu) ntu ntl nul ((Ex.nw hl) _ _ (e3 _ _ ct)) ((Ex.nw hl) _ _ cu) ((hq2.ex e3).ex (Ex.nw hl)) ((hr.ex e3).ex (Ex.nw hl)) hris hris2 ?_ (by rw [hpm.length_eq]; omega) (by rw [hpm.length_eq]; omega) (fun h => by have := hm3 h; rw [hpm.length_eq]; omega)
      refine ⟨(hpm.map _).nodup_iff.mpr hnp, (hpm2.map _).nodup_iff.mpr hnu, fun p hp => hvp p (hpm.mem_iff.mp hp), fun p hp => ?_, by rw [hpm.length_eq, hpm2.length_eq]; exact hfew, ?_⟩
      · obtain ⟨⟨c, hc⟩, h2, h3⟩ := hvu p (hpm2.mem_iff.mp hp)
        exact ⟨⟨c, hpm.mem_iff.mpr hc⟩, h2, h3⟩
      · have w1 : worthP qs = worthP ps := perm_sum (hpm.map _)
        have w2 : worthP rs = worthP us := perm_sum (hpm2.map _)
        omega
/-! ### a purse or a till that is none of these -/
/-! ### whether a number stands in a list -/
theorem flat_ints (l : List Int) : (l.map V.int).all flatV = true := by
  rw [List.all_eq_true]
  intro x hx
  obtain ⟨i, _, rfl⟩ := List.mem_map.mp hx
  rfl
theorem inV_int (z : Int) (l : List Int) : inV (.int z) (l.map V.int) = decide (z ∈ l) := by
  induction l with
  | nil => rfl
  | cons a l ih =>
    unfold inV at ih ⊢
    rw [List.map_cons, List.any_cons, ih]
    have h : eqV (.int a) (.int z) = decide (z = a) := by
      show (a == z) = decide (z = a)
      by_cases e : z = a
      · rw [e]
        simp
      · rw [decide_eq_false e]
        simpa using fun h => e (Eq.symm h)
    rw [h]
    by_cases e : z = a
    · simp [e]
    · simp [e]
theorem fst_ints (ps : List (Int × Int)) : (ps.map fun p => V.int p.1) = (ps.map fun p : Int × Int => p.1).map V.int := by
  rw [List.map_map]
  rfl
def NewTwo (H : Hp) (Q : VK) : Prop := ∀ l t u xs ys ps us H2, Ex H H2 → H l = none → H2 l = some (.lst [.ref t, .ref u]) → H2 t = some (.lst xs) → H2 u = some (.lst ys) → Prs H2 xs ps → Prs H2 ys us → Gen2 ps us → Q (.ref l) H2
/-- a test that is decided, told once -/
theorem ifs_true {t : TT} {a b : TS} {D : Ends} {σ : L2.St} {H : Hp} (ht : ∀ Q : Bool → Hp → Prop, Q true H → t σ H Q) (ha : a D σ H) : tIfS t a b D σ H :=
  ht _ (show if true = true then a D σ H else b D σ H by rw [if_pos rfl]; exact ha)
theorem ifs_false {t : TT} {a b : TS} {D : Ends} {σ : L2.St} {H : Hp} (ht : ∀ Q : Bool → Hp → Prop, Q false H → t σ H Q) (hb : b D σ H) : tIfS t a b D σ H :=
  ht _ (show if false = true then a D σ H else b D σ H by rw [if_neg (by decide)]; exact hb)
theorem test_is {t : TT} {b : Bool} {σ : L2.St} {H : Hp} {F : Bool → Hp → Prop} (ht : ∀ Q : Bool → Hp → Prop, Q b H → t σ H Q) (hf : F b H) : t σ H F := ht F hf
def spOdd : Sp := fun vs H Q _ => ∃ (t u : Addr) (c : Int) (xs ys : List V) (ps us : List (Int × Int)), vs = [.ref t, .ref u, .int c] ∧ H t = some (.lst xs) ∧ H u = some (.lst ys) ∧ Prs H xs ps ∧ Prs H ys us ∧ Rising ps ∧ Rising us ∧ Dp2 ps us ∧ 1 ≤ ps.length ∧ ps.length ≤ 10 ∧ NewTwo H Q
theorem ok_odd (T : Tx K mg) : FnOk P w K mg base CX0 2 T.a__law_odd T.d__law_odd P__law_odd spOdd := by
  have G__law_total := ok_total (P := P) (w := w) (base := base) T
  refine T.f__law_odd.ok sc__law_odd (fun vs H Q E h => ?_) (fun cdv A outer s H vs Q E hr h => ?_)
  · obtain ⟨t, u, c, xs, ys, ps, us, rfl, _⟩ := h
    rfl
  · obtain ⟨t, u, c, xs, ys, ps, us, rfl, ht, hu, hp, hus, hrp, hru, hd, h1, h10, q⟩ := h
    refine ⟨_, (pss_cons (ps_if (PW.pt (pw_or (pt_cmpR op_eq (pe_op op_mod (pv 2) pe_int) pe_int (nomark _)) (pw_or1 (pt_cmpR op_gt (pe_callB call_len_seq (by rfl) T.m_len (by decide +kernel) (pa_cons (pv 0) pa_nil)) pe_int (nomark _)))))
      (pss_cons (ps_set (i := 3) sc__law_odd.nd rfl (.inl rfl) (pe_op op_add pe_int (pe_op op_mod (pe_op op_fdiv (pv 2) pe_int) pe_int)))
      (pss_cons (ps_while PassesOwn.never (pt_cmpR op_in_seq (pv 3) (pe_lc (own := [("_law_pair", 8)]) (g := gName 8) rfl sc__law_odd.nd (pi_list (pv 0)) (blkOk_by (own := [("_law_pair", 8)]) (N := N__law_odd) (sc := defScope s__law_odd) (by decide +kernel)) (fun _ _ _ _ _ => pg_name (i := 8) sc__law_odd.nd rfl (.inl rfl) (.inr rfl)) (fun _ _ _ _ _ => pts_nil) (fun _ _ _ _ _ => (pe_ix (r := rIxT K) ix_tup (pv 8) pe_int (fun _ _ => rfl)))) (by rfl))
        (pss_one (ps_set (i := 3) sc__law_odd.nd rfl (.inl rfl) (pe_op op_add (pv 3) pe_int))))
      (pss_one (ps_ret (pe_lst (pa_cons (pv 0) (pa_cons (pe_callB cr_sortedPO (by rfl) T.m_sorted (by decide +kernel) (pa_cons (pe_op op_cat (pv 1) (pe_lst (pa_cons (pe_tup (pa_cons (pv 3) (pa_cons (pe_op op_mod (pe_op op_fdiv (pv 2) pe_int) pe_int) pa_nil))) pa_nil))) pa_nil)) pa_nil)))))))
      pss_nil)
    (pss_cons (ps_set (i := 4) sc__law_odd.nd rfl (.inl rfl) (pe_op op_sub (pe_op op_sub (pe_op op_add pe_int (pe_op op_mod (pe_op op_fdiv (pv 2) pe_int) pe_int)) (pe_call G__law_total (hr.mono (by decide)) (by rfl) T.g__law_total T.f__law_total.kp T.p__law_total .nil pass0 (pa_cons (pv 0) pa_nil))) (pe_call G__law_total (hr.mono (by decide)) (by rfl) T.g__law_total T.f__law_total.kp T.p__law_total .nil pass0 (pa_cons (pv 1) pa_nil))))
    (pss_cons (ps_set (i := 5) sc__law_odd.nd rfl (.inl rfl) (pe_op op_fdiv (pv 4) pe_int))
    (pss_cons (ps_setLc (i := 6) (own := [("_law_pair", 8)]) (g := gName 8) rfl sc__law_odd.nd rfl rfl (sw_true rfl rfl rfl (by decide +kernel)) (pi_list (pv 0)) (blkOk_by (own := [("_law_pair", 8)]) (N := N__law_odd) (sc := defScope s__law_odd) (by decide +kernel)) (fun _ _ _ _ _ => pg_name (i := 8) sc__law_odd.nd rfl (.inl rfl) (.inr rfl)) (fun _ _ _ _ _ => pts_nil) (fun _ _ _ _ _ => (pe_ix (r := rIxT K) ix_tup (pv 8) pe_int (fun _ _ => rfl))))
    (pss_cons (ps_while PassesOwn.never (PW.pt (pw_or (pt_cmpR op_in_seq (pv 5) (pv 6) (by rfl)) (pw_or (pt_cmpR op_in_seq (pe_op op_sub (pv 4) (pv 5)) (pv 6) (by rfl)) (pw_or1 (pt_cmpR op_eq (pe_op op_add (pv 5) (pv 5)) (pv 4) (nomark _))))))
      (pss_one (ps_set (i := 5) sc__law_odd.nd rfl (.inl rfl) (pe_op op_sub (pv 5) pe_int))))
    (pss_cons (ps_set (i := 7) sc__law_odd.nd rfl (.inl rfl) (pe_ix ix_list (pe_lst (pa_cons pe_int (pa_cons pe_int (pa_cons (pe_op op_add pe_int (pe_op op_mod (pe_op op_fdiv (pv 2) pe_int) (pe_op op_pow pe_int pe_int))) pa_nil)))) (pe_op op_mod (pe_op op_fdiv (pv 2) pe_int) pe_int) (fun _ _ => rfl)))
    (pss_one (ps_ret (pe_lst (pa_cons (pe_callB cr_sortedPO (by rfl) T.m_sorted (by decide +kernel) (pa_cons (pe_op op_cat (pv 0) (pe_lst (pa_cons (pe_tup (pa_cons (pv 5) (pa_cons (pv 7) pa_nil))) (pa_cons (pe_tup (pa_cons (pe_op op_sub (pv 4) (pv 5)) (pa_cons pe_int pa_nil))) pa_nil)))) pa_nil)) (pa_cons (pv 1) pa_nil))))))))))), ?_⟩
    have hpl := hp.len
    have hul := hus.len
    have hfew := hd.few
    -- the values of a till
    have vals : ∀ (H0 : Hp), Ex H H0 → Prs H0 xs ps := fun H0 e => hp.ex e
    have branch1 : ∀ z0 : Int, 61 ≤ z0 → z0 ≤ 960 → True := fun _ _ _ => trivial
    have vup : ∀ p ∈ us, 1 ≤ p.1 ∧ p.1 ≤ 5000 ∧ 0 ≤ p.2 ∧ p.2 ≤ 2000000 := fun p hp => by
      obtain ⟨⟨c', h1⟩, h2, h3⟩ := hd.own p hp
      have := hd.val _ h1
      exact ⟨this.1, by have := this.2.1; omega, h2, by omega⟩
    have vpp : ∀ p ∈ ps, 1 ≤ p.1 ∧ p.1 ≤ 5000 ∧ 0 ≤ p.2 ∧ p.2 ≤ 2000000 := fun p hp => by
      have := hd.val p hp
      exact ⟨this.1, by omega, this.2.2.1, by omega⟩
    have hw1 := worthP_nn (us := ps) fun p hp => by have := hd.val p hp; omega
    have hw2 := worthP_nn (us := us) fun p hp => by have := vup p hp; omega
    have hlow := hd.low
    -- the values, told in a list
    have lv : ∀ {g : Nat} {σ : L2.St} {H0 : Hp} {D : Addr} {Qd : Hp → Prop}, True := trivial
    by_cases hc : c % 3 = 1 ∨ 8 < xs.length
    · refine ifs_true (fun Q hq => ?_) ?_
      · repeat (first | refine ⟨_, rfl, ?_⟩ | refine ⟨(by show (0 : Int) < _; decide), ?_⟩ | refine ⟨⟨by decide, by decide⟩, ?_⟩ | refine ⟨.inr ⟨by decide, by decide⟩, ?_⟩ | refine ⟨.inl ⟨by decide, by decide⟩, ?_⟩ | refine ⟨⟨by decide, by decide, by decide⟩, ?_⟩ | refine ⟨_, _, rfl, rfl, ?_⟩ | refine ⟨rfl, _, rfl, ?_⟩)
        first | refine iteVI (fun e => ?_) (fun e => ?_) | refine iteVN (fun e => ?_) (fun e => ?_) | refine iteD (fun e => ?_) (fun e => ?_) | refine iteDN (fun e => ?_) (fun e => ?_) | refine iteB (fun e => ?_) (fun e => ?_)
        · exact hq
        · refine ⟨_, rfl, t, xs, rfl, .inl (.of ht), _, _, rfl, rfl, _, rfl, ?_⟩
          rw [decide_eq_true (show (8 : Int) < (xs.length : Int) by omega)]
          exact hq
      have w1 : 0 ≤ c / 3 % 900 := Int.emod_nonneg _ (by decide)
      have w2 : c / 3 % 900 < 900 := Int.emod_lt_of_pos _ (by decide)
      repeat (first | refine ⟨_, rfl, ?_⟩ | refine ⟨(by show (0 : Int) < _; decide), ?_⟩ | refine ⟨⟨by decide, by decide⟩, ?_⟩ | refine ⟨.inr ⟨by decide, by decide⟩, ?_⟩ | refine ⟨.inl ⟨by decide, by decide⟩, ?_⟩ | refine ⟨⟨by decide, by decide, by decide⟩, ?_⟩ | refine ⟨_, _, rfl, rfl, ?_⟩ | refine ⟨rfl, _, rfl, ?_⟩)
      refine ⟨fun n σ H' => ∃ z : Int, 61 ≤ z ∧ z + n = 1001 ∧ σ = [some (.ref t), some (.ref u), some (.int c), some (.int z), none, none, none, none, none] ∧ Ex H H', ⟨(1001 - (61 + c / 3 % 900)).toNat, 61 + c / 3 % 900, by omega, by omega, rfl, Ex.rfl'⟩, ?_⟩
      rintro n σ H1 ⟨z, hz1, hzn, rfl, ex⟩
      refine ⟨_, rfl, _, rfl, t, rfl, ⟨xs, .of (ex _ _ ht)⟩, fun D hD => lc_list (xs := xs) (fun i H' => Ex H1 H' ∧ H' D = some (.lst ((ps.take i).map fun p => V.int p.1))) ⟨Ex.nw hD, upd_same⟩ (fun i H' _ h => .of (h.1 _ _ (ex _ _ ht))) ?_ ?_⟩
      · rintro i x H' hx ⟨ex2, eD⟩
        obtain ⟨p, t2, h1, rfl, h3⟩ := Prs.get hp hx
        refine ⟨rfl, t_yes ?_⟩
        refine ⟨_, rfl, t2, _, 0, .int p.1, rfl, rfl, .of (ex2 _ _ (ex _ _ h3)), rfl, _, eD, len63' (by rw [List.length_map, List.length_take]; omega), Ex.mu ex2 hD, ?_⟩
        rw [upd_same, take_succ_map _ h1]
      · rintro H2 ⟨ex2, eD⟩
        rw [List.take_of_length_le (by omega), fst_ints] at eD
        have ex3 := ex.tr ex2
        refine ⟨D, _, rfl, .inl (.of eD), rfl, flat_ints _, _, rfl, ?_⟩
        rw [show (if false = true then !inV (.int z) ((ps.map fun p : Int × Int => p.1).map V.int) else inV (.int z) ((ps.map fun p : Int × Int => p.1).map V.int)) = decide (z ∈ ps.map fun p : Int × Int => p.1) by rw [if_neg (by decide), inV_int]]
        refine iteD (fun hin => ?_) (fun hno => ?_)
        · have hz : z ≤ 1000 := by
            obtain ⟨p, hp1, rfl⟩ := List.mem_map.mp hin
            exact (hd.val p hp1).2.1
          refine ⟨_, fun σ' H' w => ⟨n - 1, by omega, w⟩, ?_⟩
          refine ⟨_, rfl, _, _, rfl, rfl, z + 1, by omega, by omega, rfl, ex3⟩
        · have k0 : 0 ≤ c / 9 % 3 := Int.emod_nonneg _ (by decide)
          have k3 : c / 9 % 3 < 3 := Int.emod_lt_of_pos _ (by decide)
          refine ⟨_, rfl, _, rfl, _, rfl, ?_⟩
          refine ⟨_, rfl, _, _, rfl, rfl, ⟨by decide, by decide⟩, _, _, rfl, rfl, by show (0 : Int) < 3; decide, len63 (by show 2 ≤ _; decide), fun t1 ht1 => ?_⟩
          (generalize hh : upd H2 t1 _ = H3; have e3 : Ex H2 H3 := (by rw [← hh]; exact Ex.nw ht1); have c3 := (show H3 t1 = some _ by rw [← hh]; exact upd_same); clear hh)
          refine ⟨len63 (by show 1 ≤ _; decide), fun l1 hl1 => ?_⟩
          (generalize hh : upd H3 l1 _ = H4; have e4 : Ex H3 H4 := (by rw [← hh]; exact Ex.nw hl1); have c4 := (show H4 l1 = some _ by rw [← hh]; exact upd_same); clear hh)
          have ex4 := (ex3.tr e3).tr e4
          refine ⟨u, l1, _, _, rfl, rfl, ex4 _ _ hu, c4, len63 (by show ys.length + 1 ≤ _; omega), fun l2 hl2 => ?_⟩
          (generalize hh : upd H4 l2 _ = H5; have e5 : Ex H4 H5 := (by rw [← hh]; exact Ex.nw hl2); have c5 := (show H5 l2 = some _ by rw [← hh]; exact upd_same); clear hh)
          have ex5 := ex4.tr e5
          have hps : Prs H5 (ys ++ [.ref t1]) (us ++ [(z, c / 9 % 3)]) := Prs.snoc (hus.ex ex5) ⟨t1, rfl, e5 _ _ (e4 _ _ c3)⟩
          have hnu : ((us ++ [(z, c / 9 % 3)]).map (·.1)).Nodup := by
            rw [List.map_append]
            refine nd_snoc hd.und fun hm => hno ?_
            obtain ⟨v, hv, hv1⟩ := List.mem_map.mp hm
            obtain ⟨⟨c', hc'⟩, _⟩ := hd.own v hv
            exact List.mem_map.mpr ⟨_, hc', hv1⟩
          refine ⟨l2, _, pairAt H5, rfl, .of c5, hps.all, fun ws t9 z1 z2 ht9 => ?_⟩
          obtain ⟨rs, hr2, hpm, hris⟩ := sorted_prs hps hnu z1 z2
          (generalize hh : upd H5 t9 _ = H6; have e6 : Ex H5 H6 := (by rw [← hh]; exact Ex.nw ht9); have c6 := (show H6 t9 = some _ by rw [← hh]; exact upd_same); clear hh)
          refine ⟨len63 (by show 2 ≤ _; decide), fun l hl => ?_⟩
          have ex6 := ex5.tr e6
          refine q l t t9 xs ws ps rs _ (ex6.tr (Ex.nw hl)) (none_back ex6 hl) upd_same ((Ex.nw hl) _ _ (ex6 _ _ ht)) ((Ex.nw hl) _ _ c6) (hp.ex (ex6.tr (Ex.nw hl))) ((hr2.ex e6).ex (Ex.nw hl)) ⟨hrp, hris, vpp, fun p hp => ?_, ⟨h1, by omega⟩, ?_⟩
          · rcases List.mem_append.mp (hpm.mem_iff.mp hp) with h | h
            · exact vup p h
            · rw [List.mem_singleton.mp h]
              exact ⟨by show 1 ≤ z; omega, by show z ≤ 5000; omega, k0, by show c / 9 % 3 ≤ 2000000; omega⟩
          · rw [hpm.length_eq, List.length_append]
            show us.length + 1 ≤ 12
            omega
    · have hc1 : ¬ c % 3 = 1 := fun z => hc (.inl z)
      have hc2 : ¬ 8 < xs.length := fun z => hc (.inr z)
      refine ifs_false (fun Q hq => ?_) ?_
      · repeat (first | refine ⟨_, rfl, ?_⟩ | refine ⟨(by show (0 : Int) < _; decide), ?_⟩ | refine ⟨⟨by decide, by decide⟩, ?_⟩ | refine ⟨.inr ⟨by decide, by decide⟩, ?_⟩ | refine ⟨.inl ⟨by decide, by decide⟩, ?_⟩ | refine ⟨⟨by decide, by decide, by decide⟩, ?_⟩ | refine ⟨_, _, rfl, rfl, ?_⟩ | refine ⟨rfl, _, rfl, ?_⟩)
        first | refine iteVI (fun e => ?_) (fun e => ?_) | refine iteVN (fun e => ?_) (fun e => ?_) | refine iteD (fun e => ?_) (fun e => ?_) | refine iteDN (fun e => ?_) (fun e => ?_) | refine iteB (fun e => ?_) (fun e => ?_)
        · exact absurd e hc1
        · refine ⟨_, rfl, t, xs, rfl, .inl (.of ht), _, _, rfl, rfl, _, rfl, ?_⟩
          rw [decide_eq_false (show ¬ (8 : Int) < (xs.length : Int) by omega)]
          exact hq
      have w1 : 0 ≤ c / 3 % 2 := Int.emod_nonneg _ (by decide)
      have w2 : c / 3 % 2 < 2 := Int.emod_lt_of_pos _ (by decide)
      repeat (first | refine ⟨_, rfl, ?_⟩ | refine ⟨(by show (0 : Int) < _; decide), ?_⟩ | refine ⟨⟨by decide, by decide⟩, ?_⟩ | refine ⟨.inr ⟨by decide, by decide⟩, ?_⟩ | refine ⟨.inl ⟨by decide, by decide⟩, ?_⟩ | refine ⟨⟨by decide, by decide, by decide⟩, ?_⟩ | refine ⟨_, _, rfl, rfl, ?_⟩ | refine ⟨rfl, _, rfl, ?_⟩)
      refine ⟨t, ps, rfl, ⟨xs, .of ht, hp⟩, fun p hp => by have := hd.val p hp; omega, _, _, rfl, rfl, _, rfl, u, us, rfl, ⟨ys, .of hu, hus⟩, fun p hp => by have := vup p hp; omega, _, _, rfl, rfl, ?_⟩
      obtain ⟨R, hR⟩ : ∃ R : Int, 1500 + c / 3 % 2 - worthP ps - worthP us = R := ⟨_, rfl⟩
      have hR1 : 900 ≤ R ∧ R ≤ 1501 := by omega
      refine ⟨_, rfl, _, _, rfl, rfl, ⟨by decide, by decide⟩, ?_⟩
      refine ⟨_, rfl, t, rfl, ⟨xs, .of ht⟩, fun D hD => lc_list (xs := xs) (fun i H' => Ex H H' ∧ H' D = some (.lst ((ps.take i).map fun p => V.int p.1))) ⟨Ex.nw hD, upd_same⟩ (fun i H' _ h => .of (h.1 _ _ ht)) ?_ ?_⟩
      · rintro i x H' hx ⟨ex2, eD⟩
        obtain ⟨p, t2, h1, rfl, h3⟩ := Prs.get hp hx
        refine ⟨rfl, t_yes ?_⟩
        refine ⟨_, rfl, t2, _, 0, .int p.1, rfl, rfl, .of (ex2 _ _ h3), rfl, _, eD, len63' (by rw [List.length_map, List.length_take]; omega), Ex.mu ex2 hD, ?_⟩
        rw [upd_same, take_succ_map _ h1]
      rintro H2 ⟨ex2, eD⟩
      rw [List.take_of_length_le (by omega), fst_ints] at eD
      generalize hVV : (ps.map fun p : Int × Int => p.1) = VV at eD
      have hVl : VV.length = ps.length := by rw [← hVV, List.length_map]
      -- how far it goes down
      obtain ⟨j0, hj0, hf0⟩ := escape (VV ++ VV.map (fun v => R - v) ++ [R / 2]).length (VV ++ VV.map (fun v => R - v) ++ [R / 2]) (fun j : Nat => R / 2 - (j : Int)) rfl (fun i j _ _ e => by
        have e' : R / 2 - (i : Int) = R / 2 - (j : Int) := e
        omega)
      have hkl : (VV ++ VV.map (fun v => R - v) ++ [R / 2]).length ≤ 21 := by
        rw [List.length_append, List.length_append, List.length_map, hVl]
        show ps.length + ps.length + 1 ≤ 21
        omega
      have free0 : ¬ (R / 2 - (j0 : Int) ∈ VV ∨ R - (R / 2 - (j0 : Int)) ∈ VV ∨ R / 2 - (j0 : Int) + (R / 2 - (j0 : Int)) = R) := by
        intro hb
        apply hf0
        rcases hb with h | h | h
        · exact List.mem_append.mpr (.inl (List.mem_append.mpr (.inl h)))
        · exact List.mem_append.mpr (.inl (List.mem_append.mpr (.inr (List.mem_map.mpr ⟨_, h, by show R - (R - (R / 2 - (j0 : Int))) = R / 2 - (j0 : Int); omega⟩))))
        · exact List.mem_append.mpr (.inr (List.mem_singleton.mpr (by show R / 2 - (j0 : Int) = R / 2; omega)))
      obtain ⟨j, hj, hmin⟩ := least (p := fun j : Nat => ¬ (R / 2 - (j : Int) ∈ VV ∨ R - (R / 2 - (j : Int)) ∈ VV ∨ R / 2 - (j : Int) + (R / 2 - (j : Int)) = R)) ⟨j0, free0⟩
      have hj21 : j ≤ 21 := by
        by_cases z : j0 < j
        · exact absurd free0 (hmin j0 z)
        · omega
      refine ⟨fun n σ H' => ∃ k : Nat, k + n = j ∧ σ = [some (.ref t), some (.ref u), some (.int c), none, some (.int R), some (.int (R / 2 - (k : Int))), some (.ref D), none, none] ∧ H' = H2, ⟨j, 0, by omega, by
        rw [← hR]
        show _ = [_, _, _, _, _, some (V.int ((1500 + c / 3 % 2 - worthP ps - worthP us) / 2 - 0)), _, _, _]
        rw [Int.sub_zero]
        rfl, rfl⟩, ?_⟩
      rintro n σ H3 ⟨k, hk, rfl, rfl⟩
      generalize hone : R / 2 - (k : Int) = one
      have dIn : ∀ z : Int, (if false = true then !inV (.int z) (VV.map V.int) else inV (.int z) (VV.map V.int)) = decide (z ∈ VV) := fun z => by rw [if_neg (by decide), inV_int]
      by_cases hn : n = 0
      · have hkj : k = j := by omega
        subst hkj
        rw [hone] at hj
        have f1 : ¬ one ∈ VV := fun z => hj (.inl z)
        have f2 : ¬ R - one ∈ VV := fun z => hj (.inr (.inl z))
        have f3 : ¬ one + one = R := fun z => hj (.inr (.inr z))
        refine test_is (b := false) (fun Q hq => ?_) ?_
        · refine ⟨_, rfl, _, rfl, D, _, rfl, .inl (.of eD), rfl, flat_ints _, _, rfl, ?_⟩
          rw [dIn]
          refine iteD (fun z => absurd z f1) (fun _ => ?_)
          refine ⟨_, rfl, _, rfl, _, _, rfl, rfl, _, rfl, D, _, rfl, .inl (.of eD), rfl, flat_ints _, _, rfl, ?_⟩
          rw [dIn]
          refine iteD (fun z => absurd z f2) (fun _ => ?_)
          refine ⟨_, rfl, _, rfl, _, _, rfl, rfl, _, rfl, rfl, _, rfl, ?_⟩
          rw [decide_eq_false (show ¬ V.int (one + one) = V.int R from fun z => f3 (V.int.inj z))]
          exact hq
        refine iteF ?_
        have d1 : 0 ≤ c / 6 % 3 := Int.emod_nonneg _ (by decide)
        have d2 : c / 6 % 3 < 3 := Int.emod_lt_of_pos _ (by decide)
        have q1 : 0 ≤ c / 24 % 10 ^ (6 : Int).toNat := Int.emod_nonneg _ (by decide)
        have q2 : c / 24 % 10 ^ (6 : Int).toNat < 10 ^ (6 : Int).toNat := Int.emod_lt_of_pos _ (by decide)
        have q3 : ((10 : Int) ^ (6 : Int).toNat) = 1000000 := by decide
        repeat (first | refine ⟨_, rfl, ?_⟩ | refine ⟨(by show (0 : Int) < _; decide), ?_⟩ | refine ⟨⟨by decide, by decide⟩, ?_⟩ | refine ⟨.inr ⟨by decide, by decide⟩, ?_⟩ | refine ⟨.inl ⟨by decide, by decide⟩, ?_⟩ | refine ⟨⟨by decide, by decide, by decide⟩, ?_⟩ | refine ⟨_, _, rfl, rfl, ?_⟩ | refine ⟨rfl, _, rfl, ?_⟩)
        refine ⟨len63 (by show 3 ≤ _; decide), fun m hm => ?_⟩
        repeat (first | refine ⟨_, rfl, ?_⟩ | refine ⟨(by show (0 : Int) < _; decide), ?_⟩ | refine ⟨⟨by decide, by decide⟩, ?_⟩ | refine ⟨.inr ⟨by decide, by decide⟩, ?_⟩ | refine ⟨.inl ⟨by decide, by decide⟩, ?_⟩ | refine ⟨⟨by decide, by decide, by decide⟩, ?_⟩ | refine ⟨_, _, rfl, rfl, ?_⟩ | refine ⟨rfl, _, rfl, ?_⟩)
        refine ⟨m, [1, 1, 1 + c / 24 % 10 ^ (6 : Int).toNat].map V.int, _, _, rfl, rfl, .of upd_same, menu_at rfl d1 d2, ?_⟩
        have hmb : 0 ≤ [1, 1, 1 + c / 24 % 10 ^ (6 : Int).toNat].getD (c / 6 % 3).toNat 0 ∧ [1, 1, 1 + c / 24 % 10 ^ (6 : Int).toNat].getD (c / 6 % 3).toNat 0 ≤ 2000000 := by
          obtain ⟨i, hi⟩ : ∃ i : Nat, (c / 6 % 3).toNat = i := ⟨_, rfl⟩
          have hi3 : i < 3 := by omega
          rw [hi]
          match i, hi3 with
          | 0, _ => exact ⟨by show (0 : Int) ≤ 1; decide, by show (1 : Int) ≤ 2000000; decide⟩
          | 1, _ => exact ⟨by show (0 : Int) ≤ 1; decide, by show (1 : Int) ≤ 2000000; decide⟩
          | 2, _ => exact ⟨by show (0 : Int) ≤ 1 + c / 24 % 10 ^ (6 : Int).toNat; omega, by show 1 + c / 24 % 10 ^ (6 : Int).toNat ≤ 2000000; omega⟩
        generalize List.getD _ _ _ = mm at hmb ⊢
        (generalize hh : upd H3 m _ = H4; have e4 : Ex H3 H4 := (by rw [← hh]; exact Ex.nw hm); have c4 := (show H4 m = some _ by rw [← hh]; exact upd_same); clear hh)
        have ex4 := ex2.tr e4
        refine ⟨_, rfl, _, rfl, _, rfl, len63 (by show 2 ≤ _; decide), fun t1 ht1 => ?_⟩
        (generalize hh : upd H4 t1 _ = H5; have e5 : Ex H4 H5 := (by rw [← hh]; exact Ex.nw ht1); have c5 := (show H5 t1 = some _ by rw [← hh]; exact upd_same); clear hh)
        refine ⟨_, rfl, _, rfl, _, _, rfl, rfl, len63 (by show 2 ≤ _; decide), fun t2 ht2 => ?_⟩
        (generalize hh : upd H5 t2 _ = H6; have e6 : Ex H5 H6 := (by rw [← hh]; exact Ex.nw ht2); have c6 := (show H6 t2 = some _ by rw [← hh]; exact upd_same); clear hh)
        refine ⟨len63 (by show 2 ≤ _; decide), fun l1 hl1 => ?_⟩
        (generalize hh : upd H6 l1 _ = H7; have e7 : Ex H6 H7 := (by rw [← hh]; exact Ex.nw hl1); have c7 := (show H7 l1 = some _ by rw [← hh]; exact upd_same); clear hh)
        have ex7 := ((ex4.tr e5).tr e6).tr e7
        refine ⟨t, l1, _, _, rfl, rfl, ex7 _ _ ht, c7, len63 (by show xs.length + 2 ≤ _; omega), fun l2 hl2 => ?_⟩
        (generalize hh : upd H7 l2 _ = H8; have e8 : Ex H7 H8 := (by rw [← hh]; exact Ex.nw hl2); have c8 := (show H8 l2 = some _ by rw [← hh]; exact upd_same); clear hh)
        have ex8 := ex7.tr e8
        have hps : Prs H8 (xs ++ [.ref t1, .ref t2]) (ps ++ [(one, mm), (R - one, 1)]) := Prs.app (hp.ex ex8) (.cons ⟨t1, rfl, e8 _ _ (e7 _ _ (e6 _ _ c5))⟩ (.cons ⟨t2, rfl, e8 _ _ (e7 _ _ c6)⟩ .nil))
        have hnu : ((ps ++ [(one, mm), (R - one, 1)]).map (·.1)).Nodup := by
          rw [List.map_append, show ([(one, mm), (R - one, 1)] : List (Int × Int)).map (·.1) = [one] ++ [R - one] from rfl, ← List.append_assoc, hVV]
          refine nd_snoc (nd_snoc (hVV ▸ hd.nd) f1) fun hm => ?_
          rcases List.mem_append.mp hm with z | z
          · exact f2 z
          · have := List.mem_singleton.mp z
            omega
        refine ⟨l2, _, pairAt H8, rfl, .of c8, hps.all, fun ws t9 z1 z2 ht9 => ?_⟩
        obtain ⟨rs, hr2, hpm, hris⟩ := sorted_prs hps hnu z1 z2
        (generalize hh : upd H8 t9 _ = H9; have e9 : Ex H8 H9 := (by rw [← hh]; exact Ex.nw ht9); have c9 := (show H9 t9 = some _ by rw [← hh]; exact upd_same); clear hh)
        refine ⟨_, rfl, len63 (by show 2 ≤ _; decide), fun l hl => ?_⟩
        have ex9 := ex8.tr e9
        refine q l t9 u ws ys rs us _ (ex9.tr (Ex.nw hl)) (none_back ex9 hl) upd_same ((Ex.nw hl) _ _ c9) ((Ex.nw hl) _ _ (ex9 _ _ hu)) ((hr2.ex e9).ex (Ex.nw hl)) (hus.ex (ex9.tr (Ex.nw hl))) ⟨hris, hru, fun p hp => ?_, vup, ?_, by omega⟩
        · rcases List.mem_append.mp (hpm.mem_iff.mp hp) with h | h
          · exact vpp p h
          · rcases List.mem_cons.mp h with h | h
            · rw [h]
              exact ⟨by show 1 ≤ one; omega, by show one ≤ 5000; omega, hmb.1, hmb.2⟩
            · rw [List.mem_singleton.mp h]
              exact ⟨by show 1 ≤ R - one; omega, by show R - one ≤ 5000; omega, by show (0 : Int) ≤ 1; decide, by show (1 : Int) ≤ 2000000; decide⟩
        · rw [hpm.length_eq, List.length_append]
          show 1 ≤ ps.length + 2 ∧ ps.length + 2 ≤ 12
          omega
      · have hb : one ∈ VV ∨ R - one ∈ VV ∨ one + one = R := by
          have := hmin k (by omega)
          rw [hone] at this
          exact Classical.not_not.mp this
        refine test_is (b := true) (fun Q hq => ?_) ?_
        · refine ⟨_, rfl, _, rfl, D, _, rfl, .inl (.of eD), rfl, flat_ints _, _, rfl, ?_⟩
          rw [dIn]
          refine iteD (fun _ => hq) (fun f1 => ?_)
          refine ⟨_, rfl, _, rfl, _, _, rfl, rfl, _, rfl, D, _, rfl, .inl (.of eD), rfl, flat_ints _, _, rfl, ?_⟩
          rw [dIn]
          refine iteD (fun _ => hq) (fun f2 => ?_)
          refine ⟨_, rfl, _, rfl, _, _, rfl, rfl, _, rfl, rfl, _, rfl, ?_⟩
          have f3 : one + one = R := by
            rcases hb with z | z | z
            · exact absurd z f1
            · exact absurd z f2
            · exact z
          rw [decide_eq_true (show V.int (one + one) = V.int R from congrArg V.int f3)]
          exact hq
        refine iteT ⟨_, fun σ' H' w => ⟨n - 1, by omega, w⟩, ?_⟩
        refine ⟨_, rfl, _, _, rfl, rfl, k + 1, by omega, ?_, rfl⟩
        rw [← hone]
        show [_, _, _, _, _, some (V.int (R / 2 - (k : Int) - 1)), _, _, _] = [_, _, _, _, _, some (V.int (R / 2 - ((k + 1 : Nat) : Int))), _, _, _]
        rw [show R / 2 - (k : Int) - 1 = R / 2 - ((k + 1 : Nat) : Int) by omega]
/-! ### due, tried, refused -/
def spScales (K : PySem.W.Frag) (cK cS : Addr) : Sp := fun vs H Q E => ∃ (t u : Addr) (ps us : List (Int × Int)), vs = [.ref t, .ref u] ∧ Till K H t ps ∧ Till K H u us ∧ Gen2 ps us ∧
  (dueS ps us = "kind" → ∀ H2, Ex H H2 → E (.ref cK) none H2) ∧ (dueS ps us = "sum" → ∀ H2, Ex H H2 → E (.ref cS) none H2) ∧ (dueS ps us = "" → NewRows H (scalesOf ps us) Q)
/-! ### a dict of pairs -/
def dkP (us : List (Int × Int)) : List (Key × V) := us.map fun p => (Sum.inl p.1, V.int p.2)
theorem prs_dk {K : PySem.W.Frag} {H : Hp} : ∀ {xs : List V} {ps : List (Int × Int)}, Prs H xs ps → ∃ as : List Addr, xs = as.map V.ref ∧ Paired (fun p (kv : Key × V) => SqT K H p [kV kv.1, kv.2]) as (dkP ps)
  | _, _, .nil => ⟨[], rfl, .nil⟩
  | _, _, .cons (b := p) ⟨t, h1, h2⟩ r => by
    obtain ⟨as, e, q⟩ := prs_dk (K := K) r
    exact ⟨t :: as, by rw [h1, e]; rfl, .cons (.of h2) q⟩
theorem countIn_none {ps : List (Int × Int)} {v : Int} (h : ∀ p ∈ ps, p.1 ≠ v) : countIn ps v = none := by
  induction ps with
  | nil => rfl
  | cons p ps ih =>
    rw [countIn_cons, if_neg (h p List.mem_cons_self)]
    exact ih fun q hq => h q (List.mem_cons_of_mem _ hq)
theorem valV_merge {v : Int} : ∀ {us : List (Int × Int)} {kvs : List (Key × V)}, (us.map (·.1)).Nodup → valV (mergeK kvs (dkP us)) (Sum.inl v) = (match countIn us v with
  | some c => some (V.int c)
  | none => valV kvs (Sum.inl v))
  | [], kvs, _ => rfl
  | p :: us, kvs, nd => by
    rw [List.map_cons, List.nodup_cons] at nd
    have ih := valV_merge (v := v) (us := us) (kvs := putK kvs (Sum.inl p.1) (V.int p.2)) nd.2
    show valV (mergeK (putK kvs (Sum.inl p.1) (V.int p.2)) (dkP us)) (Sum.inl v) = _
    rw [ih, countIn_cons, valV_put]
    by_cases e : p.1 = v
    · rw [if_pos e, if_pos (by rw [e])]
      rw [countIn_none fun q hq z => nd.1 (by rw [e, ← z]; exact List.mem_map.mpr ⟨q, hq, rfl⟩)]
    · rw [if_neg e, if_neg (fun z => e (Sum.inl.inj z).symm)]
theorem dict_val {us : List (Int × Int)} (nd : (us.map (·.1)).Nodup) (v : Int) : valV (mergeK [] (dkP us)) (Sum.inl v) = (countIn us v).map V.int := by
  rw [valV_merge nd]
  cases countIn us v <;> rfl
theorem countIn_some {ps : List (Int × Int)} {v : Int} (h : v ∈ ps.map fun p : Int × Int => p.1) : ∃ c, countIn ps v = some c := by
  cases e : countIn ps v with
  | some c => exact ⟨c, rfl⟩
  | none =>
    exfalso
    obtain ⟨p, hp, rfl⟩ := List.mem_map.mp h
    induction ps with
    | nil => cases hp
    | cons q ps ih =>
      rw [countIn_cons] at e
      by_cases z : q.1 = p.1
      · rw [if_pos z] at e
        cases e
      · rw [if_neg z] at e
        rcases List.mem_cons.mp hp with y | y
        · exact z (by rw [y])
        · exact ih y (List.mem_map.mpr ⟨p, y, rfl⟩) e
/-! ### a row, turned round -/
theorem rAt_rev {r : List Cell} {i : Nat} (h : i < r.length) : rAt r.reverse i = rAt r (r.length - 1 - i) := by
  unfold rAt
  rw [List.getD_eq_getElem?_getD, List.getD_eq_getElem?_getD, List.getElem?_reverse h]
theorem nextRow_lst {r : List Cell} {v c d : Nat} (hv : 0 < v) (h : d < r.length) : Lst r v c d (rAt (nextRow r v c) d) := by
  rw [show rAt (nextRow r v c) d = leastF r v c d from rAt_map h]
  exact leastF_lst hv
theorem cellAt_nat {r : List Cell} {i : Nat} {x : Int} (h : i < r.length) (hx : rAt r i = some x) : cellAt r (i : Int) = some x := by
  unfold cellAt
  rw [if_pos ⟨by omega, by omega⟩, Int.toNat_natCast]
  exact hx
theorem of_cellAt {r : List Cell} {z x : Int} (h : cellAt r z = some x) : ∃ i : Nat, z = (i : Int) ∧ i < r.length ∧ rAt r i = some x := by
  unfold cellAt at h
  split at h
  · next hz => exact ⟨z.toNat, by omega, by omega, h⟩
  · cases h
theorem turn_lit {r : List Cell} {v c o d : Nat} (hv : 0 < v) (hd : d < r.length) : Lit r v c o (d : Int) (rAt (nextRow (nextRow r v o).reverse v c).reverse d) := by
  have pl : (nextRow r v o).length = r.length := nextRow_len ..
  have prl : (nextRow r v o).reverse.length = r.length := by rw [List.length_reverse, pl]
  have ql : (nextRow (nextRow r v o).reverse v c).length = r.length := by rw [nextRow_len, prl]
  rw [rAt_rev (by rw [ql]; exact hd), ql]
  have hq := nextRow_lst (r := (nextRow r v o).reverse) (v := v) (c := c) (d := r.length - 1 - d) hv (by rw [prl]; omega)
  generalize rAt (nextRow (nextRow r v o).reverse v c) (r.length - 1 - d) = res at hq
  have mid : ∀ b : Nat, b * v ≤ r.length - 1 - d → rAt (nextRow r v o).reverse (r.length - 1 - d - b * v) = rAt (nextRow r v o) (d + b * v) := fun b hb => by
    rw [rAt_rev (by rw [pl]; omega), pl]
    congr 1
    omega
  have hp : ∀ b : Nat, b * v ≤ r.length - 1 - d → Lst r v o (d + b * v) (rAt (nextRow r v o) (d + b * v)) := fun b hb => nextRow_lst hv (by omega)
  have first : ∀ (j x : Int), -(c : Int) ≤ j → j ≤ o → cellAt r ((d : Int) - j * v) = some x → ∃ m, res = some m ∧ m ≤ x + j.natAbs := by
    intro j x h1 h2 hx
    obtain ⟨i, hi, hil, hx'⟩ := of_cellAt hx
    by_cases hj : 0 ≤ j
    · obtain ⟨b, rfl⟩ : ∃ b : Nat, j = (b : Int) := ⟨j.toNat, by omega⟩
      have eb : ((b * v : Nat) : Int) = (b : Int) * v := Int.natCast_mul ..
      obtain ⟨m1, e1, l1⟩ := (hp 0 (by omega)).1 b x (by omega) (by omega) (by rw [show d + 0 * v - b * v = i by omega]; exact hx')
      obtain ⟨m, e2, l2⟩ := hq.1 0 m1 (by omega) (by omega) (by rw [mid 0 (by omega)]; exact e1)
      exact ⟨m, e2, by omega⟩
    · obtain ⟨b, hb⟩ : ∃ b : Nat, j = -(b : Int) := ⟨(-j).toNat, by omega⟩
      subst hb
      have eb : ((b * v : Nat) : Int) = (b : Int) * v := Int.natCast_mul ..
      rw [Int.neg_mul] at hi
      obtain ⟨m1, e1, l1⟩ := (hp b (by omega)).1 0 x (by omega) (by omega) (by rw [show d + b * v - 0 * v = i by omega]; exact hx')
      obtain ⟨m, e2, l2⟩ := hq.1 b m1 (by omega) (by omega) (by rw [mid b (by omega)]; exact e1)
      exact ⟨m, e2, by omega⟩
  refine ⟨first, fun m hm => ?_⟩
  obtain ⟨b, x1, b1, b2, b3, rfl⟩ := hq.2 m hm
  rw [mid b b2] at b3
  obtain ⟨a, x, a1, a2, a3, rfl⟩ := (hp b b2).2 x1 b3
  have ea : ((a * v : Nat) : Int) = (a : Int) * v := Int.natCast_mul ..
  have eb : ((b * v : Nat) : Int) = (b : Int) * v := Int.natCast_mul ..
  have hc : cellAt r ((d : Int) - ((a : Int) - b) * v) = some x := by
    rw [Int.sub_mul, show (d : Int) - ((a : Int) * v - (b : Int) * v) = ((d + b * v - a * v : Nat) : Int) by omega]
    exact cellAt_nat (by omega) a3
  obtain ⟨m', e', l'⟩ := first ((a : Int) - b) x (by omega) (by omega) hc
  rw [hm] at e'
  have := Option.some.inj e'
  exact ⟨(a : Int) - b, x, by omega, by omega, hc, by omega⟩
theorem turn_next {r : List Cell} {v c o : Nat} (hv : 0 < v) : (nextRow (nextRow r v o).reverse v c).reverse = nextLit r v c o := by
  have pl : (nextRow r v o).length = r.length := nextRow_len ..
  refine row_ext (by rw [List.length_reverse, nextRow_len, List.length_reverse, pl]) fun d hd => ?_
  exact Lit.uniq (turn_lit hv hd) litF_lit
/-! ### what pieces are worth -/
def spWorthP (K : PySem.W.Frag) : Sp := fun vs H Q _ => ∃ (a : Addr) (ps : List (Int × Int)), vs = [.ref a] ∧ Till K H a ps ∧ ps.length ≤ 1000 ∧ (∀ p ∈ ps, 0 ≤ p.1 ∧ p.1 ≤ 1000000000) ∧ Ret (.int (worthP ps)) H Q
theorem ok_worth (T : Tx K mg) : FnOk P w K mg base CX0 1 T.a_worth T.d_worth P_worth (spWorthP K) := by
  refine T.f_worth.ok sc_worth (fun vs H Q E h => ?_) (fun cdv A outer s H vs Q E hr h => ?_)
  · obtain ⟨a, ps, rfl, _⟩ := h
    rfl
  · obtain ⟨a, ps, rfl, ⟨xs, hS, hp⟩, hl, hb, q⟩ := h
    refine ⟨_, (pss_one (ps_ret (pe_callB (cr_sum rfl) (by rfl) T.m_sum (by decide +kernel) (pa_cons (pe_lc (own := [("value", 1), ("count", 2)]) (g := gTup K 2 (gCons (gName 1) (gCons (gName 2) gNil))) rfl sc_worth.nd (pi_list (pv 0)) (blkOk_by (own := [("value", 1), ("count", 2)]) (N := N_worth) (sc := defScope s_worth) (by decide +kernel)) (fun _ _ _ _ _ => pg_tup rfl (pgs_cons (pg_name (i := 1) sc_worth.nd rfl (.inl rfl) (.inr rfl)) (pgs_cons (pg_name (i := 2) sc_worth.nd rfl (.inl rfl) (.inr rfl)) pgs_nil))) (fun _ _ _ _ _ => pts_nil) (fun _ _ _ _ _ => (pe_op op_mul (pv 1) (pv 2)))) pa_nil)))), ?_⟩
    refine ⟨_, rfl, a, rfl, ⟨xs, hS⟩, fun D hD => lc_list (xs := xs) (fun i H' => Ex H H' ∧ H' D = some (.lst ((ps.take i).map fun p => .int (p.1 * p.2)))) ⟨Ex.nw hD, upd_same⟩ (fun i H' _ h => h.1.seq hS) ?_ ?_⟩
    · rintro i x H' hx ⟨ex, eD⟩
      obtain ⟨p, t, h1, rfl, h3⟩ := Prs.get hp hx
      have hpm := hb p (List.mem_of_getElem? h1)
      refine ⟨t, _, rfl, .of (ex _ _ h3), rfl, _, _, rfl, _, _, rfl, rfl, rfl, ?_⟩
      refine t_yes ?_
      repeat (first | refine ⟨_, rfl, ?_⟩ | refine ⟨(by show (0 : Int) < _; decide), ?_⟩ | refine ⟨⟨by decide, by decide⟩, ?_⟩ | refine ⟨.inr ⟨by decide, by decide⟩, ?_⟩ | refine ⟨.inl ⟨by decide, by decide⟩, ?_⟩ | refine ⟨⟨by decide, by decide, by decide⟩, ?_⟩ | refine ⟨_, _, rfl, rfl, ?_⟩ | refine ⟨rfl, _, rfl, ?_⟩)
      refine ⟨.inl ⟨by omega, by omega⟩, _, eD, ?_, ?_, ?_⟩
      · rw [List.length_map, List.length_take]
        exact len63' (by omega)
      · exact Ex.mu ex hD
      · rw [upd_same, take_succ_map _ h1]
    · rintro H' ⟨ex, eD⟩
      rw [List.take_of_length_le (by rw [hp.len]; exact Nat.le_refl _)] at eD
      refine ⟨D, ps.map fun p : Int × Int => p.1 * p.2, rfl, .of (by rw [eD, List.map_map]; rfl), q H' ex⟩
/-! ### the scales, as the program makes them -/
theorem rowsL_snoc (r : List Cell) (ks : List Kd) (k : Kd) : rowsL r (ks ++ [k]) = rowsL r ks ++ [lastL r (ks ++ [k])] := by
  unfold rowsL
  rw [List.length_append, show ks.length + [k].length + 1 = (ks.length + 1) + 1 from rfl, List.range_succ, List.map_append]
  congr 1
  · refine List.map_congr_left fun i hi => ?_
    rw [List.take_append_of_le_length (by have := List.mem_range.mp hi; omega)]
  · show [lastL r ((ks ++ [k]).take (ks.length + 1))] = _
    rw [List.take_of_length_le (by rw [List.length_append]; exact Nat.le_refl _)]
def spPurse (K : PySem.W.Frag) (cK : Addr) : Sp := fun vs H Q E => ∃ (t u : Addr) (ps us : List (Int × Int)), vs = [.ref t, .ref u] ∧ Till K H t ps ∧ Till K H u us ∧ (ps.map (·.1)).Nodup ∧
  (lacks ps us = true → ∀ H2, Ex H H2 → E (.ref cK) none H2) ∧ (lacks ps us = false → ∀ H2, Ex H H2 → Q .non H2)
theorem ok_check_purse (T : Tx K mg) : FnOk P w K mg base (L2.CX P w) 1 T.a__check_purse T.d__check_purse P__check_purse (spPurse K T.c_NoKind) := by
  refine T.f__check_purse.okX sc__check_purse (fun vs H Q E h => ?_) (fun cdv A outer s H vs Q E hr h => ?_)
  · obtain ⟨t, u, ps, us, rfl, _⟩ := h
    rfl
  · obtain ⟨t, u, ps, us, rfl, ⟨xs, hS, hp⟩, ⟨ys, hS2, hu⟩, nd, q1, q2⟩ := h
    refine ⟨_, (pss_cons (ps_set (i := 2) sc__check_purse.nd rfl (.inl rfl) (pe_callTy (call_dictP rfl) (by rfl) T.m_dict (by decide +kernel) (pa_cons (pv 0) pa_nil)))
    (pss_one (ps_for (passes_of rfl) rfl (pi_list (pv 1)) (pg_tup rfl (pgs_cons (pg_name (i := 3) sc__check_purse.nd rfl (.inl rfl)) (pgs_cons (pg_name (i := 4) sc__check_purse.nd rfl (.inl rfl)) pgs_nil)))
      (pss_one (ps_if (pt_cmp (pc_dnotin (hu_of hr) (pv 3) (pv 2)))
        (pss_one (ps_raise rfl (takes_of rfl rfl rfl rfl) (pmk_own PySem.F.excBase_ValueError T.x_NoKind T.g_NoKind T.k_NoKind (raises_own T.b_NoKind T.t_NoKind) rfl)))
        pss_nil))))), ?_⟩
    obtain ⟨as, rfl, hd⟩ := prs_dk (K := K) hp
    refine ⟨_, rfl, t, as, dkP ps, rfl, hS, hd, fun D hD => ?_⟩
    (generalize hh : upd H D _ = H1; have e1 : Ex H H1 := (by rw [← hh]; exact Ex.nw hD); have c1 := (show H1 D = some _ by rw [← hh]; exact upd_same); clear hh)
    refine ⟨_, rfl, u, rfl, ⟨ys, e1.seq hS2⟩, for_list (xs := ys) (fun i σ H' => ∃ y3 y4, σ = [some (.ref t), some (.ref u), some (.ref D), y3, y4] ∧ H' = H1 ∧ ∀ q ∈ us.take i, q.1 ∈ ps.map fun p => p.1) ⟨_, _, rfl, rfl, by simp⟩ (fun i σ H' _ h => by obtain ⟨_, _, _, rfl, _⟩ := h; exact e1.seq hS2) ?_ ?_⟩
    · rintro i x σ H' hx ⟨y3, y4, rfl, rfl, hin⟩
      obtain ⟨q, t2, h1, rfl, h3⟩ := Prs.get (hu.ex e1) hx
      refine ⟨t2, _, rfl, .of h3, rfl, _, _, rfl, _, _, rfl, rfl, ?_⟩
      refine ⟨_, rfl, _, rfl, D, _, rfl, DGet.k (k := Sum.inl q.1) c1, _, rfl, ?_⟩
      rw [dict_val nd]
      by_cases hm : q.1 ∈ ps.map fun p : Int × Int => p.1
      · obtain ⟨c, hc⟩ := countIn_some hm
        rw [hc]
        refine iteF ⟨_, _, rfl, rfl, fun z hz => ?_⟩
        rw [take_snoc h1] at hz
        rcases List.mem_append.mp hz with y | y
        · exact hin z y
        · rw [List.mem_singleton.mp y]
          exact hm
      · rw [countIn_none fun p hp z => hm (List.mem_map.mpr ⟨p, hp, z⟩)]
        refine iteT (q1 ?_ _ e1)
        unfold lacks
        rw [List.any_eq_true]
        exact ⟨q, List.mem_of_getElem? h1, by rw [decide_eq_false hm]; rfl⟩
    · rintro σ H' ⟨y3, y4, rfl, rfl, hin⟩
      rw [List.take_of_length_le (by rw [hu.len]; exact Nat.le_refl _)] at hin
      refine q2 ?_ _ e1
      unfold lacks
      rw [List.any_eq_false]
      intro q hq
      rw [decide_eq_true (hin q hq)]
      decide
def spNumbers (K : PySem.W.Frag) : Sp := fun vs H Q _ => ∃ (a : Addr) (r : List Cell) (v c o : Nat), vs = [.ref a, .int (v : Int), .int (c : Int), .int (o : Int)] ∧ Row K H a r ∧ 1 ≤ r.length ∧ r.length ≤ 2000 ∧ 1 ≤ v ∧ v ≤ 100000 ∧ NewRow H (nextLit r v c o) Q
theorem ok_with_numbers (T : Tx K mg) : FnOk P w K mg base CX0 3 T.a__with_numbers T.d__with_numbers P__with_numbers (spNumbers K) := by
  have G_with_kind := ok_with_kind (P := P) (w := w) (base := base) T
  refine T.f__with_numbers.ok sc__with_numbers (fun vs H Q E h => ?_) (fun cdv A outer s H vs Q E hr h => ?_)
  · obtain ⟨a, r, v, c, o, rfl, _⟩ := h
    rfl
  · obtain ⟨a, r, v, c, o, rfl, hS, hl1, hl, hv1, hv2, q⟩ := h
    refine ⟨_, (pss_cons (ps_set (i := 4) sc__with_numbers.nd rfl (.inl rfl) (pe_call G_with_kind (hr.mono (by decide)) (by rfl) T.g_with_kind T.f_with_kind.kp T.p_with_kind .nil pass0 (pa_cons (pv 0) (pa_cons (pv 1) (pa_cons (pv 3) pa_nil)))))
    (pss_one (ps_ret (pe_revL (pe_call G_with_kind (hr.mono (by decide)) (by rfl) T.g_with_kind T.f_with_kind.kp T.p_with_kind .nil pass0 (pa_cons (pe_revL (pv 4)) (pa_cons (pv 1) (pa_cons (pv 2) pa_nil)))))))), ?_⟩
    have pl : (nextRow r v o).length = r.length := nextRow_len ..
    refine ⟨_, rfl, _, rfl, _, rfl, a, r, v, o, rfl, hS, hl1, hl, hv1, hv2, fun p H2 e2 hp ep => ?_⟩
    refine ⟨_, rfl, p, _, rfl, .of ep, fun p2 hp2 => ?_⟩
    rw [← List.map_reverse]
    (generalize hh : upd H2 p2 _ = H3; have e3 : Ex H2 H3 := (by rw [← hh]; exact Ex.nw hp2); have c3 := (show H3 p2 = some _ by rw [← hh]; exact upd_same); clear hh)
    refine ⟨_, rfl, _, rfl, p2, (nextRow r v o).reverse, v, c, rfl, .of c3, by rw [List.length_reverse, pl]; exact hl1, by rw [List.length_reverse, pl]; exact hl, hv1, hv2, fun p3 H4 e4 hp3 ep3 => ?_⟩
    refine ⟨p3, _, rfl, .of ep3, fun p4 hp4 => ?_⟩
    rw [← List.map_reverse, turn_next (by omega)]
    exact q p4 _ (((e2.tr e3).tr e4).tr (Ex.nw hp4)) (none_back ((e2.tr e3).tr e4) hp4) upd_same
theorem gen_worth {ps : List (Int × Int)} (h : ∀ p ∈ ps, 1 ≤ p.1 ∧ p.1 ≤ 5000 ∧ 0 ≤ p.2 ∧ p.2 ≤ 2000000) : worthP ps = (lowOf ps : Int) :=
  (Int.toNat_of_nonneg (worthP_nn fun p hp => by have := h p hp; omega)).symm
theorem ok_scales (T : Tx K mg) : FnOk P w K mg base (L2.CX P w) 4 T.a_scales T.d_scales P_scales (spScales K T.c_NoKind T.c_NoSum) := by
  have G__check_purse := ok_check_purse (P := P) (w := w) (base := base) T
  have G_worth := ok_worth (P := P) (w := w) (base := base) T
  have G__with_numbers := ok_with_numbers (P := P) (w := w) (base := base) T
  refine T.f_scales.okX sc_scales (fun vs H Q E h => ?_) (fun cdv A outer s H vs Q E hr h => ?_)
  · obtain ⟨t, u, ps, us, rfl, _⟩ := h
    rfl
  · obtain ⟨t, u, ps, us, rfl, hT, hU, hg, qk, qs, q0⟩ := h
    refine ⟨_, (pss_cons (ps_expr (pe_call G__check_purse (hr.mono (by decide)) (by rfl) T.g__check_purse T.f__check_purse.kp T.p__check_purse .nil (passes_call (takes_of rfl rfl rfl rfl) fun _ _ _ _ h => h) (pa_cons (pv 0) (pa_cons (pv 1) pa_nil))))
    (pss_cons (ps_set (i := 2) sc_scales.nd rfl (.inl rfl) (pe_call G_worth (hr.mono (by decide)) (by rfl) T.g_worth T.f_worth.kp T.p_worth .nil pass0 (pa_cons (pv 0) pa_nil)))
    (pss_cons (ps_set (i := 3) sc_scales.nd rfl (.inl rfl) (pe_call G_worth (hr.mono (by decide)) (by rfl) T.g_worth T.f_worth.kp T.p_worth .nil pass0 (pa_cons (pv 1) pa_nil)))
    (pss_cons (ps_if (pt_cmpR op_gt (pe_op op_add (pv 2) (pv 3)) (pe_glob (v := .int 1500) (by rfl) T.w_MOST_WORTH.choose_spec ⟨_, rfl⟩) (nomark _))
      (pss_one (ps_raise rfl (takes_of rfl rfl rfl rfl) (pmk_own PySem.F.excBase_ValueError T.x_NoSum T.g_NoSum T.k_NoSum (raises_own T.b_NoSum T.t_NoSum) rfl)))
      pss_nil)
    (pss_cons (ps_set (i := 4) sc_scales.nd rfl (.inl rfl) (pe_callTy (call_dictP rfl) (by rfl) T.m_dict (by decide +kernel) (pa_cons (pv 1) pa_nil)))
    (pss_cons (ps_set (i := 5) sc_scales.nd rfl (.inl rfl) (pe_op op_cat (pe_op op_cat (pe_op op_rep (pe_lst (pa_cons pe_non pa_nil)) (pv 2)) (pe_lst (pa_cons pe_int pa_nil))) (pe_op op_rep (pe_lst (pa_cons pe_non pa_nil)) (pv 3))))
    (pss_cons (ps_set (i := 6) sc_scales.nd rfl (.inl rfl) (pe_lst (pa_cons (pv 5) pa_nil)))
    (pss_cons (ps_for (passes_of rfl) rfl (pi_list (pv 0)) (pg_tup rfl (pgs_cons (pg_name (i := 7) sc_scales.nd rfl (.inl rfl)) (pgs_cons (pg_name (i := 8) sc_scales.nd rfl (.inl rfl)) pgs_nil)))
      (pss_cons (ps_set (i := 5) sc_scales.nd rfl (.inl rfl) (pe_call G__with_numbers (hr.mono (by decide)) (by rfl) T.g__with_numbers T.f__with_numbers.kp T.p__with_numbers .nil pass0 (pa_cons (pv 5) (pa_cons (pv 7) (pa_cons (pv 8) (pa_cons (pe_dget2 (hu_of hr) (pv 4) (pv 7) pe_int ⟨by rfl, by rfl, by rfl, by rfl⟩) pa_nil))))))
      (pss_one (ps_expr (pe_bm PySem.F.plainAttrs_list PySem.F.slot_list_append PySem.F.type_list_append mt_append (pv 6) (pa_cons (pv 5) pa_nil))))))
    (pss_one (ps_ret (pv 6))))))))))), ?_⟩
    have hwp := gen_worth hg.vp
    have hwu := gen_worth hg.vu
    refine ⟨_, rfl, _, rfl, t, u, ps, us, rfl, hT, hU, rising_nd hg.rp, fun hl => qk (by unfold dueS; rw [if_pos hl]), fun hl H2 e2 => ?_⟩
    have hl' : ¬ lacks ps us = true := by rw [hl]; decide
    refine ⟨_, rfl, t, ps, rfl, hT.ex e2, by have := hg.lp; omega, fun p hp => by have := hg.vp p hp; omega, fun H3 e3 => ?_⟩
    rw [hwp]
    refine ⟨_, rfl, u, us, rfl, (hU.ex e2).ex e3, by have := hg.lu; omega, fun p hp => by have := hg.vu p hp; omega, fun H4 e4 => ?_⟩
    rw [hwu]
    have ex4 := (e2.tr e3).tr e4
    refine ⟨_, rfl, _, rfl, _, _, rfl, rfl, _, _, rfl, rfl, _, rfl, iteD (fun e => ?_) (fun e => ?_)⟩
    · have e' : (lowOf ps : Int) + (lowOf us : Int) > 1500 := e
      exact qs (by unfold dueS; rw [if_neg hl', if_pos (by omega)]) _ ex4
    have e' : ¬ (lowOf ps : Int) + (lowOf us : Int) > 1500 := e
    have q1 := q0 (by unfold dueS; rw [if_neg hl', if_neg (by omega)])
    unfold scalesOf at q1
    obtain ⟨ys, hSu, hu⟩ := hU
    obtain ⟨bs, rfl, hdu⟩ := prs_dk (K := K) (hu.ex ex4)
    refine ⟨_, rfl, u, bs, dkP us, rfl, ex4.seq hSu, hdu, fun hd hhd => ?_⟩
    (generalize hh : upd H4 hd _ = H5; have e5 : Ex H4 H5 := (by rw [← hh]; exact Ex.nw hhd); have cd := (show H5 hd = some _ by rw [← hh]; exact upd_same); clear hh)
    generalize hlo : lowOf ps = low at *
    generalize hhi : lowOf us = high at *
    have hrl : (row0L low high).length = low + high + 1 := row0L_len ..
    refine ⟨len63 (by show 1 ≤ _; decide), fun l1 hl1 => ?_⟩
    (generalize hh : upd H5 l1 _ = H6; have e6 : Ex H5 H6 := (by rw [← hh]; exact Ex.nw hl1); have c1 := (show H6 l1 = some _ by rw [← hh]; exact upd_same); clear hh)
    refine ⟨_, rfl, l1, _, _, rfl, rfl, c1, by omega, by omega, len63 (by rw [Int.toNat_natCast]; show 1 * low ≤ _; omega), fun l2 hl2 => ?_⟩
    rw [Int.toNat_natCast]
    (generalize hh : upd H6 l2 _ = H7; have e7 : Ex H6 H7 := (by rw [← hh]; exact Ex.nw hl2); have c2 := (show H7 l2 = some _ by rw [← hh]; exact upd_same); clear hh)
    refine ⟨len63 (by show 1 ≤ _; decide), fun l3 hl3 => ?_⟩
    (generalize hh : upd H7 l3 _ = H8; have e8 : Ex H7 H8 := (by rw [← hh]; exact Ex.nw hl3); have c3 := (show H8 l3 = some _ by rw [← hh]; exact upd_same); clear hh)
    refine ⟨l2, l3, _, _, rfl, rfl, e8 _ _ c2, c3, len63 (by simp; omega), fun l4 hl4 => ?_⟩
    (generalize hh : upd H8 l4 _ = H9; have e9 : Ex H8 H9 := (by rw [← hh]; exact Ex.nw hl4); have c4 := (show H9 l4 = some _ by rw [← hh]; exact upd_same); clear hh)
    refine ⟨len63 (by show 1 ≤ _; decide), fun l5 hl5 => ?_⟩
    (generalize hh : upd H9 l5 _ = H10; have e10 : Ex H9 H10 := (by rw [← hh]; exact Ex.nw hl5); have c5 := (show H10 l5 = some _ by rw [← hh]; exact upd_same); clear hh)
    refine ⟨_, rfl, l5, _, _, rfl, rfl, c5, by omega, by omega, len63 (by rw [Int.toNat_natCast]; show 1 * high ≤ _; omega), fun l6 hl6 => ?_⟩
    rw [Int.toNat_natCast]
    (generalize hh : upd H10 l6 _ = H11; have e11 : Ex H10 H11 := (by rw [← hh]; exact Ex.nw hl6); have c6 := (show H11 l6 = some _ by rw [← hh]; exact upd_same); clear hh)
    refine ⟨l4, l6, _, _, rfl, rfl, e11 _ _ (e10 _ _ c4), c6, len63 (by simp; omega), fun l7 hl7 => ?_⟩
    rw [scl0]
    (generalize hh : upd H11 l7 _ = H12; have e12 : Ex H11 H12 := (by rw [← hh]; exact Ex.nw hl7); have c7 := (show H12 l7 = some _ by rw [← hh]; exact upd_same); clear hh)
    have ex5 := ex4.tr e5
    have ex12 : Ex H5 H12 := (((((e6.tr e7).tr e8).tr e9).tr e10).tr e11).tr e12
    have hl70 : H l7 = none := none_back ((((((ex5.tr e6).tr e7).tr e8).tr e9).tr e10).tr e11) hl7
    refine ⟨_, rfl, len63 (by show 1 ≤ _; decide), fun R hR => ?_⟩
    have exA := ex5.tr ex12
    have hR0 : H R = none := none_back exA hR
    have n7R : l7 ≠ R := ne_of_none c7 hR
    obtain ⟨xs, hS, hp⟩ := hT
    have cd12 := ex12 _ _ cd
    refine ⟨_, rfl, t, rfl, ⟨xs, (exA.tr (Ex.nw hR)).seq hS⟩, for_list (xs := xs) (fun i σ H' => ∃ as b y7 y8, σ = [some (.ref t), some (.ref u), some (.int (low : Int)), some (.int (high : Int)), some (.ref hd), some (.ref b), some (.ref R), y7, y8] ∧ Ex H H' ∧ H' hd = some (.dK (mergeK [] (dkP us))) ∧ (∀ x ∈ R :: as, H x = none) ∧ (R :: as).Nodup ∧
        H' R = some (.lst (as.map V.ref)) ∧ RowsAt H' as (rowsL (row0L low high) ((kindsOf ps us).take i)) ∧ H' b = some (.lst ((lastL (row0L low high) ((kindsOf ps us).take i)).map vO)))
      ⟨[l7], l7, _, _, rfl, exA.tr (Ex.nw hR), (Ex.nw hR) _ _ cd12, ?_, ?_, upd_same, .cons ((Ex.nw hR) _ _ c7) .nil, (Ex.nw hR) _ _ c7⟩ (fun i σ H' _ h => by
        obtain ⟨_, _, _, _, _, e, _⟩ := h
        exact e.seq hS) ?_ ?_⟩
    · intro x hx
      rcases List.mem_cons.mp hx with e | e
      · exact e ▸ hR0
      · rw [List.mem_singleton.mp e]
        exact hl70
    · rw [List.nodup_cons, List.mem_singleton]
      exact ⟨fun e => n7R e.symm, List.nodup_cons.mpr ⟨by simp, List.nodup_nil⟩⟩
    · rintro i x σ H5 hx ⟨as, b, y7, y8, rfl, ex, ehd, hfr, hnd, eR, hrows, eb⟩
      obtain ⟨p, t2, h1, rfl, h3⟩ := Prs.get hp hx
      have hpm := hg.vp p (List.mem_of_getElem? h1)
      have hi : i < ps.length := (List.getElem?_eq_some_iff.mp h1).1
      have hll : (lastL (row0L low high) ((kindsOf ps us).take i)).length = low + high + 1 := by rw [lastL_len, hrl]
      have hkk := kindsOf_at (us := us) h1
      have hown : 0 ≤ ownOf us p.1 := by
        unfold ownOf
        cases e : countIn us p.1 with
        | none => exact Int.le_refl _
        | some c => exact (hg.vu _ (countIn_mem e)).2.2.1
      refine ⟨t2, _, rfl, .of (ex _ _ h3), rfl, _, _, rfl, _, _, rfl, rfl, ?_⟩
      refine ⟨_, rfl, _, rfl, _, rfl, _, rfl, hd, rfl, .inl ⟨_, .inl ehd⟩, _, rfl, _, DGet.k (k := Sum.inl p.1) ehd, ?_⟩
      rw [dict_val (rising_nd hg.ru), show (Option.map V.int (countIn us p.1)).getD (.int 0) = .int (ownOf us p.1) by unfold ownOf; cases countIn us p.1 <;> rfl]
      refine ⟨b, _, p.1.toNat, p.2.toNat, (ownOf us p.1).toNat, by rw [Int.toNat_of_nonneg (by omega), Int.toNat_of_nonneg (by omega), Int.toNat_of_nonneg hown]; rfl, .of eb, by omega, by omega, by omega, by omega, fun p' H6 e6 hp' ep' => ?_⟩
      rw [show nextLit (lastL (row0L low high) ((kindsOf ps us).take i)) p.1.toNat p.2.toNat (ownOf us p.1).toNat = stepL (lastL (row0L low high) ((kindsOf ps us).take i)) (p.1, p.2, ownOf us p.1) from rfl, ← lastL_snoc, ← take_snoc hkk] at ep'
      have hal := hrows.len
      rw [rowsL_len, List.length_take, kindsOf_len] at hal
      refine ⟨_, rfl, .inl ⟨rfl, _, .of (e6 _ _ eR)⟩, _, rfl, R, _, _, rfl, rfl, e6 _ _ eR, len63' (by rw [List.length_map]; have := hg.lp; omega), ?_⟩
      have hRa : R ∉ as := (List.nodup_cons.mp hnd).1
      have hpR : p' ≠ R := (ne_of_none eR hp').symm
      have hdR : hd ≠ R := fun z => by rw [z, eR] at ehd; cases ehd
      have hpa : p' ∉ as := fun z => by
        obtain ⟨o, ho⟩ := hrows.mem z
        rw [ho] at hp'
        cases hp'
      refine ⟨as ++ [p'], p', _, _, rfl, Ex.mu (ex.tr e6) hR0, by rw [upd_ne hdR]; exact e6 _ _ ehd, ?_, ?_, ?_, ?_, ?_⟩
      · intro x hx
        rcases List.mem_cons.mp hx with e | e
        · exact e ▸ hR0
        · rcases List.mem_append.mp e with e | e
          · exact hfr x (List.mem_cons_of_mem _ e)
          · rw [List.mem_singleton.mp e]
            exact none_back ex hp'
      · rw [← List.cons_append]
        refine nd_snoc hnd fun z => ?_
        rcases List.mem_cons.mp z with e | e
        · exact hpR e
        · exact hpa e
      · rw [upd_same, List.map_append]
        rfl
      · rw [take_snoc hkk, rowsL_snoc, ← take_snoc hkk]
        exact RowsAt.snoc ((hrows.ex e6).up hRa) (by rw [upd_ne hpR]; exact ep')
      · rw [upd_ne hpR]
        exact ep'
    · rintro σ H5 ⟨as, b, y7, y8, rfl, ex, ehd, hfr, hnd, eR, hrows, eb⟩
      rw [List.take_of_length_le (by rw [hp.len, kindsOf_len]; exact Nat.le_refl _)] at hrows
      exact ⟨_, rfl, q1 R as H5 ex hfr hnd eR hrows⟩
def spTriedS (K : PySem.W.Frag) : Sp := fun vs H Q _ => ∃ (t u : Addr) (ps us : List (Int × Int)), vs = [.ref t, .ref u] ∧ Till K H t ps ∧ Till K H u us ∧ Gen2 ps us ∧ Ret (.str (dueS ps us)) H Q
theorem ok_triedS (T : Tx K mg) : FnOk P w K mg base CX0 5 T.a__law_tried T.d__law_tried P__law_tried (spTriedS K) := by
  have G_scales := ok_scales (P := P) (w := w) (base := base) T
  refine T.f__law_tried.ok sc__law_tried (fun vs H Q E h => ?_) (fun cdv A outer s H vs Q E hr h => ?_)
  · obtain ⟨t, u, ps, us, rfl, _⟩ := h
    rfl
  · obtain ⟨t, u, ps, us, rfl, hT, hU, hg, q⟩ := h
    refine ⟨_, (pss_cons (ps_try_many rfl rfl takes0
      (fun W pn xe tk hp => (pss_one (ps_expr (pe_callS G_scales (hr.mono (by decide)) rfl T.g_scales T.f_scales.kp T.p_scales (fun σ => passAt tk σ) (pa_cons (pv 0) (pa_cons (pv 1) pa_nil))))))
      (.cons ⟨by rfl, by decide, .inl T.g_NoKind⟩ (fun a oe cls d pn hz hf => (pss_one (ps_ret pe_str)))
      (.cons ⟨by rfl, by decide, .inl T.g_NoSum⟩ (fun a oe cls d pn hz hf => (pss_one (ps_ret pe_str)))
      .nil)))
    (pss_one (ps_ret pe_str))), ?_⟩
    refine ⟨_, rfl, _, rfl, t, u, ps, us, rfl, hT, hU, hg, fun hd H2 ex => ?_, fun hd H2 ex => ?_, fun hd => ?_⟩
    · rw [hd] at q
      refine ⟨true, exm_mk T.b_NoKind T.i_NoKind T.t_NoKind T.u_NoKind_NoKind, (fun _ x hx => ?_), fun z => nomatch z⟩
      exact q _ ex
    · rw [hd] at q
      refine ⟨false, exm_mk T.b_NoKind T.i_NoKind T.t_NoKind T.u_NoSum_NoKind, (fun z => nomatch z), fun _ => ?_⟩
      refine ⟨true, exm_mk T.b_NoSum T.i_NoSum T.t_NoSum T.u_NoSum_NoSum, (fun _ x hx => ?_), fun z => nomatch z⟩
      exact q _ ex
    · rw [hd] at q
      intro R as H2 e2 _ _ _ _
      exact q _ e2
theorem ne_sub {K : PySem.W.Frag} {C D : Addr} (h1 : PySem.W.subIn K (.ref C) (.ref D) = some false) (h2 : PySem.W.subIn K (.ref C) (.ref C) = some true) : C ≠ D := by
  intro e
  rw [← e, h2] at h1
  cases h1
def spAnyS (K : PySem.W.Frag) : Sp := fun vs H Q _ => ∃ (t u : Addr) (ps us : List (Int × Int)), vs = [.ref t, .ref u] ∧ Till K H t ps ∧ Till K H u us ∧ Gen2 ps us ∧ Ret (.bl (!decide (dueS ps us = ""))) H Q
theorem ok_anyS (T : Tx K mg) : FnOk P w K mg base CX0 5 T.a__law_any T.d__law_any P__law_any (spAnyS K) := by
  have G_scales := ok_scales (P := P) (w := w) (base := base) T
  refine T.f__law_any.ok sc__law_any (fun vs H Q E h => ?_) (fun cdv A outer s H vs Q E hr h => ?_)
  · obtain ⟨t, u, ps, us, rfl, _⟩ := h
    rfl
  · obtain ⟨t, u, ps, us, rfl, hT, hU, hg, q⟩ := h
    refine ⟨_, (pss_cons (ps_try_as (i := 2) rfl rfl sc__law_any.nd rfl rfl ⟨by rfl, by decide, .inl T.g_TillError⟩ takes0
      (fun W pn xe tk hp => (pss_one (ps_expr (pe_callS G_scales (hr.mono (by decide)) rfl T.g_scales T.f_scales.kp T.p_scales (fun σ => passAt tk σ) (pa_cons (pv 0) (pa_cons (pv 1) pa_nil))))))
      (fun a oe cls d pn hz hf => (pss_cons (ps_if (pt_val (pe_callB (call_isET hz hf) (by rfl) T.m_isinstance (by decide +kernel) (pa_cons (pv 2) (pa_cons (pe_tup (pa_cons (pe_glob (v := .ref T.c_NoChange) (by rfl) T.g_NoChange rfl) (pa_cons (pe_glob (v := .ref T.c_NoCount) (by rfl) T.g_NoCount rfl) (pa_cons (pe_glob (v := .ref T.c_NoDeed) (by rfl) T.g_NoDeed rfl) (pa_cons (pe_glob (v := .ref T.c_NoTill) (by rfl) T.g_NoTill rfl) (pa_cons (pe_glob (v := .ref T.c_StillHeld) (by rfl) T.g_StillHeld rfl) (pa_cons (pe_glob (v := .ref T.c_TooFew) (by rfl) T.g_TooFew rfl) (pa_cons (pe_glob (v := .ref T.c_TooLittle) (by rfl) T.g_TooLittle rfl) (pa_cons (pe_glob (v := .ref T.c_Twice) (by rfl) T.g_Twice rfl) pa_nil))))))))) pa_nil))))
        (pss_one (ps_ret pe_bl))
        pss_nil)
      (pss_one (ps_ret (pe_and (pe_callB (call_isE1 hz hf) (by rfl) T.m_isinstance (by decide +kernel) (pa_cons (pv 2) (pa_cons (pe_bltn (v := .ty "ValueError") (by rfl) T.m_ValueError (by decide +kernel) rfl) pa_nil))) (pe_one (pe_cmpR op_ne (pe_callB (call_isE1 hz hf) (by rfl) T.m_isinstance (by decide +kernel) (pa_cons (pv 2) (pa_cons (pe_glob (v := .ref T.c_NoKind) (by rfl) T.g_NoKind rfl) pa_nil))) (pe_callB (call_isE1 hz hf) (by rfl) T.m_isinstance (by decide +kernel) (pa_cons (pv 2) (pa_cons (pe_glob (v := .ref T.c_NoSum) (by rfl) T.g_NoSum rfl) pa_nil))) (nomark _)))))))))
    (pss_one (ps_ret pe_bl))), ?_⟩
    refine ⟨_, rfl, _, rfl, t, u, ps, us, rfl, hT, hU, hg, fun hd H2 ex => ?_, fun hd H2 ex => ?_, fun hd => ?_⟩
    · rw [hd] at q
      refine ⟨true, exm_mk T.b_TillError T.i_TillError T.t_TillError T.u_NoKind_TillError, (fun _ x hx => ?_), fun z => nomatch z⟩
      refine ⟨_, rfl, len63 (by show 8 ≤ _; decide), fun p hp => ?_⟩
      refine ⟨_, p, _, _, false, rfl, rfl, T.e_NoKind, rfl, upd_same, ?_, T.y_NoKind, false, rfl, iteF ?_⟩
      · repeat (first | exact .nil | refine .cons (.own _) ?_)
      refine ⟨_, rfl, _, _, _, true, rfl, rfl, T.e_NoKind, rfl, (fun u r => r), T.z_NoKind, true, rfl, iteT ?_⟩
      refine ⟨_, rfl, _, _, _, true, rfl, rfl, T.e_NoKind, rfl, (fun u r => r), kone_self, ?_⟩
      refine ⟨_, rfl, _, _, _, false, rfl, rfl, T.e_NoKind, rfl, (fun u r => r), kone_own (ne_sub T.u_NoKind_NoSum T.u_NoKind_NoKind) T.i_NoSum T.t_NoSum T.u_NoKind_NoSum, rfl, ?_⟩
      exact q _ (ex.tr (Ex.nw hp))
    · rw [hd] at q
      refine ⟨true, exm_mk T.b_TillError T.i_TillError T.t_TillError T.u_NoSum_TillError, (fun _ x hx => ?_), fun z => nomatch z⟩
      refine ⟨_, rfl, len63 (by show 8 ≤ _; decide), fun p hp => ?_⟩
      refine ⟨_, p, _, _, false, rfl, rfl, T.e_NoSum, rfl, upd_same, ?_, T.y_NoSum, false, rfl, iteF ?_⟩
      · repeat (first | exact .nil | refine .cons (.own _) ?_)
      refine ⟨_, rfl, _, _, _, true, rfl, rfl, T.e_NoSum, rfl, (fun u r => r), T.z_NoSum, true, rfl, iteT ?_⟩
      refine ⟨_, rfl, _, _, _, false, rfl, rfl, T.e_NoSum, rfl, (fun u r => r), kone_own (ne_sub T.u_NoSum_NoKind T.u_NoSum_NoSum) T.i_NoKind T.t_NoKind T.u_NoSum_NoKind, ?_⟩
      refine ⟨_, rfl, _, _, _, true, rfl, rfl, T.e_NoSum, rfl, (fun u r => r), kone_self, rfl, ?_⟩
      exact q _ (ex.tr (Ex.nw hp))
    · rw [hd] at q
      intro R as H2 e2 _ _ _ _
      exact q _ e2
def spLaw (K : PySem.W.Frag) : Sp := fun vs H Q _ => ∃ (a : Addr) (ns : List Int), vs = [.ref a] ∧ SqL K H a (ns.map V.int) ∧ ∀ H', Q (.bl true) H'
theorem ok_law (T : Tx K mg) : FnOk P w K mg base CX0 6 T.a_law T.d_law P_law (spLaw K) := by
  have G__law_cell_at := ok_cell_at (P := P) (w := w) (base := base) T
  have G__law_till_and_purse := ok_tap (P := P) (w := w) (base := base) T
  have G__law_odd := ok_odd (P := P) (w := w) (base := base) T
  have G__law_mixed := ok_mixed (P := P) (w := w) (base := base) T
  have G__law_total := ok_total (P := P) (w := w) (base := base) T
  have G__law_tried := ok_triedS (P := P) (w := w) (base := base) T
  have G__law_any := ok_anyS (P := P) (w := w) (base := base) T
  have G__law_scaled := ok_scaled (P := P) (w := w) (base := base) T
  have G_scales := ok_scales (P := P) (w := w) (base := base) T
  refine T.f_law.ok sc_law (fun vs H Q E h => ?_) (fun cdv A outer s H vs Q E hr h => ?_)
  · obtain ⟨a, ns, rfl, _⟩ := h
    rfl
  · obtain ⟨a, ns, rfl, hS, q⟩ := h
    refine ⟨_, (pss_cons (ps_set (i := 1) sc_law.nd rfl (.inl rfl) (pe_call G__law_till_and_purse (hr.mono (by decide)) (by rfl) T.g__law_till_and_purse T.f__law_till_and_purse.kp T.p__law_till_and_purse .nil pass0 (pa_cons (pv 0) (pa_cons pe_int pa_nil))))
    (Evl.pss_cut (ps_if (pt_cmpR op_eq (pe_op op_mod (pe_call G__law_cell_at (hr.mono (by decide)) (by rfl) T.g__law_cell_at T.f__law_cell_at.kp T.p__law_cell_at .nil pass0 (pa_cons (pv 0) (pa_cons pe_int pa_nil))) pe_int) pe_int (nomark _))
      (pss_one (ps_set (i := 1) sc_law.nd rfl (.inl rfl) (pe_call G__law_odd (hr.mono (by decide)) (by rfl) T.g__law_odd T.f__law_odd.kp T.p__law_odd .nil pass0 (pa_cons (pe_ix ix_list (pv 1) pe_int (fun _ _ => rfl)) (pa_cons (pe_ix ix_list (pv 1) pe_int (fun _ _ => rfl)) (pa_cons (pe_call G__law_mixed (hr.mono (by decide)) (by rfl) T.g__law_mixed T.f__law_mixed.kp T.p__law_mixed .nil pass0 (pa_cons (pe_call G__law_cell_at (hr.mono (by decide)) (by rfl) T.g__law_cell_at T.f__law_cell_at.kp T.p__law_cell_at .nil pass0 (pa_cons (pv 0) (pa_cons pe_int pa_nil))) (pa_cons pe_int pa_nil))) pa_nil))))))
      pss_nil)
    (pss_cons (ps_set (i := 2) sc_law.nd rfl (.inl rfl) (pe_ix ix_list (pv 1) pe_int (fun _ _ => rfl)))
    (pss_cons (ps_set (i := 3) sc_law.nd rfl (.inl rfl) (pe_ix ix_list (pv 1) pe_int (fun _ _ => rfl)))
    (pss_cons (ps_set (i := 4) sc_law.nd rfl (.inl rfl) (pe_lst (pa_cons (pe_callTy call_list_of (by rfl) T.m_list (by decide +kernel) (pa_cons (pv 2) pa_nil)) (pa_cons (pe_callTy call_list_of (by rfl) T.m_list (by decide +kernel) (pa_cons (pv 3) pa_nil)) pa_nil))))
    (pss_cons (ps_set (i := 5) sc_law.nd rfl (.inl rfl) pe_str)
    (pss_cons (ps_for PassesOwn.never rfl (pi_list (pv 3)) (pg_name (i := 6) sc_law.nd rfl (.inl rfl))
      (pss_one (ps_if (pt_cmpR op_notIn_seq (pe_ix ix_tup (pv 6) pe_int (fun _ _ => rfl)) (pe_lc (own := [("_law_one", 12)]) (g := gName 12) rfl sc_law.nd (pi_list (pv 2)) (blkOk_by (own := [("_law_one", 12)]) (N := N_law) (sc := defScope s_law) (by decide +kernel)) (fun _ _ _ _ _ => pg_name (i := 12) sc_law.nd rfl (.inl rfl) (.inr rfl)) (fun _ _ _ _ _ => pts_nil) (fun _ _ _ _ _ => (pe_ix (r := rIxT K) ix_tup (pv 12) pe_int (fun _ _ => rfl)))) (by rfl))
        (pss_one (ps_set (i := 5) sc_law.nd rfl (.inl rfl) pe_str))
        pss_nil)))
    (Evl.pss_cut (ps_if (PW.pt (pw_and (pt_cmpR op_eq (pv 5) pe_str (nomark _)) (pw_and1 (pt_cmpR op_gt (pe_op op_add (pe_call G__law_total (hr.mono (by decide)) (by rfl) T.g__law_total T.f__law_total.kp T.p__law_total .nil pass0 (pa_cons (pv 2) pa_nil)) (pe_call G__law_total (hr.mono (by decide)) (by rfl) T.g__law_total T.f__law_total.kp T.p__law_total .nil pass0 (pa_cons (pv 3) pa_nil))) pe_int (nomark _)))))
      (pss_one (ps_set (i := 5) sc_law.nd rfl (.inl rfl) pe_str))
      pss_nil)
    (pss_cons (ps_if (PW.pt (pw_or (pt_cmpR op_ne (pe_call G__law_tried (hr.mono (by decide)) (by rfl) T.g__law_tried T.f__law_tried.kp T.p__law_tried .nil pass0 (pa_cons (pe_ix ix_list (pv 4) pe_int (fun _ _ => rfl)) (pa_cons (pe_ix ix_list (pv 4) pe_int (fun _ _ => rfl)) pa_nil))) (pv 5) (nomark _)) (pw_or1 (pt_cmpR op_ne (pe_call G__law_any (hr.mono (by decide)) (by rfl) T.g__law_any T.f__law_any.kp T.p__law_any .nil pass0 (pa_cons (pe_ix ix_list (pv 4) pe_int (fun _ _ => rfl)) (pa_cons (pe_ix ix_list (pv 4) pe_int (fun _ _ => rfl)) pa_nil))) (pe_cmpR op_ne (pv 5) pe_str (nomark _)) (nomark _)))))
      (pss_one (ps_ret pe_bl))
      pss_nil)
    (pss_cons (ps_if (pt_cmpR (op_neD hr.units) (pv 4) (pe_lst (pa_cons (pv 2) (pa_cons (pv 3) pa_nil))) (nomark _))
      (pss_one (ps_ret pe_bl))
      pss_nil)
    (pss_cons (ps_if (pt_cmpR op_ne (pv 5) pe_str (nomark _))
      (pss_one (ps_ret pe_bl))
      pss_nil)
    (pss_cons (ps_set (i := 7) sc_law.nd rfl (.inl rfl) (pe_call G_scales (hr.mono (by decide)) (by rfl) T.g_scales T.f_scales.kp T.p_scales .nil passL (pa_cons (pe_ix ix_list (pv 4) pe_int (fun _ _ => rfl)) (pa_cons (pe_ix ix_list (pv 4) pe_int (fun _ _ => rfl)) pa_nil))))
    (pss_cons (ps_if (pt_not (pt_val (pe_call G__law_scaled (hr.mono (by decide)) (by rfl) T.g__law_scaled T.f__law_scaled.kp T.p__law_scaled .nil pass0 (pa_cons (pv 7) (pa_cons (pv 2) (pa_cons (pv 3) pa_nil))))))
      (pss_one (ps_ret pe_bl))
      pss_nil)
    (pss_cons (ps_setLc (i := 8) (own := [("_law_row_here", 11)]) (g := gName 11) rfl sc_law.nd rfl rfl (sw_true rfl rfl rfl (by decide +kernel)) (pi_list (pv 7)) (blkOk_by (own := [("_law_row_here", 11)]) (N := N_law) (sc := defScope s_law) (by decide +kernel)) (fun _ _ _ _ _ => pg_name (i := 11) sc_law.nd rfl (.inl rfl) (.inr rfl)) (fun _ _ _ _ _ => pts_nil) (fun _ _ _ _ _ => (pe_callTy (r := rListK K) call_list_of (by rfl) T.m_list (by decide +kernel) (pa_cons (pv 11) pa_nil))))
    (pss_cons (ps_set (i := 9) sc_law.nd rfl (.inl rfl) (pe_op op_mod (pe_call G__law_cell_at (hr.mono (by decide)) (by rfl) T.g__law_cell_at T.f__law_cell_at.kp T.p__law_cell_at .nil pass0 (pa_cons (pv 0) (pa_cons pe_int pa_nil))) (pe_callB call_len_seq (by rfl) T.m_len (by decide +kernel) (pa_cons (pv 7) pa_nil))))
    (pss_cons (ps_expr (pe_bm PySem.F.plainAttrs_list PySem.F.slot_list_append PySem.F.type_list_append mt_append (pe_ix ix_list (pv 7) (pv 9) (fun _ _ => rfl)) (pa_cons pe_int pa_nil)))
    (pss_cons (ps_for PassesOwn.never rfl (pi_range1 (by rfl) T.m_range (pa_cons (pe_callB call_len_seq (by rfl) T.m_len (by decide +kernel) (pa_cons (pv 7) pa_nil)) pa_nil)) (pg_name (i := 10) sc_law.nd rfl (.inl rfl))
      (pss_one (ps_if (PW.pt (pw_and (pt_cmpR op_ne (pv 10) (pv 9) (nomark _)) (pw_and1 (pt_cmpR (op_neD hr.units) (pe_ix ix_list (pv 7) (pv 10) (fun _ _ => rfl)) (pe_ix ix_list (pv 8) (pv 10) (fun _ _ => rfl)) (nomark _)))))
        (pss_one (ps_ret pe_bl))
        pss_nil)))
    (pss_cons (ps_asg pe_int (pg_sub (pe_ix ix_list (pv 7) pe_int (fun _ _ => rfl)) pe_int set_list))
    (pss_one (ps_ret (pe_cmpR (op_eqD hr.units) (pe_call G_scales (hr.mono (by decide)) (by rfl) T.g_scales T.f_scales.kp T.p_scales .nil passL (pa_cons (pe_ix ix_list (pv 4) pe_int (fun _ _ => rfl)) (pa_cons (pe_ix ix_list (pv 4) pe_int (fun _ _ => rfl)) pa_nil))) (pv 8) (nomark _)))))))))))))))))))))), ?_⟩
    refine ⟨_, rfl, a, ns, 6, rfl, hS, by decide, by decide, fun l0 t0 u0 xs0 ys0 ps0 us0 H1 e1 hl0 el0 ht0 hu0 n1 n2 n3 et0 eu0 hp0 hq0 r1 r2 hd2 h1 h10 _ => ?_⟩
    refine ⟨fun σ' H' => ∃ (l t u : Addr) (xs ys : List V) (ps us : List (Int × Int)), σ' = [some (.ref a), some (.ref l), none, none, none, none, none, none, none, none, none, none, none] ∧ Ex H H' ∧ H' l = some (.lst [.ref t, .ref u]) ∧ H' t = some (.lst xs) ∧ H' u = some (.lst ys) ∧ Prs H' xs ps ∧ Prs H' ys us ∧ Gen2 ps us, ?_, ?_⟩
    · refine ⟨_, rfl, a, ns, 3, rfl, e1.seq hS, ?_⟩
      repeat (first | refine ⟨_, rfl, ?_⟩ | refine ⟨(by show (0 : Int) < _; decide), ?_⟩ | refine ⟨⟨by decide, by decide⟩, ?_⟩ | refine ⟨.inr ⟨by decide, by decide⟩, ?_⟩ | refine ⟨.inl ⟨by decide, by decide⟩, ?_⟩ | refine ⟨⟨by decide, by decide, by decide⟩, ?_⟩ | refine ⟨_, _, rfl, rfl, ?_⟩ | refine ⟨rfl, _, rfl, ?_⟩)
      first | refine iteVI (fun e => ?_) (fun e => ?_) | refine iteVN (fun e => ?_) (fun e => ?_) | refine iteD (fun e => ?_) (fun e => ?_) | refine iteDN (fun e => ?_) (fun e => ?_) | refine iteB (fun e => ?_) (fun e => ?_)
      · refine ⟨_, rfl, l0, _, _, .ref t0, rfl, rfl, .of el0, rfl, _, rfl, l0, _, _, .ref u0, rfl, rfl, .of el0, rfl, _, rfl, a, ns, 4, rfl, e1.seq hS, _, _, rfl, ⟨by decide, by decide⟩, ?_⟩
        exact ⟨t0, u0, _, xs0, ys0, ps0, us0, rfl, et0, eu0, hp0, hq0, r1, r2, hd2, h1, h10, fun l t u xs ys ps us H2 e2 hl el et eu hp hq hg => ⟨l, t, u, xs, ys, ps, us, rfl, e1.tr e2, el, et, eu, hp, hq, hg⟩⟩
      · refine ⟨l0, t0, u0, xs0, ys0, ps0, us0, rfl, e1, el0, et0, eu0, hp0, hq0, ⟨r1, r2, fun p hp => ?_, fun p hp => ?_, ⟨h1, by omega⟩, by have := hd2.few; omega⟩⟩
        · have := hd2.val p hp
          omega
        · obtain ⟨⟨c', hc'⟩, h2, h3⟩ := hd2.own p hp
          have := hd2.val _ hc'
          exact ⟨this.1, by have := this.2.1; omega, h2, by omega⟩
    rintro σ' H2 ⟨l, t, u, xs, ys, ps, us, rfl, ex2, el, et, eu, hp, hq, hg⟩
    have hpl := hp.len
    have hql := hq.len
    have hlp := hg.lp
    have hlu := hg.lu
    refine ⟨_, rfl, l, _, _, .ref t, rfl, rfl, .of el, rfl, ?_⟩
    refine ⟨_, rfl, l, _, _, .ref u, rfl, rfl, .of el, rfl, ?_⟩
    -- handed in
    refine ⟨_, rfl, t, xs, rfl, .inl (.of et), fun h1 hh1 => ?_⟩
    (generalize hh : upd H2 h1 _ = H3; have e3 : Ex H2 H3 := (by rw [← hh]; exact Ex.nw hh1); have c3 := (show H3 h1 = some _ by rw [← hh]; exact upd_same); clear hh)
    refine ⟨_, rfl, u, ys, rfl, .inl (.of (e3 _ _ eu)), fun h2 hh2 => ?_⟩
    (generalize hh : upd H3 h2 _ = H4; have e4 : Ex H3 H4 := (by rw [← hh]; exact Ex.nw hh2); have c4 := (show H4 h2 = some _ by rw [← hh]; exact upd_same); clear hh)
    refine ⟨len63 (by show 2 ≤ _; decide), fun hd hhd => ?_⟩
    (generalize hh : upd H4 hd _ = H5; have e5 : Ex H4 H5 := (by rw [← hh]; exact Ex.nw hhd); have c5 := (show H5 hd = some _ by rw [← hh]; exact upd_same); clear hh)
    have ex25 := (e3.tr e4).tr e5
    have ch1 := e5 _ _ (e4 _ _ c3)
    have ch2 := e5 _ _ c4
    -- kinds that the till lacks
    have et5 := ex25 _ _ et
    have eu5 := ex25 _ _ eu
    refine ⟨_, rfl, u, rfl, ⟨ys, .of eu5⟩, for_list (xs := ys) (fun i σ H' => ∃ y6, σ = [some (.ref a), some (.ref l), some (.ref t), some (.ref u), some (.ref hd), some (.str (if lacks ps (us.take i) = true then "kind" else "")), y6, none, none, none, none, none, none] ∧ Ex H5 H')
      ⟨_, rfl, Ex.rfl'⟩ (fun i σ H' _ h => by obtain ⟨_, _, e⟩ := h; exact .of (e _ _ eu5)) ?_ ?_⟩
    · rintro i x σ H6 hx ⟨y6, rfl, ex6⟩
      obtain ⟨p, tp, g1, rfl, g3⟩ := Prs.get hq hx
      have et6 := ex6 _ _ et5
      have hp6 := (hp.ex ex25).ex ex6
      refine ⟨_, rfl, tp, _, 0, .int p.1, rfl, rfl, .of (ex6 _ _ (ex25 _ _ g3)), rfl, ?_⟩
      refine ⟨_, rfl, t, rfl, ⟨xs, .of et6⟩, fun D hD => lc_list (xs := xs) (fun i H' => Ex H6 H' ∧ H' D = some (.lst ((ps.take i).map fun p => V.int p.1))) ⟨Ex.nw hD, upd_same⟩ (fun i H' _ h => .of (h.1 _ _ et6)) ?_ ?_⟩
      · rintro j x H' hx ⟨ex7, eD⟩
        obtain ⟨o, t2, h1, rfl, h3⟩ := Prs.get hp6 hx
        refine ⟨rfl, t_yes ?_⟩
        refine ⟨_, rfl, t2, _, 0, .int o.1, rfl, rfl, .of (ex7 _ _ h3), rfl, _, eD, len63' (by rw [List.length_map, List.length_take]; omega), Ex.mu ex7 hD, ?_⟩
        rw [upd_same, take_succ_map _ h1]
      · rintro H7 ⟨ex7, eD⟩
        rw [List.take_of_length_le (by omega), fst_ints] at eD
        have hlk : lacks ps (us.take (i + 1)) = (lacks ps (us.take i) || !decide (p.1 ∈ ps.map fun p => p.1)) := by
          unfold lacks
          rw [take_snoc g1, List.any_append]
          simp
        refine ⟨D, _, rfl, .inl (.of eD), rfl, flat_ints _, _, rfl, ?_⟩
        rw [show (if true = true then !inV (.int p.1) ((ps.map fun p : Int × Int => p.1).map V.int) else inV (.int p.1) ((ps.map fun p : Int × Int => p.1).map V.int)) = !decide (p.1 ∈ ps.map fun p : Int × Int => p.1) by rw [if_pos rfl, inV_int]]
        refine iteDN (fun no => ?_) (fun yes => ?_)
        · refine ⟨some (.ref tp), ?_, ex6.tr ex7⟩
          rw [hlk, decide_eq_false no, Bool.not_false, Bool.or_true]
          rfl
        · refine ⟨some (.ref tp), ?_, ex6.tr ex7⟩
          rw [hlk, decide_eq_true yes, Bool.not_true, Bool.or_false]
          rfl
    rintro σ H6 ⟨y6, rfl, ex6⟩
    rw [List.take_of_length_le (by omega)]
    have ex26 := ex25.tr ex6
    have et6 := ex26 _ _ et
    have eu6 := ex26 _ _ eu
    have hp6 := hp.ex ex26
    have hq6 := hq.ex ex26
    -- worth too much
    refine ⟨fun σ' H' => σ' = [some (.ref a), some (.ref l), some (.ref t), some (.ref u), some (.ref hd), some (.str (dueS ps us)), y6, none, none, none, none, none, none] ∧ H' = H6, ?_, ?_⟩
    · unfold dueS
      cases hl : lacks ps us with
      | true =>
        refine ⟨_, rfl, rfl, _, rfl, ?_⟩
        rw [decide_eq_false (show ¬ (V.str (if true = true then "kind" else "") = V.str "") from fun z => by rw [if_pos rfl] at z; exact absurd (V.str.inj z) (by decide))]
        refine iteF (iteF ⟨?_, rfl⟩)
        rfl
      | false =>
        refine ⟨_, rfl, rfl, _, rfl, ?_⟩
        rw [decide_eq_true (show (V.str (if false = true then "kind" else "") = V.str "") by rw [if_neg (by decide)])]
        refine iteT ?_
        refine ⟨_, rfl, t, ps, rfl, ⟨xs, .of et6, hp6⟩, fun p hp => by have := hg.vp p hp; omega, _, rfl, u, us, rfl, ⟨ys, .of eu6, hq6⟩, fun p hp => by have := hg.vu p hp; omega, _, _, rfl, rfl, _, _, rfl, rfl, _, rfl, iteD (fun z => ?_) (fun z => ?_)⟩
        · have z' : worthP ps + worthP us > 1500 := z
          rw [if_neg (by decide), if_pos z']
          exact ⟨rfl, rfl⟩
        · have z' : ¬ worthP ps + worthP us > 1500 := z
          rw [if_neg (by decide), if_neg z']
          exact ⟨rfl, rfl⟩
    rintro σ' H' ⟨rfl, rfl⟩
    have chd6 := ex6 _ _ c5
    have ch16 := ex6 _ _ ch1
    have ch26 := ex6 _ _ ch2
    have hT1 : Till K H' h1 ps := ⟨xs, .of ch16, hp6⟩
    have hT2 : Till K H' h2 us := ⟨ys, .of ch26, hq6⟩
    have hTt : Till K H' t ps := ⟨xs, .of et6, hp6⟩
    have hTu : Till K H' u us := ⟨ys, .of eu6, hq6⟩
    refine ⟨_, rfl, hd, _, _, .ref h1, rfl, rfl, .of chd6, rfl, _, rfl, hd, _, _, .ref h2, rfl, rfl, .of chd6, rfl, h1, h2, ps, us, rfl, hT1, hT2, hg, fun H7 e7 => ?_⟩
    refine ⟨_, rfl, rfl, _, rfl, iteDN (fun y => absurd rfl y) (fun _ => ?_)⟩
    have chd7 := e7 _ _ chd6
    refine ⟨_, rfl, hd, _, _, .ref h1, rfl, rfl, .of chd7, rfl, _, rfl, hd, _, _, .ref h2, rfl, rfl, .of chd7, rfl, h1, h2, ps, us, rfl, hT1.ex e7, hT2.ex e7, hg, fun H8 e8 => ?_⟩
    have hAB : (!decide (dueS ps us = "")) = (!decide (V.str (dueS ps us) = V.str "")) := by
      congr 1
      exact decide_eq_decide.mpr ⟨congrArg V.str, V.str.inj⟩
    refine ⟨_, rfl, rfl, rfl, _, rfl, iteDN (fun y => absurd (congrArg V.bl hAB) y) (fun _ => ?_)⟩
    have ex68 := e7.tr e8
    refine ⟨_, rfl, _, rfl, _, rfl, len63 (by show 2 ≤ _; decide), fun l9 hl9 => ?_⟩
    (generalize hh : upd H8 l9 _ = H9; have e9 : Ex H8 H9 := (by rw [← hh]; exact Ex.nw hl9); have c9 := (show H9 l9 = some _ by rw [← hh]; exact upd_same); clear hh)
    have ex69 := ex68.tr e9
    have chd9 := ex69 _ _ chd6
    refine ⟨twoD ps us, twoD ps us, .lst (.of chd9) (.cons (till_dp (hT1.ex ex69)) (.cons (till_dp (hT2.ex ex69)) .nil)), .lst (.of c9) (.cons (till_dp (hTt.ex ex69)) (.cons (till_dp (hTu.ex ex69)) .nil)), shaped_two ps us, shaped_two ps us, ?_⟩
    rw [eqv_of_shaped (shaped_two ps us)]
    refine ⟨_, rfl, iteF ?_⟩
    refine ⟨_, rfl, rfl, _, rfl, iteDN (fun _ => q _) (fun hz => ?_)⟩
    have hdue : dueS ps us = "" := V.str.inj hz
    have hle : worthP ps + worthP us ≤ 1500 := by
      have h0 := hdue
      unfold dueS at h0
      split at h0
      · exact absurd h0 (by decide)
      · split at h0
        · exact absurd h0 (by decide)
        · omega
    have wp := worthP_nn (us := ps) fun p hp => by have := hg.vp p hp; omega
    have wu := worthP_nn (us := us) fun p hp => by have := hg.vu p hp; omega
    have fp : Fits ps := ⟨by omega, fun p hp => by
      have h0 := hg.vp p hp
      have h1 := worthP_ge (fun p hp => by have := hg.vp p hp; omega) hp
      have h2 : p.2 ≤ p.1 * p.2 := le_mul_of h0.1 h0.2.2.1
      exact ⟨by omega, by omega, h0.2.2.1, by omega⟩⟩
    have fu : Fits us := ⟨by omega, fun p hp => by
      have h0 := hg.vu p hp
      have h1 := worthP_ge (fun p hp => by have := hg.vu p hp; omega) hp
      have h2 : p.2 ≤ p.1 * p.2 := le_mul_of h0.1 h0.2.2.1
      exact ⟨by omega, by omega, h0.2.2.1, by omega⟩⟩
    -- the scales
    refine ⟨_, rfl, hd, _, _, .ref h1, rfl, rfl, .of chd9, rfl, _, rfl, hd, _, _, .ref h2, rfl, rfl, .of chd9, rfl, h1, h2, ps, us, rfl, hT1.ex ex69, hT2.ex ex69, hg, fun z => absurd (hdue.symm.trans z) (by decide), fun z => absurd (hdue.symm.trans z) (by decide), fun _ => ?_⟩
    intro R as H10 e10 hfr hnd eR hrows
    have ex60 := ex69.tr e10
    refine ⟨_, rfl, _, rfl, _, rfl, R, t, u, as, ps, us, rfl, eR, hrows, hTt.ex ex60, hTu.ex ex60, fp, fu, by omega, fun H11 e11 => ⟨true, rfl, iteF ?_⟩⟩
    have eR11 := e11 _ _ eR
    have hrows11 := hrows.ex e11
    have hasl : as.length = ps.length + 1 := by
      rw [hrows11.len]
      show (rowsL _ _).length = _
      rw [rowsL_len, kindsOf_len]
    generalize hRS : scalesOf ps us = RS at hrows hrows11
    have hat : ∀ k, k ≤ ps.length → ∃ r, RS[k]? = some r ∧ r.length = lowOf ps + lowOf us + 1 := fun k hk => by
      rw [← hRS]
      exact ⟨_, rowsL_at _ _ (by rw [kindsOf_len]; exact hk), by rw [lastL_len, row0L_len]⟩
    have hlow : lowOf ps + lowOf us ≤ 1500 := by
      unfold lowOf
      omega
    -- kept
    refine ⟨_, rfl, R, rfl, ⟨_, .of eR11⟩, fun KP hKP => lc_list (xs := as.map V.ref) (fun i H' => ∃ bs, Ex H11 H' ∧ H' KP = some (.lst (bs.map V.ref)) ∧ RowsAt H' bs (RS.take i) ∧ (∀ x ∈ bs, H11 x = none) ∧ KP ∉ bs ∧ bs.length = i)
      ⟨[], Ex.nw hKP, upd_same, .nil, by simp, by simp, rfl⟩ (fun i H' _ h => by
        obtain ⟨_, e, _⟩ := h
        exact .of (e _ _ eR11)) ?_ ?_⟩
    · rintro i x H' hx ⟨bs, ex, eK, hb, hf, hkb, hbl⟩
      rw [List.getElem?_map] at hx
      obtain ⟨b, hb1, rfl⟩ := Option.map_eq_some_iff.mp hx
      obtain ⟨r, hr1, er⟩ := hrows11.getA hb1
      have hi : i < as.length := (List.getElem?_eq_some_iff.mp hb1).1
      refine ⟨rfl, t_yes ?_⟩
      refine ⟨_, rfl, b, _, rfl, .inl (.of (ex _ _ er)), fun l hl => ?_⟩
      have nKl : KP ≠ l := ne_of_none eK hl
      have hnk : KP ∉ bs ++ [l] := fun z => by
        rcases List.mem_append.mp z with z | z
        · exact hkb z
        · exact nKl (List.mem_singleton.mp z)
      refine ⟨_, by rw [upd_ne nKl]; exact eK, len63' (by rw [List.length_map]; omega), bs ++ [l], Ex.mu (ex.tr (Ex.nw hl)) hKP, by rw [upd_same, List.map_append]; rfl, ?_, ?_, hnk, by rw [List.length_append, hbl]; rfl⟩
      · rw [take_snoc hr1]
        exact RowsAt.up hnk (RowsAt.snoc (hb.ex (Ex.nw hl)) upd_same)
      · intro x hx
        rcases List.mem_append.mp hx with z | z
        · exact hf x z
        · rw [List.mem_singleton.mp z]
          exact none_back ex hl
    rintro H12 ⟨bs, ex12, eK, hb, hf, hkb, hbl⟩
    rw [List.take_of_length_le (by rw [List.length_map, hrows11.len]; exact Nat.le_refl _)] at hb
    have eR12 := ex12 _ _ eR11
    have hrows12 := hrows11.ex ex12
    have ex62 := (ex60.tr e11).tr ex12
    have ex02 : Ex H H12 := (ex2.tr ex26).tr ex62
    have hpos : 0 < ((as.map V.ref).length : Int) := by rw [List.length_map]; omega
    refine ⟨_, rfl, a, ns, 5, rfl, ex02.seq hS, _, rfl, R, _, rfl, .inl (.of eR12), _, _, rfl, rfl, hpos, ?_⟩
    have b1 : 0 ≤ cell ns 5 % ((as.map V.ref).length : Int) := Int.emod_nonneg _ (by omega)
    have b2 : cell ns 5 % ((as.map V.ref).length : Int) < ((as.map V.ref).length : Int) := Int.emod_lt_of_pos _ hpos
    obtain ⟨k, hk⟩ : ∃ k : Nat, cell ns 5 % ((as.map V.ref).length : Int) = (k : Int) := ⟨_, (Int.toNat_of_nonneg b1).symm⟩
    have hkl : k < as.length := by rw [List.length_map] at b2 hk; omega
    have hx1 := List.getElem?_eq_getElem hkl
    generalize as[k] = x at hx1
    obtain ⟨rk, hrk, exr⟩ := hrows12.getA hx1
    have hxm : x ∈ as := List.mem_of_getElem? hx1
    have hrl : rk.length ≤ 1501 := by
      obtain ⟨r, h1, h2⟩ := hat k (by omega)
      rw [hrk] at h1
      cases h1
      omega
    have hndas := (List.nodup_cons.mp hnd).2
    have hRas : R ∉ as := (List.nodup_cons.mp hnd).1
    refine ⟨_, rfl, _, rfl, R, _, _, .ref x, rfl, rfl, .of eR12, at_of hk (by rw [List.getElem?_map, hx1]; rfl), .inl ⟨rfl, _, .of exr⟩, x, _, _, rfl, rfl, exr, len63' (by rw [List.length_map]; omega), ?_⟩
    -- what is another than the rows
    have oth : ∀ y ∈ as, H9 y = none := fun y hy => hfr y (List.mem_cons_of_mem _ hy)
    have n_of : ∀ {q : Addr} {o : HO} {y : Addr}, H9 q = some o → y ∈ as → q ≠ y := fun {q o y} hq hy z => by
      have := oth y hy
      rw [← z, hq] at this
      cases this
    have nbs : ∀ y ∈ as, y ∉ bs := fun y hy z => by
      have h1 := hf y z
      obtain ⟨o, ho⟩ := hrows11.mem hy
      rw [ho] at h1
      cases h1
    have nK : ∀ y ∈ as, KP ≠ y := fun y hy z => by
      obtain ⟨o, ho⟩ := hrows11.mem hy
      rw [← z, hKP] at ho
      cases ho
    have hxR : R ≠ x := fun z => hRas (z ▸ hxm)
    generalize hH13 : upd H12 x (.lst (rk.map vO ++ [.int 9])) = H13
    have e13x : H13 x = some (.lst (rk.map vO ++ [.int 9])) := by rw [← hH13]; exact upd_same
    have e13 : ∀ y, y ≠ x → H13 y = H12 y := fun y hy => by rw [← hH13]; exact upd_ne hy
    have eR13 : H13 R = some (.lst (as.map V.ref)) := (e13 R hxR).trans eR12
    have eK13 : H13 KP = some (.lst (bs.map V.ref)) := (e13 KP (nK x hxm)).trans eK
    have hb13 : RowsAt H13 bs RS := hH13 ▸ hb.up (nbs x hxm)
    have up13 : ∀ {us : List V} {rs : List (Int × Int)}, Prs H12 us rs → Prs H13 us rs := fun h => hH13 ▸ h.up (by intro bs z; rw [exr] at z; cases z)
    have hp13 := up13 ((hp6.ex ex62))
    have hq13 := up13 ((hq6.ex ex62))
    have chd13 : H13 hd = some (.lst [.ref h1, .ref h2]) := (e13 hd (n_of chd9 hxm)).trans (ex62 _ _ chd6)
    have ch113 : H13 h1 = some (.lst xs) := (e13 h1 (n_of (ex69 _ _ ch16) hxm)).trans (ex62 _ _ ch16)
    have ch213 : H13 h2 = some (.lst ys) := (e13 h2 (n_of (ex69 _ _ ch26) hxm)).trans (ex62 _ _ ch26)
    -- the others stand
    refine ⟨_, rfl, R, _, rfl, .inl (.of eR13), _, rfl, by rw [List.length_map]; omega, by rw [List.length_map]; omega, ?_⟩
    refine for_range (fun i σ H9 => ∃ y10, σ = [some (.ref a), some (.ref l), some (.ref t), some (.ref u), some (.ref hd), some (.str (dueS ps us)), y6, some (.ref R), some (.ref KP), some (.int (k : Int)), y10, none, none] ∧ H9 = H13) ⟨_, by rw [← hk]; rfl, rfl⟩ ?_ ?_
    · rintro i σ H14 hi ⟨y10, rfl, rfl⟩
      have hi' : i < as.length := by rw [List.length_map] at hi; omega
      obtain ⟨r, hrow, _⟩ := hat i (by omega)
      obtain ⟨uu, iu, hu1, eu'⟩ := at_row hrows12 (i := 0 + (i : Int)) (by omega) hrow
      obtain ⟨vv, iv, hv1, ev⟩ := at_row hb13 (i := 0 + (i : Int)) (by omega) hrow
      refine ⟨_, rfl, _, rfl, rfl, _, rfl, iteVN (fun ne => ?_) (fun _ => iteF ⟨_, rfl, rfl⟩)⟩
      have hux : uu ≠ x := fun z => by
        subst z
        have := nodup_at hndas hu1 hx1
        omega
      refine ⟨_, rfl, _, rfl, R, _, _, _, rfl, rfl, .of eR13, iu, _, rfl, _, rfl, KP, _, _, _, rfl, rfl, .of eK13, iv, ?_⟩
      refine ⟨_, _, row_dp (K := K) (.of ((e13 uu hux).trans eu')), row_dp (K := K) (.of ev), shaped_row _, shaped_row _, ?_⟩
      rw [eqv_of_shaped (shaped_row _)]
      exact ⟨_, rfl, iteF ⟨_, rfl, rfl⟩⟩
    rintro σ H14 ⟨y10, rfl, rfl⟩
    obtain ⟨r0, hr0, hr0l⟩ := hat 0 (Nat.zero_le _)
    obtain ⟨z, iz, hz1, ez⟩ := at_row hrows12 (i := 0) (k := 0) rfl hr0
    have hzm : z ∈ as := List.mem_of_getElem? hz1
    obtain ⟨zs, ezs, hzs⟩ : ∃ zs, H14 z = some (.lst zs) ∧ 0 < zs.length := by
      by_cases e : z = x
      · exact ⟨_, e ▸ e13x, by simp⟩
      · exact ⟨_, (e13 z e).trans ez, by rw [List.length_map]; omega⟩
    refine ⟨_, rfl, R, _, _, .ref z, rfl, rfl, .of eR13, iz, z, zs, 0, 0, rfl, rfl, ezs, Evl.ixN_nat hzs, ?_⟩
    generalize hH15 : upd H14 z (.lst (zs.set 0 (.int 9))) = H15
    have e15 : ∀ y, y ≠ z → H15 y = H14 y := fun y hy => by rw [← hH15]; exact upd_ne hy
    have eK15 : H15 KP = some (.lst (bs.map V.ref)) := (e15 KP (nK z hzm)).trans eK13
    have hb15 : RowsAt H15 bs RS := hH15 ▸ hb13.up (nbs z hzm)
    have up15 : ∀ {us : List V} {rs : List (Int × Int)}, Prs H14 us rs → Prs H15 us rs := fun h => hH15 ▸ h.up (by intro bs e; rw [ezs] at e; cases e)
    have chd15 : H15 hd = some (.lst [.ref h1, .ref h2]) := (e15 hd (n_of chd9 hzm)).trans chd13
    have hT15 : Till K H15 h1 ps := ⟨xs, .of ((e15 h1 (n_of (ex69 _ _ ch16) hzm)).trans ch113), up15 hp13⟩
    have hU15 : Till K H15 h2 us := ⟨ys, .of ((e15 h2 (n_of (ex69 _ _ ch26) hzm)).trans ch213), up15 hq13⟩
    refine ⟨_, rfl, hd, _, _, .ref h1, rfl, rfl, .of chd15, rfl, _, rfl, hd, _, _, .ref h2, rfl, rfl, .of chd15, rfl, h1, h2, ps, us, rfl, hT15, hU15, hg, fun z => absurd (hdue.symm.trans z) (by decide), fun z => absurd (hdue.symm.trans z) (by decide), fun _ => ?_⟩
    intro R4 as4 H16 e16 _ _ eR4 hrows4
    rw [hRS] at hrows4
    refine ⟨_, rfl, _, _, rows_dp (K := K) (.of eR4) hrows4, rows_dp (K := K) (.of (e16 _ _ eK15)) (hb15.ex e16), shaped_rows _, shaped_rows _, ?_⟩
    rw [eqv_of_shaped (shaped_rows _)]
    exact q _
theorem law_start {K : PySem.W.Frag} {H : Hp} {a : Addr} {ns : List Int} (hl : ns.length ≤ 63) (hO : Only H) (hS : SqL K H a (ns.map V.int)) : spLaw K [.ref a] H (fun v _ => v = .bl true) fun _ _ _ => False :=
  ⟨a, ns, rfl, hS, fun _ => rfl⟩
end
theorem tx_mk {K : PySem.W.Frag} {h : Heap} {mg : Str → Option Value} (X : K.In h) (G : h.Ns mainGlobals mg) {c_TillError : Addr} {c_NoTill : Addr} {c_NoKind : Addr} {c_Twice : Addr} {c_NoCount : Addr} {c_NoSum : Addr} {c_TooLittle : Addr} {c_NoChange : Addr} {c_TooFew : Addr} {c_StillHeld : Addr} {c_NoDeed : Addr} {a_worth : Addr} {od_0 an_0 : Option Addr} {sl_0 : Array (Option Value)} {oc_0 kV_0 dc_0 pm_0 cd_0 ct_0 : Value} {a_with_kind : Addr} {od_1 an_1 : Option Addr} {sl_1 : Array (Option Value)} {oc_1 kV_1 dc_1 pm_1 cd_1 ct_1 : Value} {a__bundles : Addr} {od_2 an_2 : Option Addr} {sl_2 : Array (Option Value)} {oc_2 kV_2 dc_2 pm_2 cd_2 ct_2 : Value} {a__with_bundle : Addr} {od_3 an_3 : Option Addr} {sl_3 : Array (Option Value)} {oc_3 kV_3 dc_3 pm_3 cd_3 ct_3 : Value} {a_scales : Addr} {od_4 an_4 : Option Addr} {sl_4 : Array (Option Value)} {oc_4 kV_4 dc_4 pm_4 cd_4 ct_4 : Value} {a__check_purse : Addr} {od_5 an_5 : Option Addr} {sl_5 : Array (Option Value)} {oc_5 kV_5 dc_5 pm_5 cd_5 ct_5 : Value} {a__with_numbers : Addr} {od_6 an_6 : Option Addr} {sl_6 : Array (Option Value)} {oc_6 kV_6 dc_6 pm_6 cd_6 ct_6 : Value} {a__law_cell_at : Addr} {od_7 an_7 : Option Addr} {sl_7 : Array (Option Value)} {oc_7 kV_7 dc_7 pm_7 cd_7 ct_7 : Value} {a__law_whole : Addr} {od_8 an_8 : Option Addr} {sl_8 : Array (Option Value)} {oc_8 kV_8 dc_8 pm_8 cd_8 ct_8 : Value} {a__law_mixed : Addr} {od_9 an_9 : Option Addr} {sl_9 : Array (Option Value)} {oc_9 kV_9 dc_9 pm_9 cd_9 ct_9 : Value} {a__law_value : Addr} {od_10 an_10 : Option Addr} {sl_10 : Array (Option Value)} {oc_10 kV_10 dc_10 pm_10 cd_10 ct_10 : Value} {a__law_till_and_purse : Addr} {od_11 an_11 : Option Addr} {sl_11 : Array (Option Value)} {oc_11 kV_11 dc_11 pm_11 cd_11 ct_11 : Value} {a__law_own : Addr} {od_12 an_12 : Option Addr} {sl_12 : Array (Option Value)} {oc_12 kV_12 dc_12 pm_12 cd_12 ct_12 : Value} {a__law_total : Addr} {od_13 an_13 : Option Addr} {sl_13 : Array (Option Value)} {oc_13 kV_13 dc_13 pm_13 cd_13 ct_13 : Value} {a__law_lightest : Addr} {od_14 an_14 : Option Addr} {sl_14 : Array (Option Value)} {oc_14 kV_14 dc_14 pm_14 cd_14 ct_14 : Value} {a__law_row : Addr} {od_15 an_15 : Option Addr} {sl_15 : Array (Option Value)} {oc_15 kV_15 dc_15 pm_15 cd_15 ct_15 : Value} {a__law_scaled : Addr} {od_16 an_16 : Option Addr} {sl_16 : Array (Option Value)} {oc_16 kV_16 dc_16 pm_16 cd_16 ct_16 : Value} {a__law_tried : Addr} {od_17 an_17 : Option Addr} {sl_17 : Array (Option Value)} {oc_17 kV_17 dc_17 pm_17 cd_17 ct_17 : Value} {a__law_any : Addr} {od_18 an_18 : Option Addr} {sl_18 : Array (Option Value)} {oc_18 kV_18 dc_18 pm_18 cd_18 ct_18 : Value} {a__law_odd : Addr} {od_19 an_19 : Option Addr} {sl_19 : Array (Option Value)} {oc_19 kV_19 dc_19 pm_19 cd_19 ct_19 : Value} {a_law : Addr} {od_20 an_20 : Option Addr} {sl_20 : Array (Option Value)} {oc_20 kV_20 dc_20 pm_20 cd_20 ct_20 : Value} {tk_MOST_WORTH : Tok}
    (g_TillError : PySem.W.nsIn K mainGlobals "TillError" = some (some (.ref c_TillError)))
    (x_TillError : PySem.W.excIn K c_TillError [.type "ValueError", .type "Exception", .type "BaseException", .type "object"] "ValueError.__new__" = true)
    (k_TillError : PySem.W.keepIn K (.ref c_TillError) = true)
    (b_TillError : PySem.W.subIn K (.ref c_TillError) (.type "BaseException") = some true)
    (t_TillError : PySem.W.typeIn K (.ref c_TillError) = some (.type "type"))
    (i_TillError : PySem.W.isClsIn K c_TillError = true)
    (g_NoTill : PySem.W.nsIn K mainGlobals "NoTill" = some (some (.ref c_NoTill)))
    (x_NoTill : PySem.W.excIn K c_NoTill [.type "ValueError", .type "Exception", .type "BaseException", .type "object"] "ValueError.__new__" = true)
    (k_NoTill : PySem.W.keepIn K (.ref c_NoTill) = true)
    (b_NoTill : PySem.W.subIn K (.ref c_NoTill) (.type "BaseException") = some true)
    (t_NoTill : PySem.W.typeIn K (.ref c_NoTill) = some (.type "type"))
    (i_NoTill : PySem.W.isClsIn K c_NoTill = true)
    (g_NoKind : PySem.W.nsIn K mainGlobals "NoKind" = some (some (.ref c_NoKind)))
    (x_NoKind : PySem.W.excIn K c_NoKind [.type "ValueError", .type "Exception", .type "BaseException", .type "object"] "ValueError.__new__" = true)
    (k_NoKind : PySem.W.keepIn K (.ref c_NoKind) = true)
    (b_NoKind : PySem.W.subIn K (.ref c_NoKind) (.type "BaseException") = some true)
    (t_NoKind : PySem.W.typeIn K (.ref c_NoKind) = some (.type "type"))
    (i_NoKind : PySem.W.isClsIn K c_NoKind = true)
    (g_Twice : PySem.W.nsIn K mainGlobals "Twice" = some (some (.ref c_Twice)))
    (x_Twice : PySem.W.excIn K c_Twice [.type "ValueError", .type "Exception", .type "BaseException", .type "object"] "ValueError.__new__" = true)
    (k_Twice : PySem.W.keepIn K (.ref c_Twice) = true)
    (b_Twice : PySem.W.subIn K (.ref c_Twice) (.type "BaseException") = some true)
    (t_Twice : PySem.W.typeIn K (.ref c_Twice) = some (.type "type"))
    (i_Twice : PySem.W.isClsIn K c_Twice = true)
    (g_NoCount : PySem.W.nsIn K mainGlobals "NoCount" = some (some (.ref c_NoCount)))
    (x_NoCount : PySem.W.excIn K c_NoCount [.type "ValueError", .type "Exception", .type "BaseException", .type "object"] "ValueError.__new__" = true)
    (k_NoCount : PySem.W.keepIn K (.ref c_NoCount) = true)
    (b_NoCount : PySem.W.subIn K (.ref c_NoCount) (.type "BaseException") = some true)
    (t_NoCount : PySem.W.typeIn K (.ref c_NoCount) = some (.type "type"))
    (i_NoCount : PySem.W.isClsIn K c_NoCount = true)
    (g_NoSum : PySem.W.nsIn K mainGlobals "NoSum" = some (some (.ref c_NoSum)))
    (x_NoSum : PySem.W.excIn K c_NoSum [.type "ValueError", .type "Exception", .type "BaseException", .type "object"] "ValueError.__new__" = true)
    (k_NoSum : PySem.W.keepIn K (.ref c_NoSum) = true)
    (b_NoSum : PySem.W.subIn K (.ref c_NoSum) (.type "BaseException") = some true)
    (t_NoSum : PySem.W.typeIn K (.ref c_NoSum) = some (.type "type"))
    (i_NoSum : PySem.W.isClsIn K c_NoSum = true)
    (g_TooLittle : PySem.W.nsIn K mainGlobals "TooLittle" = some (some (.ref c_TooLittle)))
    (x_TooLittle : PySem.W.excIn K c_TooLittle [.type "ValueError", .type "Exception", .type "BaseException", .type "object"] "ValueError.__new__" = true)
    (k_TooLittle : PySem.W.keepIn K (.ref c_TooLittle) = true)
    (b_TooLittle : PySem.W.subIn K (.ref c_TooLittle) (.type "BaseException") = some true)
    (t_TooLittle : PySem.W.typeIn K (.ref c_TooLittle) = some (.type "type"))
    (i_TooLittle : PySem.W.isClsIn K c_TooLittle = true)
    (g_NoChange : PySem.W.nsIn K mainGlobals "NoChange" = some (some (.ref c_NoChange)))
    (x_NoChange : PySem.W.excIn K c_NoChange [.type "ValueError", .type "Exception", .type "BaseException", .type "object"] "ValueError.__new__" = true)
    (k_NoChange : PySem.W.keepIn K (.ref c_NoChange) = true)
    (b_NoChange : PySem.W.subIn K (.ref c_NoChange) (.type "BaseException") = some true)
    (t_NoChange : PySem.W.typeIn K (.ref c_NoChange) = some (.type "type"))
    (i_NoChange : PySem.W.isClsIn K c_NoChange = true)
    (g_TooFew : PySem.W.nsIn K mainGlobals "TooFew" = some (some (.ref c_TooFew)))
    (x_TooFew : PySem.W.excIn K c_TooFew [.type "ValueError", .type "Exception", .type "BaseException", .type "object"] "ValueError.__new__" = true)
    (k_TooFew : PySem.W.keepIn K (.ref c_TooFew) = true)
    (b_TooFew : PySem.W.subIn K (.ref c_TooFew) (.type "BaseException") = some true)
    (t_TooFew : PySem.W.typeIn K (.ref c_TooFew) = some (.type "type"))
    (i_TooFew : PySem.W.isClsIn K c_TooFew = true)
    (g_StillHeld : PySem.W.nsIn K mainGlobals "StillHeld" = some (some (.ref c_StillHeld)))
    (x_StillHeld : PySem.W.excIn K c_StillHeld [.type "ValueError", .type "Exception", .type "BaseException", .type "object"] "ValueError.__new__" = true)
    (k_StillHeld : PySem.W.keepIn K (.ref c_StillHeld) = true)
    (b_StillHeld : PySem.W.subIn K (.ref c_StillHeld) (.type "BaseException") = some true)
    (t_StillHeld : PySem.W.typeIn K (.ref c_StillHeld) = some (.type "type"))
    (i_StillHeld : PySem.W.isClsIn K c_StillHeld = true)
    (g_NoDeed : PySem.W.nsIn K mainGlobals "NoDeed" = some (some (.ref c_NoDeed)))
    (x_NoDeed : PySem.W.excIn K c_NoDeed [.type "ValueError", .type "Exception", .type "BaseException", .type "object"] "ValueError.__new__" = true)
    (k_NoDeed : PySem.W.keepIn K (.ref c_NoDeed) = true)
    (b_NoDeed : PySem.W.subIn K (.ref c_NoDeed) (.type "BaseException") = some true)
    (t_NoDeed : PySem.W.typeIn K (.ref c_NoDeed) = some (.type "type"))
    (i_NoDeed : PySem.W.isClsIn K c_NoDeed = true)
    (u_NoSum_NoKind : PySem.W.subIn K (.ref c_NoSum) (.ref c_NoKind) = some false)
    (u_NoSum_NoSum : PySem.W.subIn K (.ref c_NoSum) (.ref c_NoSum) = some true)
    (u_NoSum_TillError : PySem.W.subIn K (.ref c_NoSum) (.ref c_TillError) = some true)
    (u_NoSum_NoChange : PySem.W.subIn K (.ref c_NoSum) (.ref c_NoChange) = some false)
    (u_NoSum_NoCount : PySem.W.subIn K (.ref c_NoSum) (.ref c_NoCount) = some false)
    (u_NoSum_NoDeed : PySem.W.subIn K (.ref c_NoSum) (.ref c_NoDeed) = some false)
    (u_NoSum_NoTill : PySem.W.subIn K (.ref c_NoSum) (.ref c_NoTill) = some false)
    (u_NoSum_StillHeld : PySem.W.subIn K (.ref c_NoSum) (.ref c_StillHeld) = some false)
    (u_NoSum_TooFew : PySem.W.subIn K (.ref c_NoSum) (.ref c_TooFew) = some false)
    (u_NoSum_TooLittle : PySem.W.subIn K (.ref c_NoSum) (.ref c_TooLittle) = some false)
    (u_NoSum_Twice : PySem.W.subIn K (.ref c_NoSum) (.ref c_Twice) = some false)
    (u_NoKind_NoKind : PySem.W.subIn K (.ref c_NoKind) (.ref c_NoKind) = some true)
    (u_NoKind_NoSum : PySem.W.subIn K (.ref c_NoKind) (.ref c_NoSum) = some false)
    (u_NoKind_TillError : PySem.W.subIn K (.ref c_NoKind) (.ref c_TillError) = some true)
    (u_NoKind_NoChange : PySem.W.subIn K (.ref c_NoKind) (.ref c_NoChange) = some false)
    (u_NoKind_NoCount : PySem.W.subIn K (.ref c_NoKind) (.ref c_NoCount) = some false)
    (u_NoKind_NoDeed : PySem.W.subIn K (.ref c_NoKind) (.ref c_NoDeed) = some false)
    (u_NoKind_NoTill : PySem.W.subIn K (.ref c_NoKind) (.ref c_NoTill) = some false)
    (u_NoKind_StillHeld : PySem.W.subIn K (.ref c_NoKind) (.ref c_StillHeld) = some false)
    (u_NoKind_TooFew : PySem.W.subIn K (.ref c_NoKind) (.ref c_TooFew) = some false)
    (u_NoKind_TooLittle : PySem.W.subIn K (.ref c_NoKind) (.ref c_TooLittle) = some false)
    (u_NoKind_Twice : PySem.W.subIn K (.ref c_NoKind) (.ref c_Twice) = some false)
    (hg_NoSum : PySem.W.findIn K (.ref c_NoSum) "__getattribute__" = some (some (.builtin "BaseException.__getattribute__")))
    (hk_NoSum : PySem.W.findIn K (.ref c_NoSum) "__getattr__" = some none)
    (hd_NoSum : PySem.W.hasDictIn K c_NoSum = true)
    (ha_NoSum : PySem.W.findIn K (.ref c_NoSum) "__class__" = some (some (.builtin "object.__class__")))
    (hm_NoSum : PySem.W.mroIn K c_NoSum (.type "object") = some true)
    (z_NoSum : PySem.W.subIn K (.ref c_NoSum) (.type "ValueError") = some true)
    (n_NoSum_NoChange : c_NoSum ≠ c_NoChange)
    (n_NoSum_NoCount : c_NoSum ≠ c_NoCount)
    (n_NoSum_NoDeed : c_NoSum ≠ c_NoDeed)
    (n_NoSum_NoTill : c_NoSum ≠ c_NoTill)
    (n_NoSum_StillHeld : c_NoSum ≠ c_StillHeld)
    (n_NoSum_TooFew : c_NoSum ≠ c_TooFew)
    (n_NoSum_TooLittle : c_NoSum ≠ c_TooLittle)
    (n_NoSum_Twice : c_NoSum ≠ c_Twice)
    (hg_NoKind : PySem.W.findIn K (.ref c_NoKind) "__getattribute__" = some (some (.builtin "BaseException.__getattribute__")))
    (hk_NoKind : PySem.W.findIn K (.ref c_NoKind) "__getattr__" = some none)
    (hd_NoKind : PySem.W.hasDictIn K c_NoKind = true)
    (ha_NoKind : PySem.W.findIn K (.ref c_NoKind) "__class__" = some (some (.builtin "object.__class__")))
    (hm_NoKind : PySem.W.mroIn K c_NoKind (.type "object") = some true)
    (z_NoKind : PySem.W.subIn K (.ref c_NoKind) (.type "ValueError") = some true)
    (n_NoKind_NoChange : c_NoKind ≠ c_NoChange)
    (n_NoKind_NoCount : c_NoKind ≠ c_NoCount)
    (n_NoKind_NoDeed : c_NoKind ≠ c_NoDeed)
    (n_NoKind_NoTill : c_NoKind ≠ c_NoTill)
    (n_NoKind_StillHeld : c_NoKind ≠ c_StillHeld)
    (n_NoKind_TooFew : c_NoKind ≠ c_TooFew)
    (n_NoKind_TooLittle : c_NoKind ≠ c_TooLittle)
    (n_NoKind_Twice : c_NoKind ≠ c_Twice)
    (hn : PySem.W.specialIn K (.builtin "object.__class__") "__get__" = some (some (.builtin "getset_descriptor.__get__")))
    (ht : PySem.W.takesIn K (.builtin "object.__class__") = some true)
    (g_worth : PySem.W.nsIn K mainGlobals "worth" = some (some (.ref a_worth)))
    (l_worth : K.lookup a_worth = some ⟨oc_0, od_0, .func (PySem.W.fnOf "worth" "worth" (defArgs s_worth) (defBody s_worth) (defScope s_worth) .none kV_0 dc_0 pm_0 an_0 cd_0 ct_0), sl_0⟩)
    (o_worth : PySem.W.codeIn K cd_0 "worth" = true)
    (k_worth : PySem.W.keepIn K (.ref a_worth) = true)
    (g_with_kind : PySem.W.nsIn K mainGlobals "with_kind" = some (some (.ref a_with_kind)))
    (l_with_kind : K.lookup a_with_kind = some ⟨oc_1, od_1, .func (PySem.W.fnOf "with_kind" "with_kind" (defArgs s_with_kind) (defBody s_with_kind) (defScope s_with_kind) .none kV_1 dc_1 pm_1 an_1 cd_1 ct_1), sl_1⟩)
    (o_with_kind : PySem.W.codeIn K cd_1 "with_kind" = true)
    (k_with_kind : PySem.W.keepIn K (.ref a_with_kind) = true)
    (g__bundles : PySem.W.nsIn K mainGlobals "_bundles" = some (some (.ref a__bundles)))
    (l__bundles : K.lookup a__bundles = some ⟨oc_2, od_2, .func (PySem.W.fnOf "_bundles" "_bundles" (defArgs s__bundles) (defBody s__bundles) (defScope s__bundles) .none kV_2 dc_2 pm_2 an_2 cd_2 ct_2), sl_2⟩)
    (o__bundles : PySem.W.codeIn K cd_2 "_bundles" = true)
    (k__bundles : PySem.W.keepIn K (.ref a__bundles) = true)
    (g__with_bundle : PySem.W.nsIn K mainGlobals "_with_bundle" = some (some (.ref a__with_bundle)))
    (l__with_bundle : K.lookup a__with_bundle = some ⟨oc_3, od_3, .func (PySem.W.fnOf "_with_bundle" "_with_bundle" (defArgs s__with_bundle) (defBody s__with_bundle) (defScope s__with_bundle) .none kV_3 dc_3 pm_3 an_3 cd_3 ct_3), sl_3⟩)
    (o__with_bundle : PySem.W.codeIn K cd_3 "_with_bundle" = true)
    (k__with_bundle : PySem.W.keepIn K (.ref a__with_bundle) = true)
    (g_scales : PySem.W.nsIn K mainGlobals "scales" = some (some (.ref a_scales)))
    (l_scales : K.lookup a_scales = some ⟨oc_4, od_4, .func (PySem.W.fnOf "scales" "scales" (defArgs s_scales) (defBody s_scales) (defScope s_scales) .none kV_4 dc_4 pm_4 an_4 cd_4 ct_4), sl_4⟩)
    (o_scales : PySem.W.codeIn K cd_4 "scales" = true)
    (k_scales : PySem.W.keepIn K (.ref a_scales) = true)
    (g__check_purse : PySem.W.nsIn K mainGlobals "_check_purse" = some (some (.ref a__check_purse)))
    (l__check_purse : K.lookup a__check_purse = some ⟨oc_5, od_5, .func (PySem.W.fnOf "_check_purse" "_check_purse" (defArgs s__check_purse) (defBody s__check_purse) (defScope s__check_purse) .none kV_5 dc_5 pm_5 an_5 cd_5 ct_5), sl_5⟩)
    (o__check_purse : PySem.W.codeIn K cd_5 "_check_purse" = true)
    (k__check_purse : PySem.W.keepIn K (.ref a__check_purse) = true)
    (g__with_numbers : PySem.W.nsIn K mainGlobals "_with_numbers" = some (some (.ref a__with_numbers)))
    (l__with_numbers : K.lookup a__with_numbers = some ⟨oc_6, od_6, .func (PySem.W.fnOf "_with_numbers" "_with_numbers" (defArgs s__with_numbers) (defBody s__with_numbers) (defScope s__with_numbers) .none kV_6 dc_6 pm_6 an_6 cd_6 ct_6), sl_6⟩)
    (o__with_numbers : PySem.W.codeIn K cd_6 "_with_numbers" = true)
    (k__with_numbers : PySem.W.keepIn K (.ref a__with_numbers) = true)
    (g__law_cell_at : PySem.W.nsIn K mainGlobals "_law_cell_at" = some (some (.ref a__law_cell_at)))
    (l__law_cell_at : K.lookup a__law_cell_at = some ⟨oc_7, od_7, .func (PySem.W.fnOf "_law_cell_at" "_law_cell_at" (defArgs s__law_cell_at) (defBody s__law_cell_at) (defScope s__law_cell_at) .none kV_7 dc_7 pm_7 an_7 cd_7 ct_7), sl_7⟩)
    (o__law_cell_at : PySem.W.codeIn K cd_7 "_law_cell_at" = true)
    (k__law_cell_at : PySem.W.keepIn K (.ref a__law_cell_at) = true)
    (g__law_whole : PySem.W.nsIn K mainGlobals "_law_whole" = some (some (.ref a__law_whole)))
    (l__law_whole : K.lookup a__law_whole = some ⟨oc_8, od_8, .func (PySem.W.fnOf "_law_whole" "_law_whole" (defArgs s__law_whole) (defBody s__law_whole) (defScope s__law_whole) .none kV_8 dc_8 pm_8 an_8 cd_8 ct_8), sl_8⟩)
    (o__law_whole : PySem.W.codeIn K cd_8 "_law_whole" = true)
    (k__law_whole : PySem.W.keepIn K (.ref a__law_whole) = true)
    (g__law_mixed : PySem.W.nsIn K mainGlobals "_law_mixed" = some (some (.ref a__law_mixed)))
    (l__law_mixed : K.lookup a__law_mixed = some ⟨oc_9, od_9, .func (PySem.W.fnOf "_law_mixed" "_law_mixed" (defArgs s__law_mixed) (defBody s__law_mixed) (defScope s__law_mixed) .none kV_9 dc_9 pm_9 an_9 cd_9 ct_9), sl_9⟩)
    (o__law_mixed : PySem.W.codeIn K cd_9 "_law_mixed" = true)
    (k__law_mixed : PySem.W.keepIn K (.ref a__law_mixed) = true)
    (g__law_value : PySem.W.nsIn K mainGlobals "_law_value" = some (some (.ref a__law_value)))
    (l__law_value : K.lookup a__law_value = some ⟨oc_10, od_10, .func (PySem.W.fnOf "_law_value" "_law_value" (defArgs s__law_value) (defBody s__law_value) (defScope s__law_value) .none kV_10 dc_10 pm_10 an_10 cd_10 ct_10), sl_10⟩)
    (o__law_value : PySem.W.codeIn K cd_10 "_law_value" = true)
    (k__law_value : PySem.W.keepIn K (.ref a__law_value) = true)
    (g__law_till_and_purse : PySem.W.nsIn K mainGlobals "_law_till_and_purse" = some (some (.ref a__law_till_and_purse)))
    (l__law_till_and_purse : K.lookup a__law_till_and_purse = some ⟨oc_11, od_11, .func (PySem.W.fnOf "_law_till_and_purse" "_law_till_and_purse" (defArgs s__law_till_and_purse) (defBody s__law_till_and_purse) (defScope s__law_till_and_purse) .none kV_11 dc_11 pm_11 an_11 cd_11 ct_11), sl_11⟩)
    (o__law_till_and_purse : PySem.W.codeIn K cd_11 "_law_till_and_purse" = true)
    (k__law_till_and_purse : PySem.W.keepIn K (.ref a__law_till_and_purse) = true)
    (g__law_own : PySem.W.nsIn K mainGlobals "_law_own" = some (some (.ref a__law_own)))
    (l__law_own : K.lookup a__law_own = some ⟨oc_12, od_12, .func (PySem.W.fnOf "_law_own" "_law_own" (defArgs s__law_own) (defBody s__law_own) (defScope s__law_own) .none kV_12 dc_12 pm_12 an_12 cd_12 ct_12), sl_12⟩)
    (o__law_own : PySem.W.codeIn K cd_12 "_law_own" = true)
    (k__law_own : PySem.W.keepIn K (.ref a__law_own) = true)
    (g__law_total : PySem.W.nsIn K mainGlobals "_law_total" = some (some (.ref a__law_total)))
    (l__law_total : K.lookup a__law_total = some ⟨oc_13, od_13, .func (PySem.W.fnOf "_law_total" "_law_total" (defArgs s__law_total) (defBody s__law_total) (defScope s__law_total) .none kV_13 dc_13 pm_13 an_13 cd_13 ct_13), sl_13⟩)
    (o__law_total : PySem.W.codeIn K cd_13 "_law_total" = true)
    (k__law_total : PySem.W.keepIn K (.ref a__law_total) = true)
    (g__law_lightest : PySem.W.nsIn K mainGlobals "_law_lightest" = some (some (.ref a__law_lightest)))
    (l__law_lightest : K.lookup a__law_lightest = some ⟨oc_14, od_14, .func (PySem.W.fnOf "_law_lightest" "_law_lightest" (defArgs s__law_lightest) (defBody s__law_lightest) (defScope s__law_lightest) .none kV_14 dc_14 pm_14 an_14 cd_14 ct_14), sl_14⟩)
    (o__law_lightest : PySem.W.codeIn K cd_14 "_law_lightest" = true)
    (k__law_lightest : PySem.W.keepIn K (.ref a__law_lightest) = true)
    (g__law_row : PySem.W.nsIn K mainGlobals "_law_row" = some (some (.ref a__law_row)))
    (l__law_row : K.lookup a__law_row = some ⟨oc_15, od_15, .func (PySem.W.fnOf "_law_row" "_law_row" (defArgs s__law_row) (defBody s__law_row) (defScope s__law_row) .none kV_15 dc_15 pm_15 an_15 cd_15 ct_15), sl_15⟩)
    (o__law_row : PySem.W.codeIn K cd_15 "_law_row" = true)
    (k__law_row : PySem.W.keepIn K (.ref a__law_row) = true)
    (g__law_scaled : PySem.W.nsIn K mainGlobals "_law_scaled" = some (some (.ref a__law_scaled)))
    (l__law_scaled : K.lookup a__law_scaled = some ⟨oc_16, od_16, .func (PySem.W.fnOf "_law_scaled" "_law_scaled" (defArgs s__law_scaled) (defBody s__law_scaled) (defScope s__law_scaled) .none kV_16 dc_16 pm_16 an_16 cd_16 ct_16), sl_16⟩)
    (o__law_scaled : PySem.W.codeIn K cd_16 "_law_scaled" = true)
    (k__law_scaled : PySem.W.keepIn K (.ref a__law_scaled) = true)
    (g__law_tried : PySem.W.nsIn K mainGlobals "_law_tried" = some (some (.ref a__law_tried)))
    (l__law_tried : K.lookup a__law_tried = some ⟨oc_17, od_17, .func (PySem.W.fnOf "_law_tried" "_law_tried" (defArgs s__law_tried) (defBody s__law_tried) (defScope s__law_tried) .none kV_17 dc_17 pm_17 an_17 cd_17 ct_17), sl_17⟩)
    (o__law_tried : PySem.W.codeIn K cd_17 "_law_tried" = true)
    (k__law_tried : PySem.W.keepIn K (.ref a__law_tried) = true)
    (g__law_any : PySem.W.nsIn K mainGlobals "_law_any" = some (some (.ref a__law_any)))
    (l__law_any : K.lookup a__law_any = some ⟨oc_18, od_18, .func (PySem.W.fnOf "_law_any" "_law_any" (defArgs s__law_any) (defBody s__law_any) (defScope s__law_any) .none kV_18 dc_18 pm_18 an_18 cd_18 ct_18), sl_18⟩)
    (o__law_any : PySem.W.codeIn K cd_18 "_law_any" = true)
    (k__law_any : PySem.W.keepIn K (.ref a__law_any) = true)
    (g__law_odd : PySem.W.nsIn K mainGlobals "_law_odd" = some (some (.ref a__law_odd)))
    (l__law_odd : K.lookup a__law_odd = some ⟨oc_19, od_19, .func (PySem.W.fnOf "_law_odd" "_law_odd" (defArgs s__law_odd) (defBody s__law_odd) (defScope s__law_odd) .none kV_19 dc_19 pm_19 an_19 cd_19 ct_19), sl_19⟩)
    (o__law_odd : PySem.W.codeIn K cd_19 "_law_odd" = true)
    (k__law_odd : PySem.W.keepIn K (.ref a__law_odd) = true)
    (g_law : PySem.W.nsIn K mainGlobals "law" = some (some (.ref a_law)))
    (l_law : K.lookup a_law = some ⟨oc_20, od_20, .func (PySem.W.fnOf "law" "law" (defArgs s_law) (defBody s_law) (defScope s_law) .none kV_20 dc_20 pm_20 an_20 cd_20 ct_20), sl_20⟩)
    (o_law : PySem.W.codeIn K cd_20 "law" = true)
    (k_law : PySem.W.keepIn K (.ref a_law) = true)
    (w_MOST_WORTH : PySem.W.nsIn K mainGlobals "MOST_WORTH" = some (some (.int 1500 tk_MOST_WORTH)))
    (m_ValueError : PySem.W.nsIn K mainGlobals "ValueError" = some none)
    (m_abs : PySem.W.nsIn K mainGlobals "abs" = some none)
    (m_bool : PySem.W.nsIn K mainGlobals "bool" = some none)
    (m_dict : PySem.W.nsIn K mainGlobals "dict" = some none)
    (m_int : PySem.W.nsIn K mainGlobals "int" = some none)
    (m_isinstance : PySem.W.nsIn K mainGlobals "isinstance" = some none)
    (m_len : PySem.W.nsIn K mainGlobals "len" = some none)
    (m_list : PySem.W.nsIn K mainGlobals "list" = some none)
    (m_min : PySem.W.nsIn K mainGlobals "min" = some none)
    (m_range : PySem.W.nsIn K mainGlobals "range" = some none)
    (m_sorted : PySem.W.nsIn K mainGlobals "sorted" = some none)
    (m_sum : PySem.W.nsIn K mainGlobals "sum" = some none)
    : ∃ T : Tx K mg, T.a_law = a_law ∧ (∀ (s : Shared) (v : Value), BindsTo s T.d_law ⟨[v], []⟩ [("_law_script", v)]) := by
  have F_worth := fun_mk (st := s_worth) l_worth o_worth k_worth
  have B_worth := F_worth.binds (ps := P_worth) fun _ _ _ _ _ _ us hl => match us, hl with | [_], _ => rfl
  have F_with_kind := fun_mk (st := s_with_kind) l_with_kind o_with_kind k_with_kind
  have B_with_kind := F_with_kind.binds (ps := P_with_kind) fun _ _ _ _ _ _ us hl => match us, hl with | [_, _, _], _ => rfl
  have F__bundles := fun_mk (st := s__bundles) l__bundles o__bundles k__bundles
  have B__bundles := F__bundles.binds (ps := P__bundles) fun _ _ _ _ _ _ us hl => match us, hl with | [_], _ => rfl
  have F__with_bundle := fun_mk (st := s__with_bundle) l__with_bundle o__with_bundle k__with_bundle
  have B__with_bundle := F__with_bundle.binds (ps := P__with_bundle) fun _ _ _ _ _ _ us hl => match us, hl with | [_, _, _], _ => rfl
  have F_scales := fun_mk (st := s_scales) l_scales o_scales k_scales
  have B_scales := F_scales.binds (ps := P_scales) fun _ _ _ _ _ _ us hl => match us, hl with | [_, _], _ => rfl
  have F__check_purse := fun_mk (st := s__check_purse) l__check_purse o__check_purse k__check_purse
  have B__check_purse := F__check_purse.binds (ps := P__check_purse) fun _ _ _ _ _ _ us hl => match us, hl with | [_, _], _ => rfl
  have F__with_numbers := fun_mk (st := s__with_numbers) l__with_numbers o__with_numbers k__with_numbers
  have B__with_numbers := F__with_numbers.binds (ps := P__with_numbers) fun _ _ _ _ _ _ us hl => match us, hl with | [_, _, _, _], _ => rfl
  have F__law_cell_at := fun_mk (st := s__law_cell_at) l__law_cell_at o__law_cell_at k__law_cell_at
  have B__law_cell_at := F__law_cell_at.binds (ps := P__law_cell_at) fun _ _ _ _ _ _ us hl => match us, hl with | [_, _], _ => rfl
  have F__law_whole := fun_mk (st := s__law_whole) l__law_whole o__law_whole k__law_whole
  have B__law_whole := F__law_whole.binds (ps := P__law_whole) fun _ _ _ _ _ _ us hl => match us, hl with | [_], _ => rfl
  have F__law_mixed := fun_mk (st := s__law_mixed) l__law_mixed o__law_mixed k__law_mixed
  have B__law_mixed := F__law_mixed.binds (ps := P__law_mixed) fun _ _ _ _ _ _ us hl => match us, hl with | [_, _], _ => rfl
  have F__law_value := fun_mk (st := s__law_value) l__law_value o__law_value k__law_value
  have B__law_value := F__law_value.binds (ps := P__law_value) fun _ _ _ _ _ _ us hl => match us, hl with | [_, _], _ => rfl
  have F__law_till_and_purse := fun_mk (st := s__law_till_and_purse) l__law_till_and_purse o__law_till_and_purse k__law_till_and_purse
  have B__law_till_and_purse := F__law_till_and_purse.binds (ps := P__law_till_and_purse) fun _ _ _ _ _ _ us hl => match us, hl with | [_, _], _ => rfl
  have F__law_own := fun_mk (st := s__law_own) l__law_own o__law_own k__law_own
  have B__law_own := F__law_own.binds (ps := P__law_own) fun _ _ _ _ _ _ us hl => match us, hl with | [_, _], _ => rfl
  have F__law_total := fun_mk (st := s__law_total) l__law_total o__law_total k__law_total
  have B__law_total := F__law_total.binds (ps := P__law_total) fun _ _ _ _ _ _ us hl => match us, hl with | [_], _ => rfl
  have F__law_lightest := fun_mk (st := s__law_lightest) l__law_lightest o__law_lightest k__law_lightest
  have B__law_lightest := F__law_lightest.binds (ps := P__law_lightest) fun _ _ _ _ _ _ us hl => match us, hl with | [_, _, _, _], _ => rfl
  have F__law_row := fun_mk (st := s__law_row) l__law_row o__law_row k__law_row
  have B__law_row := F__law_row.binds (ps := P__law_row) fun _ _ _ _ _ _ us hl => match us, hl with | [_, _], _ => rfl
  have F__law_scaled := fun_mk (st := s__law_scaled) l__law_scaled o__law_scaled k__law_scaled
  have B__law_scaled := F__law_scaled.binds (ps := P__law_scaled) fun _ _ _ _ _ _ us hl => match us, hl with | [_, _, _], _ => rfl
  have F__law_tried := fun_mk (st := s__law_tried) l__law_tried o__law_tried k__law_tried
  have B__law_tried := F__law_tried.binds (ps := P__law_tried) fun _ _ _ _ _ _ us hl => match us, hl with | [_, _], _ => rfl
  have F__law_any := fun_mk (st := s__law_any) l__law_any o__law_any k__law_any
  have B__law_any := F__law_any.binds (ps := P__law_any) fun _ _ _ _ _ _ us hl => match us, hl with | [_, _], _ => rfl
  have F__law_odd := fun_mk (st := s__law_odd) l__law_odd o__law_odd k__law_odd
  have B__law_odd := F__law_odd.binds (ps := P__law_odd) fun _ _ _ _ _ _ us hl => match us, hl with | [_, _, _], _ => rfl
  have F_law := fun_mk (st := s_law) l_law o_law k_law
  have B_law := F_law.binds (ps := P_law) fun _ _ _ _ _ _ us hl => match us, hl with | [_], _ => rfl
  exact ⟨{
    c_TillError := c_TillError,
    c_NoTill := c_NoTill,
    c_NoKind := c_NoKind,
    c_Twice := c_Twice,
    c_NoCount := c_NoCount,
    c_NoSum := c_NoSum,
    c_TooLittle := c_TooLittle,
    c_NoChange := c_NoChange,
    c_TooFew := c_TooFew,
    c_StillHeld := c_StillHeld,
    c_NoDeed := c_NoDeed,
    a_worth := a_worth, d_worth := _,
    a_with_kind := a_with_kind, d_with_kind := _,
    a__bundles := a__bundles, d__bundles := _,
    a__with_bundle := a__with_bundle, d__with_bundle := _,
    a_scales := a_scales, d_scales := _,
    a__check_purse := a__check_purse, d__check_purse := _,
    a__with_numbers := a__with_numbers, d__with_numbers := _,
    a__law_cell_at := a__law_cell_at, d__law_cell_at := _,
    a__law_whole := a__law_whole, d__law_whole := _,
    a__law_mixed := a__law_mixed, d__law_mixed := _,
    a__law_value := a__law_value, d__law_value := _,
    a__law_till_and_purse := a__law_till_and_purse, d__law_till_and_purse := _,
    a__law_own := a__law_own, d__law_own := _,
    a__law_total := a__law_total, d__law_total := _,
    a__law_lightest := a__law_lightest, d__law_lightest := _,
    a__law_row := a__law_row, d__law_row := _,
    a__law_scaled := a__law_scaled, d__law_scaled := _,
    a__law_tried := a__law_tried, d__law_tried := _,
    a__law_any := a__law_any, d__law_any := _,
    a__law_odd := a__law_odd, d__law_odd := _,
    a_law := a_law, d_law := _,
    g_TillError := PySem.W.mg_of X G g_TillError, x_TillError := x_TillError, k_TillError := k_TillError, b_TillError := b_TillError, t_TillError := t_TillError, i_TillError := i_TillError,
    g_NoTill := PySem.W.mg_of X G g_NoTill, x_NoTill := x_NoTill, k_NoTill := k_NoTill, b_NoTill := b_NoTill, t_NoTill := t_NoTill, i_NoTill := i_NoTill,
    g_NoKind := PySem.W.mg_of X G g_NoKind, x_NoKind := x_NoKind, k_NoKind := k_NoKind, b_NoKind := b_NoKind, t_NoKind := t_NoKind, i_NoKind := i_NoKind,
    g_Twice := PySem.W.mg_of X G g_Twice, x_Twice := x_Twice, k_Twice := k_Twice, b_Twice := b_Twice, t_Twice := t_Twice, i_Twice := i_Twice,
    g_NoCount := PySem.W.mg_of X G g_NoCount, x_NoCount := x_NoCount, k_NoCount := k_NoCount, b_NoCount := b_NoCount, t_NoCount := t_NoCount, i_NoCount := i_NoCount,
    g_NoSum := PySem.W.mg_of X G g_NoSum, x_NoSum := x_NoSum, k_NoSum := k_NoSum, b_NoSum := b_NoSum, t_NoSum := t_NoSum, i_NoSum := i_NoSum,
    g_TooLittle := PySem.W.mg_of X G g_TooLittle, x_TooLittle := x_TooLittle, k_TooLittle := k_TooLittle, b_TooLittle := b_TooLittle, t_TooLittle := t_TooLittle, i_TooLittle := i_TooLittle,
    g_NoChange := PySem.W.mg_of X G g_NoChange, x_NoChange := x_NoChange, k_NoChange := k_NoChange, b_NoChange := b_NoChange, t_NoChange := t_NoChange, i_NoChange := i_NoChange,
    g_TooFew := PySem.W.mg_of X G g_TooFew, x_TooFew := x_TooFew, k_TooFew := k_TooFew, b_TooFew := b_TooFew, t_TooFew := t_TooFew, i_TooFew := i_TooFew,
    g_StillHeld := PySem.W.mg_of X G g_StillHeld, x_StillHeld := x_StillHeld, k_StillHeld := k_StillHeld, b_StillHeld := b_StillHeld, t_StillHeld := t_StillHeld, i_StillHeld := i_StillHeld,
    g_NoDeed := PySem.W.mg_of X G g_NoDeed, x_NoDeed := x_NoDeed, k_NoDeed := k_NoDeed, b_NoDeed := b_NoDeed, t_NoDeed := t_NoDeed, i_NoDeed := i_NoDeed,
    u_NoSum_NoKind := u_NoSum_NoKind,
    u_NoSum_NoSum := u_NoSum_NoSum,
    u_NoSum_TillError := u_NoSum_TillError,
    u_NoSum_NoChange := u_NoSum_NoChange,
    u_NoSum_NoCount := u_NoSum_NoCount,
    u_NoSum_NoDeed := u_NoSum_NoDeed,
    u_NoSum_NoTill := u_NoSum_NoTill,
    u_NoSum_StillHeld := u_NoSum_StillHeld,
    u_NoSum_TooFew := u_NoSum_TooFew,
    u_NoSum_TooLittle := u_NoSum_TooLittle,
    u_NoSum_Twice := u_NoSum_Twice,
    u_NoKind_NoKind := u_NoKind_NoKind,
    u_NoKind_NoSum := u_NoKind_NoSum,
    u_NoKind_TillError := u_NoKind_TillError,
    u_NoKind_NoChange := u_NoKind_NoChange,
    u_NoKind_NoCount := u_NoKind_NoCount,
    u_NoKind_NoDeed := u_NoKind_NoDeed,
    u_NoKind_NoTill := u_NoKind_NoTill,
    u_NoKind_StillHeld := u_NoKind_StillHeld,
    u_NoKind_TooFew := u_NoKind_TooFew,
    u_NoKind_TooLittle := u_NoKind_TooLittle,
    u_NoKind_Twice := u_NoKind_Twice,
    e_NoSum := ⟨hg_NoSum, hk_NoSum, b_NoSum, hd_NoSum, ha_NoSum, hn, ht, hm_NoSum⟩, z_NoSum := kone_ty z_NoSum, y_NoSum := (kany_f (kone_own n_NoSum_NoChange i_NoChange t_NoChange u_NoSum_NoChange) (kany_f (kone_own n_NoSum_NoCount i_NoCount t_NoCount u_NoSum_NoCount) (kany_f (kone_own n_NoSum_NoDeed i_NoDeed t_NoDeed u_NoSum_NoDeed) (kany_f (kone_own n_NoSum_NoTill i_NoTill t_NoTill u_NoSum_NoTill) (kany_f (kone_own n_NoSum_StillHeld i_StillHeld t_StillHeld u_NoSum_StillHeld) (kany_f (kone_own n_NoSum_TooFew i_TooFew t_TooFew u_NoSum_TooFew) (kany_f (kone_own n_NoSum_TooLittle i_TooLittle t_TooLittle u_NoSum_TooLittle) (kany_f (kone_own n_NoSum_Twice i_Twice t_Twice u_NoSum_Twice) kitAny_nil)))))))),
    e_NoKind := ⟨hg_NoKind, hk_NoKind, b_NoKind, hd_NoKind, ha_NoKind, hn, ht, hm_NoKind⟩, z_NoKind := kone_ty z_NoKind, y_NoKind := (kany_f (kone_own n_NoKind_NoChange i_NoChange t_NoChange u_NoKind_NoChange) (kany_f (kone_own n_NoKind_NoCount i_NoCount t_NoCount u_NoKind_NoCount) (kany_f (kone_own n_NoKind_NoDeed i_NoDeed t_NoDeed u_NoKind_NoDeed) (kany_f (kone_own n_NoKind_NoTill i_NoTill t_NoTill u_NoKind_NoTill) (kany_f (kone_own n_NoKind_StillHeld i_StillHeld t_StillHeld u_NoKind_StillHeld) (kany_f (kone_own n_NoKind_TooFew i_TooFew t_TooFew u_NoKind_TooFew) (kany_f (kone_own n_NoKind_TooLittle i_TooLittle t_TooLittle u_NoKind_TooLittle) (kany_f (kone_own n_NoKind_Twice i_Twice t_Twice u_NoKind_Twice) kitAny_nil)))))))),
    f_worth := F_worth, p_worth := B_worth, g_worth := PySem.W.mg_of X G g_worth,
    f_with_kind := F_with_kind, p_with_kind := B_with_kind, g_with_kind := PySem.W.mg_of X G g_with_kind,
    f__bundles := F__bundles, p__bundles := B__bundles, g__bundles := PySem.W.mg_of X G g__bundles,
    f__with_bundle := F__with_bundle, p__with_bundle := B__with_bundle, g__with_bundle := PySem.W.mg_of X G g__with_bundle,
    f_scales := F_scales, p_scales := B_scales, g_scales := PySem.W.mg_of X G g_scales,
    f__check_purse := F__check_purse, p__check_purse := B__check_purse, g__check_purse := PySem.W.mg_of X G g__check_purse,
    f__with_numbers := F__with_numbers, p__with_numbers := B__with_numbers, g__with_numbers := PySem.W.mg_of X G g__with_numbers,
    f__law_cell_at := F__law_cell_at, p__law_cell_at := B__law_cell_at, g__law_cell_at := PySem.W.mg_of X G g__law_cell_at,
    f__law_whole := F__law_whole, p__law_whole := B__law_whole, g__law_whole := PySem.W.mg_of X G g__law_whole,
    f__law_mixed := F__law_mixed, p__law_mixed := B__law_mixed, g__law_mixed := PySem.W.mg_of X G g__law_mixed,
    f__law_value := F__law_value, p__law_value := B__law_value, g__law_value := PySem.W.mg_of X G g__law_value,
    f__law_till_and_purse := F__law_till_and_purse, p__law_till_and_purse := B__law_till_and_purse, g__law_till_and_purse := PySem.W.mg_of X G g__law_till_and_purse,
    f__law_own := F__law_own, p__law_own := B__law_own, g__law_own := PySem.W.mg_of X G g__law_own,
    f__law_total := F__law_total, p__law_total := B__law_total, g__law_total := PySem.W.mg_of X G g__law_total,
    f__law_lightest := F__law_lightest, p__law_lightest := B__law_lightest, g__law_lightest := PySem.W.mg_of X G g__law_lightest,
    f__law_row := F__law_row, p__law_row := B__law_row, g__law_row := PySem.W.mg_of X G g__law_row,
    f__law_scaled := F__law_scaled, p__law_scaled := B__law_scaled, g__law_scaled := PySem.W.mg_of X G g__law_scaled,
    f__law_tried := F__law_tried, p__law_tried := B__law_tried, g__law_tried := PySem.W.mg_of X G g__law_tried,
    f__law_any := F__law_any, p__law_any := B__law_any, g__law_any := PySem.W.mg_of X G g__law_any,
    f__law_odd := F__law_odd, p__law_odd := B__law_odd, g__law_odd := PySem.W.mg_of X G g__law_odd,
    f_law := F_law, p_law := B_law, g_law := PySem.W.mg_of X G g_law,
    w_MOST_WORTH := ⟨_, PySem.W.mg_of X G w_MOST_WORTH⟩,
    m_ValueError := PySem.W.mg_none_of X G m_ValueError,
    m_abs := PySem.W.mg_none_of X G m_abs,
    m_bool := PySem.W.mg_none_of X G m_bool,
    m_dict := PySem.W.mg_none_of X G m_dict,
    m_int := PySem.W.mg_none_of X G m_int,
    m_isinstance := PySem.W.mg_none_of X G m_isinstance,
    m_len := PySem.W.mg_none_of X G m_len,
    m_list := PySem.W.mg_none_of X G m_list,
    m_min := PySem.W.mg_none_of X G m_min,
    m_range := PySem.W.mg_none_of X G m_range,
    m_sorted := PySem.W.mg_none_of X G m_sorted,
    m_sum := PySem.W.mg_none_of X G m_sum }, rfl, fun s v => .of_eq rfl⟩

theorem fin {l : PySem.W.OpenLaw} {w : World} {K : PySem.W.Frag} {h : Heap} {mg : Str → Option Value} {fa a_law : Addr} (X : K.In h) (G : h.Ns mainGlobals mg) (hfa : mg "law" = some (.ref fa))
    (x : ∃ T : Tx K mg, T.a_law = a_law ∧ (∀ (s : Shared) (v : Value), BindsTo s T.d_law ⟨[v], []⟩ [("_law_script", v)])) :
    ∃ fd : FuncData, (∀ (s : Shared) (v : Value), BindsTo s fd ⟨[v], []⟩ [("_law_script", v)]) ∧ ∀ base : Heap, K.In base → base.Ns mainGlobals mg → FnOk l.prog w K mg base CX0 6 fa fd ["_law_script"] (spLaw K) := by
  obtain ⟨T, _, hb⟩ := x
  have e := hfa.symm.trans T.g_law
  cases e
  exact ⟨T.d_law, hb, fun base _ _ => ok_law T⟩

end K10
open PySem PySem.W PyProof.Rows
set_option maxRecDepth 100000 in
set_option maxHeartbeats 0 in
theorem PySem.Challenge.cw_tilldrawer_k10_whole_scales_holds : PySem.Challenge.rw_tilldrawer_k10_whole_scales.Holds := by
  w_on; o_law; k_head; (case hw => w_witness2)
  k_fill
  refine L2.walk_ofK (l := PySem.Challenge.rw_tilldrawer_k10_whole_scales) (n := 63) (k := 6) (x := "_law_script") (CX := L2.CX0) (sp := K10.spLaw) rfl (by decide) rfl ⟨rfl, by decide, by decide⟩ (fun w h Y => PySem.W.kIn_of Y) ?F (fun K H a ns hl hO hS => K10.law_start hl hO hS) (fun _ _ _ _ h => h)
  case F =>
    intro w mg fa h KX G hmg
    refine' K10.fin KX G hmg (K10.tx_mk KX G ?g_TillError ?x_TillError ?k_TillError ?b_TillError ?t_TillError ?i_TillError ?g_NoTill ?x_NoTill ?k_NoTill ?b_NoTill ?t_NoTill ?i_NoTill ?g_NoKind ?x_NoKind ?k_NoKind ?b_NoKind ?t_NoKind ?i_NoKind ?g_Twice ?x_Twice ?k_Twice ?b_Twice ?t_Twice ?i_Twice ?g_NoCount ?x_NoCount ?k_NoCount ?b_NoCount ?t_NoCount ?i_NoCount ?g_NoSum ?x_NoSum ?k_NoSum ?b_NoSum ?t_NoSum ?i_NoSum ?g_TooLittle ?x_TooLittle ?k_TooLittle ?b_TooLittle ?t_TooLittle ?i_TooLittle ?g_NoChange ?x_NoChange ?k_NoChange ?b_NoChange ?t_NoChange ?i_NoChange ?g_TooFew ?x_TooFew ?k_TooFew ?b_TooFew ?t_TooFew ?i_TooFew ?g_StillHeld ?x_StillHeld ?k_StillHeld ?b_StillHeld ?t_StillHeld ?i_StillHeld ?g_NoDeed ?x_NoDeed ?k_NoDeed ?b_NoDeed ?t_NoDeed ?i_NoDeed ?u_NoSum_NoKind ?u_NoSum_NoSum ?u_NoSum_TillError ?u_NoSum_NoChange ?u_NoSum_NoCount ?u_NoSum_NoDeed ?u_NoSum_NoTill ?u_NoSum_StillHeld ?u_NoSum_TooFew ?u_NoSum_TooLittle ?u_NoSum_Twice ?u_NoKind_NoKind ?u_NoKind_NoSum ?u_NoKind_TillError ?u_NoKind_NoChange ?u_NoKind_NoCount ?u_NoKind_NoDeed ?u_NoKind_NoTill ?u_NoKind_StillHeld ?u_NoKind_TooFew ?u_NoKind_TooLittle ?u_NoKind_Twice ?hg_NoSum ?hk_NoSum ?hd_NoSum ?ha_NoSum ?hm_NoSum ?z_NoSum ?n_NoSum_NoChange ?n_NoSum_NoCount ?n_NoSum_NoDeed ?n_NoSum_NoTill ?n_NoSum_StillHeld ?n_NoSum_TooFew ?n_NoSum_TooLittle ?n_NoSum_Twice ?hg_NoKind ?hk_NoKind ?hd_NoKind ?ha_NoKind ?hm_NoKind ?z_NoKind ?n_NoKind_NoChange ?n_NoKind_NoCount ?n_NoKind_NoDeed ?n_NoKind_NoTill ?n_NoKind_StillHeld ?n_NoKind_TooFew ?n_NoKind_TooLittle ?n_NoKind_Twice ?hn ?ht ?g_worth ?l_worth ?o_worth ?k_worth ?g_with_kind ?l_with_kind ?o_with_kind ?k_with_kind ?g__bundles ?l__bundles ?o__bundles ?k__bundles ?g__with_bundle ?l__with_bundle ?o__with_bundle ?k__with_bundle ?g_scales ?l_scales ?o_scales ?k_scales ?g__check_purse ?l__check_purse ?o__check_purse ?k__check_purse ?g__with_numbers ?l__with_numbers ?o__with_numbers ?k__with_numbers ?g__law_cell_at ?l__law_cell_at ?o__law_cell_at ?k__law_cell_at ?g__law_whole ?l__law_whole ?o__law_whole ?k__law_whole ?g__law_mixed ?l__law_mixed ?o__law_mixed ?k__law_mixed ?g__law_value ?l__law_value ?o__law_value ?k__law_value ?g__law_till_and_purse ?l__law_till_and_purse ?o__law_till_and_purse ?k__law_till_and_purse ?g__law_own ?l__law_own ?o__law_own ?k__law_own ?g__law_total ?l__law_total ?o__law_total ?k__law_total ?g__law_lightest ?l__law_lightest ?o__law_lightest ?k__law_lightest ?g__law_row ?l__law_row ?o__law_row ?k__law_row ?g__law_scaled ?l__law_scaled ?o__law_scaled ?k__law_scaled ?g__law_tried ?l__law_tried ?o__law_tried ?k__law_tried ?g__law_any ?l__law_any ?o__law_any ?k__law_any ?g__law_odd ?l__law_odd ?o__law_odd ?k__law_odd ?g_law ?l_law ?o_law ?k_law ?w_MOST_WORTH ?m_ValueError ?m_abs ?m_bool ?m_dict ?m_int ?m_isinstance ?m_len ?m_list ?m_min ?m_range ?m_sorted ?m_sum)
    (case g_TillError => k_is)
    (case x_TillError => k_exc)
    (case k_TillError => k_is)
    (case b_TillError => k_is)
    (case t_TillError => k_is)
    (case i_TillError => k_is)
    (case g_NoTill => k_is)
    (case x_NoTill => k_exc)
    (case k_NoTill => k_is)
    (case b_NoTill => k_is)
    (case t_NoTill => k_is)
    (case i_NoTill => k_is)
    (case g_NoKind => k_is)
    (case x_NoKind => k_exc)
    (case k_NoKind => k_is)
    (case b_NoKind => k_is)
    (case t_NoKind => k_is)
    (case i_NoKind => k_is)
    (case g_Twice => k_is)
    (case x_Twice => k_exc)
    (case k_Twice => k_is)
    (case b_Twice => k_is)
    (case t_Twice => k_is)
    (case i_Twice => k_is)
    (case g_NoCount => k_is)
    (case x_NoCount => k_exc)
    (case k_NoCount => k_is)
    (case b_NoCount => k_is)
    (case t_NoCount => k_is)
    (case i_NoCount => k_is)
    (case g_NoSum => k_is)
    (case x_NoSum => k_exc)
    (case k_NoSum => k_is)
    (case b_NoSum => k_is)
    (case t_NoSum => k_is)
    (case i_NoSum => k_is)
    (case g_TooLittle => k_is)
    (case x_TooLittle => k_exc)
    (case k_TooLittle => k_is)
    (case b_TooLittle => k_is)
    (case t_TooLittle => k_is)
    (case i_TooLittle => k_is)
    (case g_NoChange => k_is)
    (case x_NoChange => k_exc)
    (case k_NoChange => k_is)
    (case b_NoChange => k_is)
    (case t_NoChange => k_is)
    (case i_NoChange => k_is)
    (case g_TooFew => k_is)
    (case x_TooFew => k_exc)
    (case k_TooFew => k_is)
    (case b_TooFew => k_is)
    (case t_TooFew => k_is)
    (case i_TooFew => k_is)
    (case g_StillHeld => k_is)
    (case x_StillHeld => k_exc)
    (case k_StillHeld => k_is)
    (case b_StillHeld => k_is)
    (case t_StillHeld => k_is)
    (case i_StillHeld => k_is)
    (case g_NoDeed => k_is)
    (case x_NoDeed => k_exc)
    (case k_NoDeed => k_is)
    (case b_NoDeed => k_is)
    (case t_NoDeed => k_is)
    (case i_NoDeed => k_is)
    (case u_NoSum_NoKind => first | rfl | k_is)
    (case u_NoSum_NoSum => first | rfl | k_is)
    (case u_NoSum_TillError => first | rfl | k_is)
    (case u_NoSum_NoChange => first | rfl | k_is)
    (case u_NoSum_NoCount => first | rfl | k_is)
    (case u_NoSum_NoDeed => first | rfl | k_is)
    (case u_NoSum_NoTill => first | rfl | k_is)
    (case u_NoSum_StillHeld => first | rfl | k_is)
    (case u_NoSum_TooFew => first | rfl | k_is)
    (case u_NoSum_TooLittle => first | rfl | k_is)
    (case u_NoSum_Twice => first | rfl | k_is)
    (case u_NoKind_NoKind => first | rfl | k_is)
    (case u_NoKind_NoSum => first | rfl | k_is)
    (case u_NoKind_TillError => first | rfl | k_is)
    (case u_NoKind_NoChange => first | rfl | k_is)
    (case u_NoKind_NoCount => first | rfl | k_is)
    (case u_NoKind_NoDeed => first | rfl | k_is)
    (case u_NoKind_NoTill => first | rfl | k_is)
    (case u_NoKind_StillHeld => first | rfl | k_is)
    (case u_NoKind_TooFew => first | rfl | k_is)
    (case u_NoKind_TooLittle => first | rfl | k_is)
    (case u_NoKind_Twice => first | rfl | k_is)
    (case hg_NoSum => k_is)
    (case hk_NoSum => k_is)
    (case hd_NoSum => k_is)
    (case ha_NoSum => k_is)
    (case hm_NoSum => k_is)
    (case z_NoSum => k_is)
    (case n_NoSum_NoChange => decide)
    (case n_NoSum_NoCount => decide)
    (case n_NoSum_NoDeed => decide)
    (case n_NoSum_NoTill => decide)
    (case n_NoSum_StillHeld => decide)
    (case n_NoSum_TooFew => decide)
    (case n_NoSum_TooLittle => decide)
    (case n_NoSum_Twice => decide)
    (case hg_NoKind => k_is)
    (case hk_NoKind => k_is)
    (case hd_NoKind => k_is)
    (case ha_NoKind => k_is)
    (case hm_NoKind => k_is)
    (case z_NoKind => k_is)
    (case n_NoKind_NoChange => decide)
    (case n_NoKind_NoCount => decide)
    (case n_NoKind_NoDeed => decide)
    (case n_NoKind_NoTill => decide)
    (case n_NoKind_StillHeld => decide)
    (case n_NoKind_TooFew => decide)
    (case n_NoKind_TooLittle => decide)
    (case n_NoKind_Twice => decide)
    (case hn => k_is)
    (case ht => k_is)
    (case g_worth => k_is)
    (case l_worth => k_is)
    (case o_worth => k_is)
    (case k_worth => k_is)
    (case g_with_kind => k_is)
    (case l_with_kind => k_is)
    (case o_with_kind => k_is)
    (case k_with_kind => k_is)
    (case g__bundles => k_is)
    (case l__bundles => k_is)
    (case o__bundles => k_is)
    (case k__bundles => k_is)
    (case g__with_bundle => k_is)
    (case l__with_bundle => k_is)
    (case o__with_bundle => k_is)
    (case k__with_bundle => k_is)
    (case g_scales => k_is)
    (case l_scales => k_is)
    (case o_scales => k_is)
    (case k_scales => k_is)
    (case g__check_purse => k_is)
    (case l__check_purse => k_is)
    (case o__check_purse => k_is)
    (case k__check_purse => k_is)
    (case g__with_numbers => k_is)
    (case l__with_numbers => k_is)
    (case o__with_numbers => k_is)
    (case k__with_numbers => k_is)
    (case g__law_cell_at => k_is)
    (case l__law_cell_at => k_is)
    (case o__law_cell_at => k_is)
    (case k__law_cell_at => k_is)
    (case g__law_whole => k_is)
    (case l__law_whole => k_is)
    (case o__law_whole => k_is)
    (case k__law_whole => k_is)
    (case g__law_mixed => k_is)
    (case l__law_mixed => k_is)
    (case o__law_mixed => k_is)
    (case k__law_mixed => k_is)
    (case g__law_value => k_is)
    (case l__law_value => k_is)
    (case o__law_value => k_is)
    (case k__law_value => k_is)
    (case g__law_till_and_purse => k_is)
    (case l__law_till_and_purse => k_is)
    (case o__law_till_and_purse => k_is)
    (case k__law_till_and_purse => k_is)
    (case g__law_own => k_is)
    (case l__law_own => k_is)
    (case o__law_own => k_is)
    (case k__law_own => k_is)
    (case g__law_total => k_is)
    (case l__law_total => k_is)
    (case o__law_total => k_is)
    (case k__law_total => k_is)
    (case g__law_lightest => k_is)
    (case l__law_lightest => k_is)
    (case o__law_lightest => k_is)
    (case k__law_lightest => k_is)
    (case g__law_row => k_is)
    (case l__law_row => k_is)
    (case o__law_row => k_is)
    (case k__law_row => k_is)
    (case g__law_scaled => k_is)
    (case l__law_scaled => k_is)
    (case o__law_scaled => k_is)
    (case k__law_scaled => k_is)
    (case g__law_tried => k_is)
    (case l__law_tried => k_is)
    (case o__law_tried => k_is)
    (case k__law_tried => k_is)
    (case g__law_any => k_is)
    (case l__law_any => k_is)
    (case o__law_any => k_is)
    (case k__law_any => k_is)
    (case g__law_odd => k_is)
    (case l__law_odd => k_is)
    (case o__law_odd => k_is)
    (case k__law_odd => k_is)
    (case g_law => k_is)
    (case l_law => k_is)
    (case o_law => k_is)
    (case k_law => k_is)
    (case w_MOST_WORTH => k_is)
    (case m_ValueError => k_is)
    (case m_abs => k_is)
    (case m_bool => k_is)
    (case m_dict => k_is)
    (case m_int => k_is)
    (case m_isinstance => k_is)
    (case m_len => k_is)
    (case m_list => k_is)
    (case m_min => k_is)
    (case m_range => k_is)
    (case m_sorted => k_is)
    (case m_sum => k_is)

