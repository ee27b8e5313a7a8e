import PyProof.Rows.All
import Wide.All
import OpenK.AllK
import Wide.FinOn
import PyProof.EqAt
import PyProof.EqKinds
import PyProof.TupleCall
import HandS.ForMost
import HandS.ForExc
import HandS.TryMany
import HandS.Sort
import HandS.SortRule
import HandS.IsInst
import HandS.ExcIs
import HandS.Evl
import HandS.Walk
import HandS.Strs
import HandS.SetFor
import HandS.RevRange
import HandS.Conv
import PySem.Challenge.RW_tilldrawer_k02_tills_made
set_option Elab.async false
set_option linter.all false
set_option maxRecDepth 100000
set_option maxHeartbeats 4000000
namespace K02
open PySem PySem.Spec PyProof.Rows L2
def topS (i : Nat) : Stmt := PySem.Challenge.pw_tilldrawer_k02_tills_made.main.body.getD i (.Pass ⟨0, 0, 0, 0⟩)
abbrev s_check_value : Stmt := topS 16
abbrev N_check_value : List Str := ["value"]
abbrev P_check_value : List Str := ["value"]
theorem sc_check_value : FnScope N_check_value P_check_value (defScope s_check_value) := ⟨rfl, rfl, rfl, by decide +kernel, rfl, by decide +kernel, by decide +kernel⟩
abbrev s_check_count : Stmt := topS 17
abbrev N_check_count : List Str := ["count"]
abbrev P_check_count : List Str := ["count"]
theorem sc_check_count : FnScope N_check_count P_check_count (defScope s_check_count) := ⟨rfl, rfl, rfl, by decide +kernel, rfl, by decide +kernel, by decide +kernel⟩
abbrev s_till_of : Stmt := topS 18
abbrev N_till_of : List Str := ["pairs", "seen", "value", "count"]
abbrev P_till_of : List Str := ["pairs"]
theorem sc_till_of : FnScope N_till_of P_till_of (defScope s_till_of) := ⟨rfl, rfl, rfl, by decide +kernel, rfl, by decide +kernel, by decide +kernel⟩
abbrev s__law_cell_at : Stmt := topS 20
abbrev N__law_cell_at : List Str := ["_law_script", "_law_k"]
abbrev P__law_cell_at : List Str := ["_law_script", "_law_k"]
theorem sc__law_cell_at : FnScope N__law_cell_at P__law_cell_at (defScope s__law_cell_at) := ⟨rfl, rfl, rfl, by decide +kernel, rfl, by decide +kernel, by decide +kernel⟩
abbrev s__law_whole : Stmt := topS 21
abbrev N__law_whole : List Str := ["_law_found"]
abbrev P__law_whole : List Str := ["_law_found"]
theorem sc__law_whole : FnScope N__law_whole P__law_whole (defScope s__law_whole) := ⟨rfl, rfl, rfl, by decide +kernel, rfl, by decide +kernel, by decide +kernel⟩
abbrev s__law_mixed : Stmt := topS 22
abbrev N__law_mixed : List Str := ["_law_cell", "_law_k"]
abbrev P__law_mixed : List Str := ["_law_cell", "_law_k"]
theorem sc__law_mixed : FnScope N__law_mixed P__law_mixed (defScope s__law_mixed) := ⟨rfl, rfl, rfl, by decide +kernel, rfl, by decide +kernel, by decide +kernel⟩
abbrev s__law_value : Stmt := topS 23
abbrev N__law_value : List Str := ["_law_cell", "_law_k", "_law_drawn"]
abbrev P__law_value : List Str := ["_law_cell", "_law_k"]
theorem sc__law_value : FnScope N__law_value P__law_value (defScope s__law_value) := ⟨rfl, rfl, rfl, by decide +kernel, rfl, by decide +kernel, by decide +kernel⟩
abbrev s__law_count : Stmt := topS 24
abbrev N__law_count : List Str := ["_law_cell", "_law_k", "_law_drawn"]
abbrev P__law_count : List Str := ["_law_cell", "_law_k"]
theorem sc__law_count : FnScope N__law_count P__law_count (defScope s__law_count) := ⟨rfl, rfl, rfl, by decide +kernel, rfl, by decide +kernel, by decide +kernel⟩
abbrev s__law_pairs : Stmt := topS 25
abbrev N__law_pairs : List Str := ["_law_script", "_law_cell", "_law_many", "_law_found", "_law_seen", "_law_k", "_law_value_here"]
abbrev P__law_pairs : List Str := ["_law_script"]
theorem sc__law_pairs : FnScope N__law_pairs P__law_pairs (defScope s__law_pairs) := ⟨rfl, rfl, rfl, by decide +kernel, rfl, by decide +kernel, by decide +kernel⟩
abbrev s__law_alike : Stmt := topS 26
abbrev N__law_alike : List Str := ["_law_found", "_law_due_here", "_law_pair"]
abbrev P__law_alike : List Str := ["_law_found", "_law_due_here"]
theorem sc__law_alike : FnScope N__law_alike P__law_alike (defScope s__law_alike) := ⟨rfl, rfl, rfl, by decide +kernel, rfl, by decide +kernel, by decide +kernel⟩
abbrev s__law_order : Stmt := topS 27
abbrev N__law_order : List Str := ["_law_cell", "_law_row", "_law_left", "_law_found"]
abbrev P__law_order : List Str := ["_law_cell", "_law_row"]
theorem sc__law_order : FnScope N__law_order P__law_order (defScope s__law_order) := ⟨rfl, rfl, rfl, by decide +kernel, rfl, by decide +kernel, by decide +kernel⟩
abbrev s__law_due : Stmt := topS 28
abbrev N__law_due : List Str := ["_law_pairs_here", "_law_k", "_law_one"]
abbrev P__law_due : List Str := ["_law_pairs_here"]
theorem sc__law_due : FnScope N__law_due P__law_due (defScope s__law_due) := ⟨rfl, rfl, rfl, by decide +kernel, rfl, by decide +kernel, by decide +kernel⟩
abbrev s__law_spoilt : Stmt := topS 29
abbrev N__law_spoilt : List Str := ["_law_pairs_here", "_law_cell", "_law_at", "_law_far", "_law_value_here", "_law_count_here"]
abbrev P__law_spoilt : List Str := ["_law_pairs_here", "_law_cell"]
theorem sc__law_spoilt : FnScope N__law_spoilt P__law_spoilt (defScope s__law_spoilt) := ⟨rfl, rfl, rfl, by decide +kernel, rfl, by decide +kernel, by decide +kernel⟩
abbrev s__law_made : Stmt := topS 30
abbrev N__law_made : List Str := ["_law_pairs_here"]
abbrev P__law_made : List Str := ["_law_pairs_here"]
theorem sc__law_made : FnScope N__law_made P__law_made (defScope s__law_made) := ⟨rfl, rfl, rfl, by decide +kernel, rfl, by decide +kernel, by decide +kernel⟩
abbrev s__law_any : Stmt := topS 31
abbrev N__law_any : List Str := ["_law_pairs_here", "e", "_law_kinds"]
abbrev P__law_any : List Str := ["_law_pairs_here"]
theorem sc__law_any : FnScope N__law_any P__law_any (defScope s__law_any) := ⟨rfl, rfl, rfl, by decide +kernel, rfl, by decide +kernel, by decide +kernel⟩
abbrev s_law : Stmt := topS 32
abbrev N_law : List Str := ["_law_script", "_law_pairs_here", "_law_handed", "_law_due_here", "_law_found"]
abbrev P_law : List Str := ["_law_script"]
theorem sc_law : FnScope N_law P_law (defScope s_law) := ⟨rfl, rfl, rfl, by decide +kernel, rfl, by decide +kernel, by decide +kernel⟩
/-- what the top has written -/
structure Tx (K : PySem.W.Frag) (mg : Str → Option Value) : Type where
  c_TillError : Addr
  c_NoTill : Addr
  c_NoKind : Addr
  c_Twice : Addr
  c_NoCount : Addr
  c_NoSum : Addr
  c_TooLittle : Addr
  c_NoChange : Addr
  c_TooFew : Addr
  c_StillHeld : Addr
  c_NoDeed : Addr
  a_check_value : Addr
  d_check_value : FuncData
  a_check_count : Addr
  d_check_count : FuncData
  a_till_of : Addr
  d_till_of : FuncData
  a__law_cell_at : Addr
  d__law_cell_at : FuncData
  a__law_whole : Addr
  d__law_whole : FuncData
  a__law_mixed : Addr
  d__law_mixed : FuncData
  a__law_value : Addr
  d__law_value : FuncData
  a__law_count : Addr
  d__law_count : FuncData
  a__law_pairs : Addr
  d__law_pairs : FuncData
  a__law_alike : Addr
  d__law_alike : FuncData
  a__law_order : Addr
  d__law_order : FuncData
  a__law_due : Addr
  d__law_due : FuncData
  a__law_spoilt : Addr
  d__law_spoilt : FuncData
  a__law_made : Addr
  d__law_made : FuncData
  a__law_any : Addr
  d__law_any : FuncData
  a_law : Addr
  d_law : FuncData
  g_TillError : mg "TillError" = some (.ref c_TillError)
  x_TillError : PySem.W.excIn K c_TillError [.type "ValueError", .type "Exception", .type "BaseException", .type "object"] "ValueError.__new__" = true
  k_TillError : PySem.W.keepIn K (.ref c_TillError) = true
  b_TillError : PySem.W.subIn K (.ref c_TillError) (.type "BaseException") = some true
  t_TillError : PySem.W.typeIn K (.ref c_TillError) = some (.type "type")
  i_TillError : PySem.W.isClsIn K c_TillError = true
  g_NoTill : mg "NoTill" = some (.ref c_NoTill)
  x_NoTill : PySem.W.excIn K c_NoTill [.type "ValueError", .type "Exception", .type "BaseException", .type "object"] "ValueError.__new__" = true
  k_NoTill : PySem.W.keepIn K (.ref c_NoTill) = true
  b_NoTill : PySem.W.subIn K (.ref c_NoTill) (.type "BaseException") = some true
  t_NoTill : PySem.W.typeIn K (.ref c_NoTill) = some (.type "type")
  i_NoTill : PySem.W.isClsIn K c_NoTill = true
  g_NoKind : mg "NoKind" = some (.ref c_NoKind)
  x_NoKind : PySem.W.excIn K c_NoKind [.type "ValueError", .type "Exception", .type "BaseException", .type "object"] "ValueError.__new__" = true
  k_NoKind : PySem.W.keepIn K (.ref c_NoKind) = true
  b_NoKind : PySem.W.subIn K (.ref c_NoKind) (.type "BaseException") = some true
  t_NoKind : PySem.W.typeIn K (.ref c_NoKind) = some (.type "type")
  i_NoKind : PySem.W.isClsIn K c_NoKind = true
  g_Twice : mg "Twice" = some (.ref c_Twice)
  x_Twice : PySem.W.excIn K c_Twice [.type "ValueError", .type "Exception", .type "BaseException", .type "object"] "ValueError.__new__" = true
  k_Twice : PySem.W.keepIn K (.ref c_Twice) = true
  b_Twice : PySem.W.subIn K (.ref c_Twice) (.type "BaseException") = some true
  t_Twice : PySem.W.typeIn K (.ref c_Twice) = some (.type "type")
  i_Twice : PySem.W.isClsIn K c_Twice = true
  g_NoCount : mg "NoCount" = some (.ref c_NoCount)
  x_NoCount : PySem.W.excIn K c_NoCount [.type "ValueError", .type "Exception", .type "BaseException", .type "object"] "ValueError.__new__" = true
  k_NoCount : PySem.W.keepIn K (.ref c_NoCount) = true
  b_NoCount : PySem.W.subIn K (.ref c_NoCount) (.type "BaseException") = some true
  t_NoCount : PySem.W.typeIn K (.ref c_NoCount) = some (.type "type")
  i_NoCount : PySem.W.isClsIn K c_NoCount = true
  g_NoSum : mg "NoSum" = some (.ref c_NoSum)
  x_NoSum : PySem.W.excIn K c_NoSum [.type "ValueError", .type "Exception", .type "BaseException", .type "object"] "ValueError.__new__" = true
  k_NoSum : PySem.W.keepIn K (.ref c_NoSum) = true
  b_NoSum : PySem.W.subIn K (.ref c_NoSum) (.type "BaseException") = some true
  t_NoSum : PySem.W.typeIn K (.ref c_NoSum) = some (.type "type")
  i_NoSum : PySem.W.isClsIn K c_NoSum = true
  g_TooLittle : mg "TooLittle" = some (.ref c_TooLittle)
  x_TooLittle : PySem.W.excIn K c_TooLittle [.type "ValueError", .type "Exception", .type "BaseException", .type "object"] "ValueError.__new__" = true
  k_TooLittle : PySem.W.keepIn K (.ref c_TooLittle) = true
  b_TooLittle : PySem.W.subIn K (.ref c_TooLittle) (.type "BaseException") = some true
  t_TooLittle : PySem.W.typeIn K (.ref c_TooLittle) = some (.type "type")
  i_TooLittle : PySem.W.isClsIn K c_TooLittle = true
  g_NoChange : mg "NoChange" = some (.ref c_NoChange)
  x_NoChange : PySem.W.excIn K c_NoChange [.type "ValueError", .type "Exception", .type "BaseException", .type "object"] "ValueError.__new__" = true
  k_NoChange : PySem.W.keepIn K (.ref c_NoChange) = true
  b_NoChange : PySem.W.subIn K (.ref c_NoChange) (.type "BaseException") = some true
  t_NoChange : PySem.W.typeIn K (.ref c_NoChange) = some (.type "type")
  i_NoChange : PySem.W.isClsIn K c_NoChange = true
  g_TooFew : mg "TooFew" = some (.ref c_TooFew)
  x_TooFew : PySem.W.excIn K c_TooFew [.type "ValueError", .type "Exception", .type "BaseException", .type "object"] "ValueError.__new__" = true
  k_TooFew : PySem.W.keepIn K (.ref c_TooFew) = true
  b_TooFew : PySem.W.subIn K (.ref c_TooFew) (.type "BaseException") = some true
  t_TooFew : PySem.W.typeIn K (.ref c_TooFew) = some (.type "type")
  i_TooFew : PySem.W.isClsIn K c_TooFew = true
  g_StillHeld : mg "StillHeld" = some (.ref c_StillHeld)
  x_StillHeld : PySem.W.excIn K c_StillHeld [.type "ValueError", .type "Exception", .type "BaseException", .type "object"] "ValueError.__new__" = true
  k_StillHeld : PySem.W.keepIn K (.ref c_StillHeld) = true
  b_StillHeld : PySem.W.subIn K (.ref c_StillHeld) (.type "BaseException") = some true
  t_StillHeld : PySem.W.typeIn K (.ref c_StillHeld) = some (.type "type")
  i_StillHeld : PySem.W.isClsIn K c_StillHeld = true
  g_NoDeed : mg "NoDeed" = some (.ref c_NoDeed)
  x_NoDeed : PySem.W.excIn K c_NoDeed [.type "ValueError", .type "Exception", .type "BaseException", .type "object"] "ValueError.__new__" = true
  k_NoDeed : PySem.W.keepIn K (.ref c_NoDeed) = true
  b_NoDeed : PySem.W.subIn K (.ref c_NoDeed) (.type "BaseException") = some true
  t_NoDeed : PySem.W.typeIn K (.ref c_NoDeed) = some (.type "type")
  i_NoDeed : PySem.W.isClsIn K c_NoDeed = true
  u_NoKind_NoTill : PySem.W.subIn K (.ref c_NoKind) (.ref c_NoTill) = some false
  u_NoKind_NoKind : PySem.W.subIn K (.ref c_NoKind) (.ref c_NoKind) = some true
  u_NoKind_Twice : PySem.W.subIn K (.ref c_NoKind) (.ref c_Twice) = some false
  u_NoKind_NoCount : PySem.W.subIn K (.ref c_NoKind) (.ref c_NoCount) = some false
  u_NoKind_TillError : PySem.W.subIn K (.ref c_NoKind) (.ref c_TillError) = some true
  u_NoKind_NoChange : PySem.W.subIn K (.ref c_NoKind) (.ref c_NoChange) = some false
  u_NoKind_NoDeed : PySem.W.subIn K (.ref c_NoKind) (.ref c_NoDeed) = some false
  u_NoKind_NoSum : PySem.W.subIn K (.ref c_NoKind) (.ref c_NoSum) = some false
  u_NoKind_StillHeld : PySem.W.subIn K (.ref c_NoKind) (.ref c_StillHeld) = some false
  u_NoKind_TooFew : PySem.W.subIn K (.ref c_NoKind) (.ref c_TooFew) = some false
  u_NoKind_TooLittle : PySem.W.subIn K (.ref c_NoKind) (.ref c_TooLittle) = some false
  u_NoCount_NoTill : PySem.W.subIn K (.ref c_NoCount) (.ref c_NoTill) = some false
  u_NoCount_NoKind : PySem.W.subIn K (.ref c_NoCount) (.ref c_NoKind) = some false
  u_NoCount_Twice : PySem.W.subIn K (.ref c_NoCount) (.ref c_Twice) = some false
  u_NoCount_NoCount : PySem.W.subIn K (.ref c_NoCount) (.ref c_NoCount) = some true
  u_NoCount_TillError : PySem.W.subIn K (.ref c_NoCount) (.ref c_TillError) = some true
  u_NoCount_NoChange : PySem.W.subIn K (.ref c_NoCount) (.ref c_NoChange) = some false
  u_NoCount_NoDeed : PySem.W.subIn K (.ref c_NoCount) (.ref c_NoDeed) = some false
  u_NoCount_NoSum : PySem.W.subIn K (.ref c_NoCount) (.ref c_NoSum) = some false
  u_NoCount_StillHeld : PySem.W.subIn K (.ref c_NoCount) (.ref c_StillHeld) = some false
  u_NoCount_TooFew : PySem.W.subIn K (.ref c_NoCount) (.ref c_TooFew) = some false
  u_NoCount_TooLittle : PySem.W.subIn K (.ref c_NoCount) (.ref c_TooLittle) = some false
  u_NoTill_NoTill : PySem.W.subIn K (.ref c_NoTill) (.ref c_NoTill) = some true
  u_NoTill_NoKind : PySem.W.subIn K (.ref c_NoTill) (.ref c_NoKind) = some false
  u_NoTill_Twice : PySem.W.subIn K (.ref c_NoTill) (.ref c_Twice) = some false
  u_NoTill_NoCount : PySem.W.subIn K (.ref c_NoTill) (.ref c_NoCount) = some false
  u_NoTill_TillError : PySem.W.subIn K (.ref c_NoTill) (.ref c_TillError) = some true
  u_NoTill_NoChange : PySem.W.subIn K (.ref c_NoTill) (.ref c_NoChange) = some false
  u_NoTill_NoDeed : PySem.W.subIn K (.ref c_NoTill) (.ref c_NoDeed) = some false
  u_NoTill_NoSum : PySem.W.subIn K (.ref c_NoTill) (.ref c_NoSum) = some false
  u_NoTill_StillHeld : PySem.W.subIn K (.ref c_NoTill) (.ref c_StillHeld) = some false
  u_NoTill_TooFew : PySem.W.subIn K (.ref c_NoTill) (.ref c_TooFew) = some false
  u_NoTill_TooLittle : PySem.W.subIn K (.ref c_NoTill) (.ref c_TooLittle) = some false
  u_Twice_NoTill : PySem.W.subIn K (.ref c_Twice) (.ref c_NoTill) = some false
  u_Twice_NoKind : PySem.W.subIn K (.ref c_Twice) (.ref c_NoKind) = some false
  u_Twice_Twice : PySem.W.subIn K (.ref c_Twice) (.ref c_Twice) = some true
  u_Twice_NoCount : PySem.W.subIn K (.ref c_Twice) (.ref c_NoCount) = some false
  u_Twice_TillError : PySem.W.subIn K (.ref c_Twice) (.ref c_TillError) = some true
  u_Twice_NoChange : PySem.W.subIn K (.ref c_Twice) (.ref c_NoChange) = some false
  u_Twice_NoDeed : PySem.W.subIn K (.ref c_Twice) (.ref c_NoDeed) = some false
  u_Twice_NoSum : PySem.W.subIn K (.ref c_Twice) (.ref c_NoSum) = some false
  u_Twice_StillHeld : PySem.W.subIn K (.ref c_Twice) (.ref c_StillHeld) = some false
  u_Twice_TooFew : PySem.W.subIn K (.ref c_Twice) (.ref c_TooFew) = some false
  u_Twice_TooLittle : PySem.W.subIn K (.ref c_Twice) (.ref c_TooLittle) = some false
  e_NoKind : ExcC K c_NoKind
  z_NoKind : PySem.W.kitOne K (.ref c_NoKind) (.type "ValueError") = some true
  y_NoKind : PySem.W.kitAny K (.ref c_NoKind) [.ref c_NoChange, .ref c_NoDeed, .ref c_NoSum, .ref c_StillHeld, .ref c_TooFew, .ref c_TooLittle] = some false
  e_NoCount : ExcC K c_NoCount
  z_NoCount : PySem.W.kitOne K (.ref c_NoCount) (.type "ValueError") = some true
  y_NoCount : PySem.W.kitAny K (.ref c_NoCount) [.ref c_NoChange, .ref c_NoDeed, .ref c_NoSum, .ref c_StillHeld, .ref c_TooFew, .ref c_TooLittle] = some false
  e_NoTill : ExcC K c_NoTill
  z_NoTill : PySem.W.kitOne K (.ref c_NoTill) (.type "ValueError") = some true
  y_NoTill : PySem.W.kitAny K (.ref c_NoTill) [.ref c_NoChange, .ref c_NoDeed, .ref c_NoSum, .ref c_StillHeld, .ref c_TooFew, .ref c_TooLittle] = some false
  e_Twice : ExcC K c_Twice
  z_Twice : PySem.W.kitOne K (.ref c_Twice) (.type "ValueError") = some true
  y_Twice : PySem.W.kitAny K (.ref c_Twice) [.ref c_NoChange, .ref c_NoDeed, .ref c_NoSum, .ref c_StillHeld, .ref c_TooFew, .ref c_TooLittle] = some false
  f_check_value : Fun K "check_value" "check_value" s_check_value a_check_value d_check_value
  p_check_value : Binds K d_check_value P_check_value []
  g_check_value : mg "check_value" = some (.ref a_check_value)
  f_check_count : Fun K "check_count" "check_count" s_check_count a_check_count d_check_count
  p_check_count : Binds K d_check_count P_check_count []
  g_check_count : mg "check_count" = some (.ref a_check_count)
  f_till_of : Fun K "till_of" "till_of" s_till_of a_till_of d_till_of
  p_till_of : Binds K d_till_of P_till_of []
  g_till_of : mg "till_of" = some (.ref a_till_of)
  f__law_cell_at : Fun K "_law_cell_at" "_law_cell_at" s__law_cell_at a__law_cell_at d__law_cell_at
  p__law_cell_at : Binds K d__law_cell_at P__law_cell_at []
  g__law_cell_at : mg "_law_cell_at" = some (.ref a__law_cell_at)
  f__law_whole : Fun K "_law_whole" "_law_whole" s__law_whole a__law_whole d__law_whole
  p__law_whole : Binds K d__law_whole P__law_whole []
  g__law_whole : mg "_law_whole" = some (.ref a__law_whole)
  f__law_mixed : Fun K "_law_mixed" "_law_mixed" s__law_mixed a__law_mixed d__law_mixed
  p__law_mixed : Binds K d__law_mixed P__law_mixed []
  g__law_mixed : mg "_law_mixed" = some (.ref a__law_mixed)
  f__law_value : Fun K "_law_value" "_law_value" s__law_value a__law_value d__law_value
  p__law_value : Binds K d__law_value P__law_value []
  g__law_value : mg "_law_value" = some (.ref a__law_value)
  f__law_count : Fun K "_law_count" "_law_count" s__law_count a__law_count d__law_count
  p__law_count : Binds K d__law_count P__law_count []
  g__law_count : mg "_law_count" = some (.ref a__law_count)
  f__law_pairs : Fun K "_law_pairs" "_law_pairs" s__law_pairs a__law_pairs d__law_pairs
  p__law_pairs : Binds K d__law_pairs P__law_pairs []
  g__law_pairs : mg "_law_pairs" = some (.ref a__law_pairs)
  f__law_alike : Fun K "_law_alike" "_law_alike" s__law_alike a__law_alike d__law_alike
  p__law_alike : Binds K d__law_alike P__law_alike []
  g__law_alike : mg "_law_alike" = some (.ref a__law_alike)
  f__law_order : Fun K "_law_order" "_law_order" s__law_order a__law_order d__law_order
  p__law_order : Binds K d__law_order P__law_order []
  g__law_order : mg "_law_order" = some (.ref a__law_order)
  f__law_due : Fun K "_law_due" "_law_due" s__law_due a__law_due d__law_due
  p__law_due : Binds K d__law_due P__law_due []
  g__law_due : mg "_law_due" = some (.ref a__law_due)
  f__law_spoilt : Fun K "_law_spoilt" "_law_spoilt" s__law_spoilt a__law_spoilt d__law_spoilt
  p__law_spoilt : Binds K d__law_spoilt P__law_spoilt []
  g__law_spoilt : mg "_law_spoilt" = some (.ref a__law_spoilt)
  f__law_made : Fun K "_law_made" "_law_made" s__law_made a__law_made d__law_made
  p__law_made : Binds K d__law_made P__law_made []
  g__law_made : mg "_law_made" = some (.ref a__law_made)
  f__law_any : Fun K "_law_any" "_law_any" s__law_any a__law_any d__law_any
  p__law_any : Binds K d__law_any P__law_any []
  g__law_any : mg "_law_any" = some (.ref a__law_any)
  f_law : Fun K "law" "law" s_law a_law d_law
  p_law : Binds K d_law P_law []
  g_law : mg "law" = some (.ref a_law)
  w_MOST_KINDS : ∃ t, mg "MOST_KINDS" = some (.int 10 t)
  w_MOST_VALUE : ∃ t, mg "MOST_VALUE" = some (.int 1000 t)
  w_MOST_COUNT : ∃ t, mg "MOST_COUNT" = some (.int 1000000000 t)
  m_ValueError : mg "ValueError" = none
  m_bool : mg "bool" = none
  m_int : mg "int" = none
  m_isinstance : mg "isinstance" = none
  m_len : mg "len" = none
  m_list : mg "list" = none
  m_range : mg "range" = none
  m_set : mg "set" = none
  m_sorted : mg "sorted" = none
  m_tuple : mg "tuple" = none
section
variable {P : Program} {w : World} {K : PySem.W.Frag} {mg : Str → Option Value} {base : Heap}
/-! ### small things over the layer -/
abbrev CXR (P : Program) (w : World) : CXT := L2.CX P w
abbrev Ex := Evl.Ex
theorem Ex.rfl' {H : Hp} : Ex H H := fun _ _ h => h
theorem Ex.tr {H H1 H2 : Hp} (a : Ex H H1) (b : Ex H1 H2) : Ex H H2 := Evl.Ex.trans a b
theorem Ex.nw {H : Hp} {p : Addr} {o : HO} (h : H p = none) : Ex H (upd H p o) := Evl.Ex.new h
theorem Ex.seq {K : PySem.W.Frag} {H H' : Hp} {a : Addr} {xs : List V} (e : Ex H H') (h : SqL K H a xs) : SqL K H' a xs := Evl.ex_l e h
theorem ipR {X : Cx} {op : Operator} {r : R2} (ho : OpR X (inplaceOp op) r) : PIp X op r := fun pins s σ H x y v u Q I rx ry h => ho pins s σ H x y v u Q I rx ry h
theorem ip_mulR {X : Cx} : PIp X .Mult (rI CMul fun i j => .int (i * j)) := ipR iop_mul
/-- isinstance of the caught error: a class, a tuple of classes just laid; the error's class is told in the reading -/
def rIsE1 (K : PySem.W.Frag) (cls : Value) (d : Option Addr) (a : Addr) : List V → Hp → VK → Prop := fun xs H Q => ∃ (D : Addr) (c : V) (cv : Value) (b : Bool), cls = .ref D ∧ d = none ∧ ExcC K D ∧ xs = [.ref a, c] ∧ (∀ u, RelV c u → u = cv) ∧ PySem.W.kitOne K (.ref D) cv = some b ∧ Q (.bl b) H
theorem call_isE1 {X : Cx} {a : Addr} {cls : Value} {d : Option Addr} {oe : Obj} {pn : List (Addr × Obj)} (hz : Zc cls d oe) (hf : ∃ vs, oe.data = .fields vs) : CallR (X.suite a ((a, oe) :: pn)) (.builtin "isinstance") (rIsE1 X.K cls d a) := by
  intro pins s σ H xs us Q I r h
  obtain ⟨D, c, cv, b, rfl, rfl, C, rfl, hcv, e, q⟩ := h
  exact call_isE C hz hf pins s σ H _ us Q I r ⟨c, cv, b, rfl, hcv, e, q⟩
def rIsET (K : PySem.W.Frag) (cls : Value) (d : Option Addr) (a : Addr) : List V → Hp → VK → Prop := fun xs H Q => ∃ (D tp : Addr) (cs : List V) (us : List Value) (b : Bool), cls = .ref D ∧ d = none ∧ ExcC K D ∧ xs = [.ref a, .ref tp] ∧ H tp = some (.tup cs) ∧ Paired ClsV cs us ∧ PySem.W.kitAny K (.ref D) us = some b ∧ Q (.bl b) H
theorem call_isET {X : Cx} {a : Addr} {cls : Value} {d : Option Addr} {oe : Obj} {pn : List (Addr × Obj)} (hz : Zc cls d oe) (hf : ∃ fs, oe.data = .fields fs) : CallR (X.suite a ((a, oe) :: pn)) (.builtin "isinstance") (rIsET X.K cls d a) := by
  intro pins s σ H xs us Q I r h
  obtain ⟨D, tp, cs, ws, b, rfl, rfl, C, rfl, hT, k, e, q⟩ := h
  obtain ⟨w1, w2, rfl, p1, p2⟩ := vals2 r
  cases (show w2 = Value.ref tp from p2)
  cases (show w1 = Value.ref a from p1)
  obtain ⟨hgt, _⟩ := I.pin (a, oe) (List.mem_append.mpr (.inl List.mem_cons_self))
  obtain ⟨fs, hv⟩ := hf
  have J : PySem.W.InstAt s.heap a oe D none := by
    obtain ⟨oc, od, odt, oss⟩ := oe
    obtain ⟨k1, k2⟩ := hz
    dsimp only at k1 k2 hv
    subst k1 k2 hv
    exact ⟨hgt, rfl, rfl, trivial⟩
  obtain ⟨_, zs, rv, o, k1, k2, n, k3⟩ := (show ObjOk X.prog X.w H s.heap tp (.tup cs) from I.hok tp _ hT)
  have e3 := ClsV.all k rv
  subst e3
  obtain ⟨oc, od, dt, sl⟩ := o
  simp only at k2 k3
  subst k2 k3
  exact PySem.W.kia_tup (PySem.W.handS_kitx_exc C.hg C.hk C.hs C.hd C.ha C.hn C.ht C.hm) I.kIn J k1 e (fun z => nomatch z) fun tk => ⟨.bl b, H, I.tok tk, rfl, q⟩
/-- pairs of ints, each a tracked tuple -/
def Prs (H : Hp) : List V → List (Int × Int) → Prop := Paired fun x p => ∃ t, x = .ref t ∧ H t = some (.tup [.int p.1, .int p.2])
theorem Prs.ex {H H' : Hp} (e : Ex H H') : ∀ {xs : List V} {ps : List (Int × Int)}, Prs H xs ps → Prs H' xs ps
  | _, _, .nil => .nil
  | _, _, .cons ⟨t, h1, h2⟩ r => .cons ⟨t, h1, e _ _ h2⟩ (Prs.ex e r)
theorem Prs.len {H : Hp} {xs : List V} {ps : List (Int × Int)} (h : Prs H xs ps) : xs.length = ps.length := Paired.length h
theorem Prs.snoc {H : Hp} : ∀ {xs : List V} {ps : List (Int × Int)} {x : V} {p : Int × Int}, Prs H xs ps → (∃ t, x = .ref t ∧ H t = some (.tup [.int p.1, .int p.2])) → Prs H (xs ++ [x]) (ps ++ [p])
  | _, _, _, _, .nil, h => .cons h .nil
  | _, _, _, _, .cons a r, h => .cons a (Prs.snoc r h)
theorem Prs.get {H : Hp} : ∀ {xs : List V} {ps : List (Int × Int)} {i : Nat} {x : V}, Prs H xs ps → xs[i]? = some x → ∃ p t, ps[i]? = some p ∧ x = .ref t ∧ H t = some (.tup [.int p.1, .int p.2])
  | _, _, _, _, .nil, e => by simp at e
  | _, _, 0, _, .cons (b := p) ⟨t, h1, h2⟩ _, e => by simp at e; subst e; exact ⟨p, t, by simp, h1, h2⟩
  | _, _, i + 1, x, .cons _ r, e => by
    obtain ⟨p, t, h1, h2⟩ := Prs.get (i := i) (x := x) r (by simpa using e)
    exact ⟨p, t, by simpa using h1, h2⟩
theorem Prs.getL {H : Hp} : ∀ {xs : List V} {ps : List (Int × Int)} {i : Nat} {p : Int × Int}, Prs H xs ps → ps[i]? = some p → ∃ t, xs[i]? = some (.ref t) ∧ H t = some (.tup [.int p.1, .int p.2])
  | _, _, _, _, .nil, e => by simp at e
  | _, _, 0, _, .cons ⟨t, h1, h2⟩ _, e => by simp at e; subst e; exact ⟨t, by simpa using h1, h2⟩
  | _, _, i + 1, p, .cons _ r, e => by
    obtain ⟨t, h1, h2⟩ := Prs.getL (i := i) (p := p) r (by simpa using e)
    exact ⟨t, by simpa using h1, h2⟩
/-- a till (or purse): a list of such pairs -/
def Till (K : PySem.W.Frag) (H : Hp) (a : Addr) (ps : List (Int × Int)) : Prop := ∃ xs, SqL K H a xs ∧ Prs H xs ps
theorem Till.ex {K : PySem.W.Frag} {H H' : Hp} {a : Addr} {ps : List (Int × Int)} (e : Ex H H') (h : Till K H a ps) : Till K H' a ps :=
  let ⟨xs, h1, h2⟩ := h; ⟨xs, Ex.seq e h1, h2.ex e⟩
/-- what a def that gives no new list answers -/
def Ret (v : V) (H : Hp) (Q : VK) : Prop := ∀ H2, Ex H H2 → Q v H2
theorem Ret.at {v : V} {H H' : Hp} {Q : VK} (k : Ret v H Q) (e : Ex H H') : Q v H' := k H' e
theorem len63 {n : Nat} (h : n ≤ 1000000) : n ≤ sizeLine := Nat.le_trans h (by decide)
theorem len63' {n : Nat} (h : n < 1000000) : n < sizeLine := Nat.lt_of_lt_of_le h (by decide)
theorem iteD {c A B : Prop} [Decidable c] (h1 : c → A) (h2 : ¬ c → B) : if decide c = true then A else B := by
  by_cases h : c
  · rw [if_pos (decide_eq_true h)]; exact h1 h
  · rw [if_neg (by simpa using h)]; exact h2 h
theorem iteDN {c A B : Prop} [Decidable c] (h1 : ¬ c → A) (h2 : c → B) : if (!decide c) = true then A else B := by
  by_cases h : c
  · rw [if_neg (by simpa using h)]; exact h2 h
  · rw [if_pos (by simpa using h)]; exact h1 h
theorem iteVI {i j : Int} {A B : Prop} (h1 : i = j → A) (h2 : ¬ i = j → B) : if decide (V.int i = V.int j) = true then A else B :=
  iteD (fun e => h1 (V.int.inj e)) fun e => h2 fun z => e (congrArg V.int z)
theorem iteVN {i j : Int} {A B : Prop} (h1 : ¬ i = j → A) (h2 : i = j → B) : if (!decide (V.int i = V.int j)) = true then A else B :=
  iteDN (fun e => h1 fun z => e (congrArg V.int z)) fun e => h2 (V.int.inj e)
theorem iteB {b : Bool} {A B : Prop} (h1 : b = true → A) (h2 : b = false → B) : if b = true then A else B := by
  cases b with
  | true => exact iteT (h1 rfl)
  | false => exact iteF (h2 rfl)
/-- what «except D» says of an error of the class C -/
theorem exm_mk {K : PySem.W.Frag} {C D : Addr} {b : Bool} (h1 : PySem.W.subIn K (.ref D) (.type "BaseException") = some true) (h2 : PySem.W.isClsIn K D = true) (h3 : PySem.W.typeIn K (.ref D) = some (.type "type")) (h4 : PySem.W.subIn K (.ref C) (.ref D) = some b) :
    PySem.W.exmOne K (.ref C) (.ref D) = some b := by
  have e1 : (PySem.W.subIn K (.ref D) (.type "BaseException") == some true) = true := by rw [h1] <;> rfl
  have e2 : ((PySem.W.clsIn K D).isSome && PySem.W.typeIn K (.ref D) == some (.type "type")) = true := by
    have h2' : (PySem.W.clsIn K D).isSome = true := h2
    rw [h2', h3] <;> rfl
  show (if (PySem.W.subIn K (.ref D) (.type "BaseException") == some true) = true then (if ((PySem.W.clsIn K D).isSome && PySem.W.typeIn K (.ref D) == some (.type "type")) = true then PySem.W.subIn K (.ref C) (.ref D) else none) else none) = some b
  rw [if_pos e1, if_pos e2]
  exact h4
theorem Ex.mu {H H' : Hp} {p : Addr} {o : HO} (e : Ex H H') (h : H p = none) : Ex H (upd H' p o) := Evl.Ex.mut e h
theorem Prs.up {H : Hp} {f : Addr} {o : HO} (hf : ∀ ys, H f ≠ some (.tup ys)) : ∀ {xs : List V} {ps : List (Int × Int)}, Prs H xs ps → Prs (upd H f o) xs ps
  | _, _, .nil => .nil
  | _, _, .cons ⟨t, h1, h2⟩ r => .cons ⟨t, h1, by rw [upd_ne fun e => hf _ (e ▸ h2)]; exact h2⟩ (Prs.up hf r)
/-- the pair that stands at an address -/
def pairAt (H : Hp) : V → Int × Int
  | .ref t => match H t with
    | some (.tup [.int i, .int j]) => (i, j)
    | _ => (0, 0)
  | _ => (0, 0)
theorem pairAt_eq {H : Hp} {t : Addr} {i j : Int} (h : H t = some (.tup [.int i, .int j])) : pairAt H (.ref t) = (i, j) := by
  show (match H t with | some (.tup [.int i, .int j]) => (i, j) | _ => (0, 0)) = (i, j)
  rw [h]
theorem Prs.map {H : Hp} : ∀ {xs : List V} {ps : List (Int × Int)}, Prs H xs ps → ps = xs.map (pairAt H)
  | _, _, .nil => rfl
  | _, _, .cons ⟨t, h1, h2⟩ r => by rw [List.map_cons, ← Prs.map r, h1, pairAt_eq h2]
theorem Prs.all {H : Hp} {xs : List V} {ps : List (Int × Int)} (h : Prs H xs ps) : ∀ x ∈ xs, ∃ t, x = V.ref t ∧ H t = some (.tup [.int (pairAt H x).1, .int (pairAt H x).2]) := by
  intro x hx
  obtain ⟨i, hi, e⟩ := List.getElem_of_mem hx
  obtain ⟨p, t, h1, h2, h3⟩ := Prs.get h (by rw [List.getElem?_eq_getElem hi, e])
  refine ⟨t, h2, ?_⟩
  rw [h2, pairAt_eq h3]
  exact h3
theorem Prs.of {H : Hp} : ∀ {xs : List V}, (∀ x ∈ xs, ∃ t, x = V.ref t ∧ H t = some (.tup [.int (pairAt H x).1, .int (pairAt H x).2])) → Prs H xs (xs.map (pairAt H))
  | [], _ => .nil
  | x :: xs, h => .cons (h x List.mem_cons_self) (Prs.of fun y hy => h y (List.mem_cons_of_mem _ hy))
/-- the pairs rise by value and are apart -/
def Rising (ps : List (Int × Int)) : Prop := ps.Pairwise fun p q => p.1 < q.1
theorem rising_of {H : Hp} {ys : List V} (hs : SrtO.Srtd (ltP (pairAt H)) ys) (nd : ((ys.map (pairAt H)).map (·.1)).Nodup) : Rising (ys.map (pairAt H)) := by
  unfold Rising
  rw [List.pairwise_map]
  rw [List.map_map, List.Nodup, List.pairwise_map] at nd
  refine (hs.and nd).imp ?_
  intro a b h
  have h1 := SrtO.lexB_no.mp h.1
  have h2 : (pairAt H a).1 ≠ (pairAt H b).1 := h.2
  omega
/-- sorted of such pairs -/
theorem sorted_prs {H : Hp} {xs ys : List V} {ps : List (Int × Int)} (hp : Prs H xs ps) (nd : (ps.map (·.1)).Nodup) (h1 : SrtO.Srtd (ltP (pairAt H)) ys) (h2 : SrtO.Stb (ltP (pairAt H)) ys xs) :
    ∃ qs, Prs H ys qs ∧ qs.Perm ps ∧ Rising qs := by
  have hpm : (ys.map (pairAt H)).Perm ps := by
    rw [hp.map]
    exact h2.perm.map _
  exact ⟨ys.map (pairAt H), Prs.of fun y hy => hp.all y (h2.perm.mem_iff.mp hy), hpm, rising_of h1 ((hpm.map _).nodup_iff.mpr nd)⟩
/-- what a till drawn here is: 1 to 10 kinds, apart, in bounds -/
structure Drawn (ps : List (Int × Int)) : Prop where
  nd : (ps.map (·.1)).Nodup
  val : ∀ p ∈ ps, 1 ≤ p.1 ∧ p.1 ≤ 1000
  cnt : ∀ p ∈ ps, 0 ≤ p.2 ∧ p.2 ≤ 1000000000
theorem Drawn.perm {ps qs : List (Int × Int)} (d : Drawn ps) (h : qs.Perm ps) : Drawn qs :=
  ⟨(h.map _).nodup_iff.mpr d.nd, fun p hp => d.val p (h.mem_iff.mp hp), fun p hp => d.cnt p (h.mem_iff.mp hp)⟩
/-- a till as data -/
def dP (p : Int × Int) : PyData := .tuple [.int p.1, .int p.2]
theorem prs_dp {K : PySem.W.Frag} {H : Hp} : ∀ {xs : List V} {ps : List (Int × Int)}, Prs H xs ps → DpAll K H xs (ps.map dP)
  | _, _, .nil => .nil
  | _, _, .cons ⟨t, h1, h2⟩ r => .cons (h1 ▸ .tup (.of h2) (.cons (.int _) (.cons (.int _) .nil))) (prs_dp r)
theorem till_dp {K : PySem.W.Frag} {H : Hp} {a : Addr} {ps : List (Int × Int)} (h : Till K H a ps) : Dp K H (.ref a) (.list (ps.map dP)) :=
  let ⟨_, h1, h2⟩ := h; .lst h1 (prs_dp h2)
theorem canLay_dPs : ∀ ps : List (Int × Int), PyData.canLayAll0 (ps.map dP) = true
  | [] => rfl
  | p :: r => by
    rw [List.map_cons]
    show (PyData.canLay0 (dP p) && PyData.canLayAll0 (r.map dP)) = true
    rw [canLay_dPs r]
    rfl
theorem depth_dPs : ∀ ps : List (Int × Int), PyData.depthAll (ps.map dP) ≤ 3
  | [] => by decide
  | p :: r => by
    have h := depth_dPs r
    rw [List.map_cons]
    show max (PyData.depth (dP p)) (PyData.depthAll (r.map dP)) ≤ 3
    have : PyData.depth (dP p) ≤ 3 := by
      show PyData.depth (.tuple [.int p.1, .int p.2]) ≤ 3
      simp [PyData.depth, PyData.depthAll]
    omega
theorem shaped_till (ps : List (Int × Int)) : SeqAt.shaped (.list (ps.map dP)) = true := by
  unfold SeqAt.shaped
  have h1 : PyData.canLay0 (.list (ps.map dP)) = true := canLay_dPs ps
  have h2 : PyData.depth (.list (ps.map dP)) ≤ 64 := by
    have := depth_dPs ps
    simp only [PyData.depth]
    omega
  rw [h1, decide_eq_true h2]
  rfl
theorem eqv_of_shaped {d : PyData} (h : SeqAt.shaped d = true) : PyData.eqv d d = true := PySem.SeqAt.eqv_refl d (SeqAt.canLay_of_shaped h)
theorem t_yes {A B : Hp → Prop} {σ : L2.St} {H : Hp} (h : A H) : tYes σ H (fun b H3 => if b = true then A H3 else B H3) := by
  show if true = true then A H else B H
  rw [if_pos rfl]
  exact h
theorem canLay_ints : ∀ l : List Int, PyData.canLayAll0 (l.map PyData.int) = true
  | [] => rfl
  | p :: r => by
    rw [List.map_cons]
    show (PyData.canLay0 (.int p) && PyData.canLayAll0 (r.map PyData.int)) = true
    rw [canLay_ints r]
    rfl
theorem depth_ints : ∀ l : List Int, PyData.depthAll (l.map PyData.int) ≤ 3
  | [] => by decide
  | p :: r => by
    have h := depth_ints r
    rw [List.map_cons]
    show max (PyData.depth (.int p)) (PyData.depthAll (r.map PyData.int)) ≤ 3
    have : PyData.depth (.int p) ≤ 3 := by simp [PyData.depth]
    omega
theorem shaped_ints (l : List Int) : SeqAt.shaped (.list (l.map PyData.int)) = true := by
  unfold SeqAt.shaped
  have h1 : PyData.canLay0 (.list (l.map PyData.int)) = true := canLay_ints l
  have h2 : PyData.depth (.list (l.map PyData.int)) ≤ 64 := by
    have := depth_ints l
    simp only [PyData.depth]
    omega
  rw [h1, decide_eq_true h2]
  rfl
theorem kone_own {K : PySem.W.Frag} {D C : Addr} {b : Bool} (hn : D ≠ C) (h2 : PySem.W.isClsIn K C = true) (h3 : PySem.W.typeIn K (.ref C) = some (.type "type")) (h4 : PySem.W.subIn K (.ref D) (.ref C) = some b) : PySem.W.kitOne K (.ref D) (.ref C) = some b := by
  have e1 : ¬ (Value.ref D == Value.ref C) = true := fun z => hn (Value.ref.inj (beq_iff_eq.mp z))
  have e2 : ((PySem.W.clsIn K C).isSome && PySem.W.typeIn K (.ref C) == some (.type "type")) = true := by
    have h2' : (PySem.W.clsIn K C).isSome = true := h2
    rw [h2', h3] <;> rfl
  unfold PySem.W.kitOne
  rw [if_neg e1]
  show (if ((PySem.W.clsIn K C).isSome && PySem.W.typeIn K (.ref C) == some (.type "type")) = true then PySem.W.subIn K (.ref D) (.ref C) else none) = some b
  rw [if_pos e2]
  exact h4
theorem kone_self {K : PySem.W.Frag} {D : Addr} : PySem.W.kitOne K (.ref D) (.ref D) = some true := by
  unfold PySem.W.kitOne
  rw [if_pos (beq_self_eq_true _)]
theorem kone_ty {K : PySem.W.Frag} {D : Addr} (h : PySem.W.subIn K (.ref D) (.type "ValueError") = some true) : PySem.W.kitOne K (.ref D) (.type "ValueError") = some true := by
  have e1 : ¬ (Value.ref D == Value.type "ValueError") = true := fun z => by cases beq_iff_eq.mp z
  unfold PySem.W.kitOne
  rw [if_neg e1]
  show (if PySem.W.kitMeta "ValueError" = true then PySem.W.subIn K (.ref D) (.type "ValueError") else none) = some true
  rw [if_pos (by decide +kernel)]
  exact h
theorem kany_f {K : PySem.W.Frag} {t c : Value} {cs : List Value} {r : Bool} (h : PySem.W.kitOne K t c = some false) (hr : PySem.W.kitAny K t cs = some r) : PySem.W.kitAny K t (c :: cs) = some r :=
  kitAny_cons h (fun _ => hr) fun z => nomatch z
theorem kany_t {K : PySem.W.Frag} {t c : Value} {cs : List Value} (h : PySem.W.kitOne K t c = some true) : PySem.W.kitAny K t (c :: cs) = some true :=
  kitAny_cons h (fun z => nomatch z) fun _ => rfl
/-! ### what the law draws -/
def cell (ns : List Int) (k : Nat) : Int := ns.getD k 0
def mixed (c k : Int) : Int := (c + 7919 * k) * 48271 % 2147483647
theorem mixed_nn (c k : Int) : 0 ≤ mixed c k := Int.emod_nonneg _ (by decide)
theorem mixed_lt (c k : Int) : mixed c k < 2147483647 := Int.emod_lt_of_pos _ (by decide)
def spCellAt (K : PySem.W.Frag) : Sp := fun vs H Q _ => ∃ (a : Addr) (ns : List Int) (k : Nat), vs = [.ref a, .int k] ∧ SqL K H a (ns.map V.int) ∧ Q (.int (cell ns k)) H
theorem ok_cell_at (T : Tx K mg) : FnOk P w K mg base CX0 1 T.a__law_cell_at T.d__law_cell_at P__law_cell_at (spCellAt K) := by
  refine T.f__law_cell_at.ok sc__law_cell_at (fun vs H Q E h => ?_) (fun cdv A outer s H vs Q E hr h => ?_)
  · obtain ⟨a, ns, k, rfl, _⟩ := h
    rfl
  · obtain ⟨a, ns, k, rfl, hS, q⟩ := h
    refine ⟨_, (pss_cons (ps_if (pt_cmpR op_lt (pv 1) (pe_callB call_len_seq (by rfl) T.m_len (by decide +kernel) (pa_cons (pv 0) pa_nil)) (nomark _))
      (pss_one (ps_ret (pe_ix ix_list (pv 0) (pv 1) (fun _ _ => rfl))))
      pss_nil)
    (pss_one (ps_ret pe_int))), ?_⟩
    refine ⟨_, rfl, _, rfl, a, _, rfl, .inl hS, _, _, rfl, rfl, _, rfl, ite2 (fun e => ?_) (fun e => ?_)⟩
    · have e1 : (k : Int) < ((ns.map V.int).length : Int) := of_decide_eq_true e
      rw [List.length_map] at e1
      have e2 : k < ns.length := by omega
      refine ⟨_, rfl, _, rfl, a, _, _, .int (cell ns k), rfl, rfl, hS, atI_nat ?_, q⟩
      rw [List.getElem?_map, List.getElem?_eq_getElem e2]
      show some (V.int ns[k]) = _
      unfold cell
      rw [List.getD_eq_getElem?_getD, List.getElem?_eq_getElem e2]
      rfl
    · have e1 : ¬ (k : Int) < ((ns.map V.int).length : Int) := fun z => e (decide_eq_true z)
      rw [List.length_map] at e1
      have e2 : cell ns k = 0 := by
        unfold cell
        rw [List.getD_eq_getElem?_getD, List.getElem?_eq_none (by omega)]
        rfl
      rw [e2] at q
      exact q
def spMixed : Sp := fun vs H Q _ => ∃ c k, vs = [.int c, .int k] ∧ (-(2 ^ 64) < k ∧ k < 2 ^ 64) ∧ Q (.int (mixed c k)) H
theorem ok_mixed (T : Tx K mg) : FnOk P w K mg base CX0 1 T.a__law_mixed T.d__law_mixed P__law_mixed spMixed := by
  refine T.f__law_mixed.ok sc__law_mixed (fun vs H Q E h => ?_) (fun cdv A outer s H vs Q E hr h => ?_)
  · obtain ⟨c, k, rfl, _⟩ := h
    rfl
  · obtain ⟨c, k, rfl, hk, q⟩ := h
    refine ⟨_, (pss_one (ps_ret (pe_op op_mod (pe_op op_mul (pe_op op_add (pv 0) (pe_op op_mul pe_int (pv 1))) pe_int) pe_int))), ?_⟩
    repeat (first | refine ⟨_, rfl, ?_⟩ | refine ⟨(by show (0 : Int) < _; decide), ?_⟩ | refine ⟨⟨by decide, by decide⟩, ?_⟩ | refine ⟨.inr ⟨by decide, by decide⟩, ?_⟩ | refine ⟨.inl ⟨by decide, by decide⟩, ?_⟩ | refine ⟨⟨by decide, by decide, by decide⟩, ?_⟩ | refine ⟨_, _, rfl, rfl, ?_⟩ | refine ⟨rfl, _, rfl, ?_⟩)
    exact q
def menu : List Int := [1, 2, 5, 10, 20, 50, 100, 200, 500, 1000]
def value (c k : Int) : Int := if c % 3 = 0 then menu.getD (mixed c k % 10).toNat 0 else if c % 3 = 1 then 1 + mixed c k % 30 else 1 + mixed c k % 1000
theorem menu_in : ∀ i : Nat, i < 10 → 1 ≤ menu.getD i 0 ∧ menu.getD i 0 ≤ 1000 := by decide
theorem value_in (c k : Int) : 1 ≤ value c k ∧ value c k ≤ 1000 := by
  unfold value
  split
  · exact menu_in _ (by have := Int.emod_lt_of_pos (mixed c k) (by decide : (0 : Int) < 10); have := Int.emod_nonneg (mixed c k) (by decide : (10 : Int) ≠ 0); omega)
  · split <;> omega
theorem menu_at {ms : List Int} {i : Int} {n : Nat} (hl : ms.length = n) (h0 : 0 ≤ i) (h1 : i < n) : atI (ms.map V.int) i = some (.int (ms.getD i.toNat 0)) := by
  have hn : ((i.toNat : Nat) : Int) = i := Int.toNat_of_nonneg h0
  have hlt : i.toNat < ms.length := by omega
  refine at_of hn.symm ?_
  rw [List.getElem?_map, List.getElem?_eq_getElem hlt, List.getD_eq_getElem?_getD, List.getElem?_eq_getElem hlt]
  rfl
def spValue : Sp := fun vs H Q _ => ∃ c k, vs = [.int c, .int k] ∧ (-(2 ^ 64) < k ∧ k < 2 ^ 64) ∧ Ret (.int (value c k)) H Q
theorem ok_value (T : Tx K mg) : FnOk P w K mg base CX0 2 T.a__law_value T.d__law_value P__law_value spValue := by
  have G__law_mixed := ok_mixed (P := P) (w := w) (base := base) T
  refine T.f__law_value.ok sc__law_value (fun vs H Q E h => ?_) (fun cdv A outer s H vs Q E hr h => ?_)
  · obtain ⟨c, k, rfl, _⟩ := h
    rfl
  · obtain ⟨c, k, rfl, hk, q⟩ := h
    refine ⟨_, (pss_cons (ps_set (i := 2) sc__law_value.nd rfl (.inl rfl) (pe_call G__law_mixed (hr.mono (by decide)) (by rfl) T.g__law_mixed T.f__law_mixed.kp T.p__law_mixed .nil pass0 (pa_cons (pv 0) (pa_cons (pv 1) pa_nil))))
    (pss_cons (ps_if (pt_cmpR op_eq (pe_op op_mod (pv 0) pe_int) pe_int (nomark _))
      (pss_one (ps_ret (pe_ix ix_list (pe_lst (pa_cons pe_int (pa_cons pe_int (pa_cons pe_int (pa_cons pe_int (pa_cons pe_int (pa_cons pe_int (pa_cons pe_int (pa_cons pe_int (pa_cons pe_int (pa_cons pe_int pa_nil))))))))))) (pe_op op_mod (pv 2) pe_int) (fun _ _ => rfl))))
      pss_nil)
    (pss_cons (ps_if (pt_cmpR op_eq (pe_op op_mod (pv 0) pe_int) pe_int (nomark _))
      (pss_one (ps_ret (pe_op op_add pe_int (pe_op op_mod (pv 2) pe_int))))
      pss_nil)
    (pss_one (ps_ret (pe_op op_add pe_int (pe_op op_mod (pv 2) pe_int))))))), ?_⟩
    unfold value at q
    repeat (first | refine ⟨_, rfl, ?_⟩ | refine ⟨(by show (0 : Int) < _; decide), ?_⟩ | refine ⟨⟨by decide, by decide⟩, ?_⟩ | refine ⟨.inr ⟨by decide, by decide⟩, ?_⟩ | refine ⟨.inl ⟨by decide, by decide⟩, ?_⟩ | refine ⟨⟨by decide, by decide, by decide⟩, ?_⟩ | refine ⟨_, _, rfl, rfl, ?_⟩ | refine ⟨rfl, _, rfl, ?_⟩)
    refine ⟨_, _, rfl, hk, ?_⟩
    repeat (first | refine ⟨_, rfl, ?_⟩ | refine ⟨(by show (0 : Int) < _; decide), ?_⟩ | refine ⟨⟨by decide, by decide⟩, ?_⟩ | refine ⟨.inr ⟨by decide, by decide⟩, ?_⟩ | refine ⟨.inl ⟨by decide, by decide⟩, ?_⟩ | refine ⟨⟨by decide, by decide, by decide⟩, ?_⟩ | refine ⟨_, _, rfl, rfl, ?_⟩ | refine ⟨rfl, _, rfl, ?_⟩)
    first | refine iteVI (fun e => ?_) (fun e => ?_) | refine iteVN (fun e => ?_) (fun e => ?_) | refine iteD (fun e => ?_) (fun e => ?_) | refine iteDN (fun e => ?_) (fun e => ?_) | refine iteB (fun e => ?_) (fun e => ?_)
    · rw [if_pos e] at q
      refine ⟨len63 (by decide), fun p hp => ?_⟩
      repeat (first | refine ⟨_, rfl, ?_⟩ | refine ⟨(by show (0 : Int) < _; decide), ?_⟩ | refine ⟨⟨by decide, by decide⟩, ?_⟩ | refine ⟨.inr ⟨by decide, by decide⟩, ?_⟩ | refine ⟨.inl ⟨by decide, by decide⟩, ?_⟩ | refine ⟨⟨by decide, by decide, by decide⟩, ?_⟩ | refine ⟨_, _, rfl, rfl, ?_⟩ | refine ⟨rfl, _, rfl, ?_⟩)
      exact ⟨p, menu.map V.int, _, _, rfl, rfl, .of upd_same, menu_at rfl (Int.emod_nonneg _ (by decide)) (Int.emod_lt_of_pos _ (by decide)), q _ (Ex.nw hp)⟩
    · rw [if_neg e] at q
      repeat (first | refine ⟨_, rfl, ?_⟩ | refine ⟨(by show (0 : Int) < _; decide), ?_⟩ | refine ⟨⟨by decide, by decide⟩, ?_⟩ | refine ⟨.inr ⟨by decide, by decide⟩, ?_⟩ | refine ⟨.inl ⟨by decide, by decide⟩, ?_⟩ | refine ⟨⟨by decide, by decide, by decide⟩, ?_⟩ | refine ⟨_, _, rfl, rfl, ?_⟩ | refine ⟨rfl, _, rfl, ?_⟩)
      first | refine iteVI (fun e => ?_) (fun e => ?_) | refine iteVN (fun e => ?_) (fun e => ?_) | refine iteD (fun e => ?_) (fun e => ?_) | refine iteDN (fun e => ?_) (fun e => ?_) | refine iteB (fun e => ?_) (fun e => ?_)
      · rw [if_pos e] at q
        repeat (first | refine ⟨_, rfl, ?_⟩ | refine ⟨(by show (0 : Int) < _; decide), ?_⟩ | refine ⟨⟨by decide, by decide⟩, ?_⟩ | refine ⟨.inr ⟨by decide, by decide⟩, ?_⟩ | refine ⟨.inl ⟨by decide, by decide⟩, ?_⟩ | refine ⟨⟨by decide, by decide, by decide⟩, ?_⟩ | refine ⟨_, _, rfl, rfl, ?_⟩ | refine ⟨rfl, _, rfl, ?_⟩)
        exact q _ Ex.rfl'
      · rw [if_neg e] at q
        repeat (first | refine ⟨_, rfl, ?_⟩ | refine ⟨(by show (0 : Int) < _; decide), ?_⟩ | refine ⟨⟨by decide, by decide⟩, ?_⟩ | refine ⟨.inr ⟨by decide, by decide⟩, ?_⟩ | refine ⟨.inl ⟨by decide, by decide⟩, ?_⟩ | refine ⟨⟨by decide, by decide, by decide⟩, ?_⟩ | refine ⟨_, _, rfl, rfl, ?_⟩ | refine ⟨rfl, _, rfl, ?_⟩)
        exact q _ Ex.rfl'
def count (c k : Int) : Int := if c / 3 % 4 = 1 then mixed c k % 61 else if c / 3 % 12 = 6 then mixed c k / 7 % 2 * (1000000000 - mixed c k % 50) else mixed c k % 5
theorem count_in (c k : Int) : 0 ≤ count c k ∧ count c k ≤ 1000000000 := by
  unfold count
  split
  · omega
  · split
    · rcases (by omega : mixed c k / 7 % 2 = 0 ∨ mixed c k / 7 % 2 = 1) with h | h <;> rw [h] <;> omega
    · omega
def spCount : Sp := fun vs H Q _ => ∃ c k, vs = [.int c, .int k] ∧ (-(2 ^ 64) < k ∧ k < 2 ^ 64) ∧ Q (.int (count c k)) H
theorem ok_count (T : Tx K mg) : FnOk P w K mg base CX0 2 T.a__law_count T.d__law_count P__law_count spCount := by
  have G__law_mixed := ok_mixed (P := P) (w := w) (base := base) T
  refine T.f__law_count.ok sc__law_count (fun vs H Q E h => ?_) (fun cdv A outer s H vs Q E hr h => ?_)
  · obtain ⟨c, k, rfl, _⟩ := h
    rfl
  · obtain ⟨c, k, rfl, hk, q⟩ := h
    refine ⟨_, (pss_cons (ps_set (i := 2) sc__law_count.nd rfl (.inl rfl) (pe_call G__law_mixed (hr.mono (by decide)) (by rfl) T.g__law_mixed T.f__law_mixed.kp T.p__law_mixed .nil pass0 (pa_cons (pv 0) (pa_cons (pv 1) pa_nil))))
    (pss_cons (ps_if (pt_cmpR op_eq (pe_op op_mod (pe_op op_fdiv (pv 0) pe_int) pe_int) pe_int (nomark _))
      (pss_one (ps_ret (pe_op op_mod (pv 2) pe_int)))
      pss_nil)
    (pss_cons (ps_if (pt_cmpR op_eq (pe_op op_mod (pe_op op_fdiv (pv 0) pe_int) pe_int) pe_int (nomark _))
      (pss_one (ps_ret (pe_op op_mul (pe_op op_mod (pe_op op_fdiv (pv 2) pe_int) pe_int) (pe_op op_sub (pe_op op_pow pe_int pe_int) (pe_op op_mod (pv 2) pe_int)))))
      pss_nil)
    (pss_one (ps_ret (pe_op op_mod (pv 2) pe_int)))))), ?_⟩
    unfold count at q
    repeat (first | refine ⟨_, rfl, ?_⟩ | refine ⟨(by show (0 : Int) < _; decide), ?_⟩ | refine ⟨⟨by decide, by decide⟩, ?_⟩ | refine ⟨.inr ⟨by decide, by decide⟩, ?_⟩ | refine ⟨.inl ⟨by decide, by decide⟩, ?_⟩ | refine ⟨⟨by decide, by decide, by decide⟩, ?_⟩ | refine ⟨_, _, rfl, rfl, ?_⟩ | refine ⟨rfl, _, rfl, ?_⟩)
    refine ⟨_, _, rfl, hk, ?_⟩
    repeat (first | refine ⟨_, rfl, ?_⟩ | refine ⟨(by show (0 : Int) < _; decide), ?_⟩ | refine ⟨⟨by decide, by decide⟩, ?_⟩ | refine ⟨.inr ⟨by decide, by decide⟩, ?_⟩ | refine ⟨.inl ⟨by decide, by decide⟩, ?_⟩ | refine ⟨⟨by decide, by decide, by decide⟩, ?_⟩ | refine ⟨_, _, rfl, rfl, ?_⟩ | refine ⟨rfl, _, rfl, ?_⟩)
    first | refine iteVI (fun e => ?_) (fun e => ?_) | refine iteVN (fun e => ?_) (fun e => ?_) | refine iteD (fun e => ?_) (fun e => ?_) | refine iteDN (fun e => ?_) (fun e => ?_) | refine iteB (fun e => ?_) (fun e => ?_)
    · rw [if_pos e] at q
      repeat (first | refine ⟨_, rfl, ?_⟩ | refine ⟨(by show (0 : Int) < _; decide), ?_⟩ | refine ⟨⟨by decide, by decide⟩, ?_⟩ | refine ⟨.inr ⟨by decide, by decide⟩, ?_⟩ | refine ⟨.inl ⟨by decide, by decide⟩, ?_⟩ | refine ⟨⟨by decide, by decide, by decide⟩, ?_⟩ | refine ⟨_, _, rfl, rfl, ?_⟩ | refine ⟨rfl, _, rfl, ?_⟩)
      exact q
    · rw [if_neg e] at q
      repeat (first | refine ⟨_, rfl, ?_⟩ | refine ⟨(by show (0 : Int) < _; decide), ?_⟩ | refine ⟨⟨by decide, by decide⟩, ?_⟩ | refine ⟨.inr ⟨by decide, by decide⟩, ?_⟩ | refine ⟨.inl ⟨by decide, by decide⟩, ?_⟩ | refine ⟨⟨by decide, by decide, by decide⟩, ?_⟩ | refine ⟨_, _, rfl, rfl, ?_⟩ | refine ⟨rfl, _, rfl, ?_⟩)
      first | refine iteVI (fun e => ?_) (fun e => ?_) | refine iteVN (fun e => ?_) (fun e => ?_) | refine iteD (fun e => ?_) (fun e => ?_) | refine iteDN (fun e => ?_) (fun e => ?_) | refine iteB (fun e => ?_) (fun e => ?_)
      · rw [if_pos e] at q
        have h1 := mixed_nn c k
        have h2 := mixed_lt c k
        repeat (first | refine ⟨_, rfl, ?_⟩ | refine ⟨(by show (0 : Int) < _; decide), ?_⟩ | refine ⟨⟨by decide, by decide⟩, ?_⟩ | refine ⟨.inr ⟨by decide, by decide⟩, ?_⟩ | refine ⟨.inl ⟨by decide, by decide⟩, ?_⟩ | refine ⟨⟨by decide, by decide, by decide⟩, ?_⟩ | refine ⟨_, _, rfl, rfl, ?_⟩ | refine ⟨rfl, _, rfl, ?_⟩)
        refine ⟨.inl ⟨by omega, by omega⟩, ?_⟩
        exact q
      · rw [if_neg e] at q
        repeat (first | refine ⟨_, rfl, ?_⟩ | refine ⟨(by show (0 : Int) < _; decide), ?_⟩ | refine ⟨⟨by decide, by decide⟩, ?_⟩ | refine ⟨.inr ⟨by decide, by decide⟩, ?_⟩ | refine ⟨.inl ⟨by decide, by decide⟩, ?_⟩ | refine ⟨⟨by decide, by decide, by decide⟩, ?_⟩ | refine ⟨_, _, rfl, rfl, ?_⟩ | refine ⟨rfl, _, rfl, ?_⟩)
        exact q
/-! the kinds: a value that stands already is moved on -/
def nxt (v : Int) : Int := v % 1000 + 1
def itn (v : Int) (j : Nat) : Int := (v - 1 + j) % 1000 + 1
theorem itn_zero {v : Int} (h1 : 1 ≤ v) (h2 : v ≤ 1000) : itn v 0 = v := by unfold itn; omega
theorem itn_succ (v : Int) (j : Nat) : itn v (j + 1) = nxt (itn v j) := by unfold itn nxt; omega
theorem itn_in (v : Int) (j : Nat) : 1 ≤ itn v j ∧ itn v j ≤ 1000 := by unfold itn; omega
theorem itn_inj {v : Int} {i j : Nat} (hi : i < 1000) (hj : j < 1000) (h : itn v i = itn v j) : i = j := by unfold itn at h; omega
theorem escape : ∀ (n : Nat) (ks : List Int) (f : Nat → Int), ks.length = n → (∀ i j, i ≤ n → j ≤ n → f i = f j → i = j) → ∃ j, j ≤ n ∧ f j ∉ ks
  | 0, ks, f, hl, _ => ⟨0, Nat.le_refl _, by rw [List.length_eq_zero_iff.mp hl]; simp⟩
  | n + 1, ks, f, hl, hf => by
    by_cases h : f 0 ∈ ks
    · obtain ⟨j, hj, hn⟩ := escape n (ks.erase (f 0)) (fun i => f (i + 1)) (by rw [List.length_erase_of_mem h]; omega) fun i j hi hj e => by
        have := hf (i + 1) (j + 1) (by omega) (by omega) e
        omega
      refine ⟨j + 1, by omega, fun z => hn ?_⟩
      refine (List.mem_erase_of_ne fun e => ?_).mpr z
      have := hf (j + 1) 0 (by omega) (by omega) e
      omega
    · exact ⟨0, Nat.zero_le _, h⟩
theorem free_at {ks : List Int} (v : Int) (h : ks.length < 1000) : ∃ j, itn v j ∉ ks := by
  obtain ⟨j, _, hn⟩ := escape ks.length ks (itn v) rfl fun i j hi hj e => itn_inj (by omega) (by omega) e
  exact ⟨j, hn⟩
theorem least {p : Nat → Prop} (h : ∃ j, p j) : ∃ j, p j ∧ ∀ i, i < j → ¬ p i := by
  obtain ⟨j, hj⟩ := h
  induction j using Nat.strongRecOn with
  | _ j ih =>
    by_cases z : ∃ i, i < j ∧ p i
    · obtain ⟨i, hi, hp⟩ := z
      exact ih i hi hp
    · exact ⟨j, hj, fun i hi hp => z ⟨i, hi, hp⟩⟩
def dkv (ks : List Int) : List (Key × V) := ks.map fun k => (Sum.inl k, V.bl true)
theorem dkv_none {ks : List Int} {k : Int} (h : k ∉ ks) : valV (dkv ks) (Sum.inl k) = none := by
  cases e : valV (dkv ks) (Sum.inl k) with
  | none => rfl
  | some v =>
    have := valV_in e
    unfold dkv at this
    rw [List.map_map] at this
    obtain ⟨x, hx, ex⟩ := List.mem_map.mp this
    cases ex
    exact absurd hx h
theorem dkv_some {ks : List Int} {k : Int} (h : k ∈ ks) : ∃ v, valV (dkv ks) (Sum.inl k) = some v := by
  cases e : valV (dkv ks) (Sum.inl k) with
  | some v => exact ⟨v, rfl⟩
  | none =>
    refine absurd ?_ (valV_not e)
    unfold dkv
    rw [List.map_map]
    exact List.mem_map.mpr ⟨k, h, rfl⟩
theorem dkv_put {ks : List Int} {k : Int} (h : k ∉ ks) : putK (dkv ks) (Sum.inl k) (V.bl true) = dkv (ks ++ [k]) := by
  rw [putK_new _ (dkv_none h)]
  unfold dkv
  rw [List.map_append]
  rfl
def spPairs (K : PySem.W.Frag) : Sp := fun vs H Q _ => ∃ (a : Addr) (ns : List Int), vs = [.ref a] ∧ SqL K H a (ns.map V.int) ∧
  ∀ p xs ps H2, Ex H H2 → H p = none → H2 p = some (.lst xs) → Prs H2 xs ps → Drawn ps → 1 ≤ ps.length → ps.length ≤ 10 → Q (.ref p) H2
theorem ok_pairs (T : Tx K mg) : FnOk P w K mg base CX0 3 T.a__law_pairs T.d__law_pairs P__law_pairs (spPairs K) := by
  have G__law_cell_at := ok_cell_at (P := P) (w := w) (base := base) T
  have G__law_value := ok_value (P := P) (w := w) (base := base) T
  have G__law_count := ok_count (P := P) (w := w) (base := base) T
  refine T.f__law_pairs.ok sc__law_pairs (fun vs H Q E h => ?_) (fun cdv A outer s H vs Q E hr h => ?_)
  · obtain ⟨a, ns, rfl, _⟩ := h
    rfl
  · obtain ⟨a, ns, rfl, hS, q⟩ := h
    refine ⟨_, (pss_cons (ps_set (i := 1) sc__law_pairs.nd rfl (.inl rfl) (pe_call G__law_cell_at (hr.mono (by decide)) (by rfl) T.g__law_cell_at T.f__law_cell_at.kp T.p__law_cell_at .nil pass0 (pa_cons (pv 0) (pa_cons pe_int pa_nil))))
    (pss_cons (ps_set (i := 2) sc__law_pairs.nd rfl (.inl rfl) (pe_op op_add pe_int (pe_op op_mod (pv 1) pe_int)))
    (Evl.pss_cut (ps_if (pt_cmpR op_eq (pe_op op_mod (pe_op op_fdiv (pv 1) pe_int) pe_int) pe_int (nomark _))
      (pss_one (ps_set (i := 2) sc__law_pairs.nd rfl (.inl rfl) (pe_op op_add pe_int (pe_op op_mod (pe_op op_fdiv (pv 1) pe_int) pe_int))))
      pss_nil)
    (pss_cons (ps_set (i := 3) sc__law_pairs.nd rfl (.inl rfl) (pe_lst pa_nil))
    (pss_cons (ps_set (i := 4) sc__law_pairs.nd rfl (.inl rfl) pe_dnewK)
    (pss_cons (ps_for PassesOwn.never rfl (pi_range1 (by rfl) T.m_range (pa_cons (pv 2) pa_nil)) (pg_name (i := 5) sc__law_pairs.nd rfl (.inl rfl))
      (pss_cons (ps_set (i := 6) sc__law_pairs.nd rfl (.inl rfl) (pe_call G__law_value (hr.mono (by decide)) (by rfl) T.g__law_value T.f__law_value.kp T.p__law_value .nil pass0 (pa_cons (pe_call G__law_cell_at (hr.mono (by decide)) (by rfl) T.g__law_cell_at T.f__law_cell_at.kp T.p__law_cell_at .nil pass0 (pa_cons (pv 0) (pa_cons pe_int pa_nil))) (pa_cons (pe_op op_add (pv 5) pe_int) pa_nil))))
      (pss_cons (ps_while PassesOwn.never (pt_cmp (pc_din (hu_of hr) (pv 6) (pv 4)))
        (pss_one (ps_set (i := 6) sc__law_pairs.nd rfl (.inl rfl) (pe_op op_add (pe_op op_mod (pv 6) pe_int) pe_int))))
      (pss_cons (ps_dput (hu_of hr) (pv 4) (pv 6) pe_bl rfl)
      (pss_one (ps_expr (pe_bm PySem.F.plainAttrs_list PySem.F.slot_list_append PySem.F.type_list_append mt_append (pv 3) (pa_cons (pe_tup (pa_cons (pv 6) (pa_cons (pe_call G__law_count (hr.mono (by decide)) (by rfl) T.g__law_count T.f__law_count.kp T.p__law_count .nil pass0 (pa_cons (pe_call G__law_cell_at (hr.mono (by decide)) (by rfl) T.g__law_cell_at T.f__law_cell_at.kp T.p__law_cell_at .nil pass0 (pa_cons (pv 0) (pa_cons pe_int pa_nil))) (pa_cons (pe_op op_add (pv 5) pe_int) pa_nil))) pa_nil))) pa_nil))))))))
    (pss_one (ps_ret (pv 3))))))))), ?_⟩
    refine ⟨_, rfl, a, ns, 0, rfl, hS, ?_⟩
    repeat (first | refine ⟨_, rfl, ?_⟩ | refine ⟨(by show (0 : Int) < _; decide), ?_⟩ | refine ⟨⟨by decide, by decide⟩, ?_⟩ | refine ⟨.inr ⟨by decide, by decide⟩, ?_⟩ | refine ⟨.inl ⟨by decide, by decide⟩, ?_⟩ | refine ⟨⟨by decide, by decide, by decide⟩, ?_⟩ | refine ⟨_, _, rfl, rfl, ?_⟩ | refine ⟨rfl, _, rfl, ?_⟩)
    refine ⟨fun σ' H' => ∃ m : Int, 1 ≤ m ∧ m ≤ 10 ∧ σ' = [some (.ref a), some (.int (cell ns 0)), some (.int m), none, none, none, none] ∧ H' = H, ?_, ?_⟩
    · repeat (first | refine ⟨_, rfl, ?_⟩ | refine ⟨(by show (0 : Int) < _; decide), ?_⟩ | refine ⟨⟨by decide, by decide⟩, ?_⟩ | refine ⟨.inr ⟨by decide, by decide⟩, ?_⟩ | refine ⟨.inl ⟨by decide, by decide⟩, ?_⟩ | refine ⟨⟨by decide, by decide, by decide⟩, ?_⟩ | refine ⟨_, _, rfl, rfl, ?_⟩ | refine ⟨rfl, _, rfl, ?_⟩)
      first | refine iteVI (fun e => ?_) (fun e => ?_) | refine iteVN (fun e => ?_) (fun e => ?_) | refine iteD (fun e => ?_) (fun e => ?_) | refine iteDN (fun e => ?_) (fun e => ?_) | refine iteB (fun e => ?_) (fun e => ?_)
      · repeat (first | refine ⟨_, rfl, ?_⟩ | refine ⟨(by show (0 : Int) < _; decide), ?_⟩ | refine ⟨⟨by decide, by decide⟩, ?_⟩ | refine ⟨.inr ⟨by decide, by decide⟩, ?_⟩ | refine ⟨.inl ⟨by decide, by decide⟩, ?_⟩ | refine ⟨⟨by decide, by decide, by decide⟩, ?_⟩ | refine ⟨_, _, rfl, rfl, ?_⟩ | refine ⟨rfl, _, rfl, ?_⟩)
        exact ⟨_, by omega, by omega, rfl, rfl⟩
      · exact ⟨_, by omega, by omega, rfl, rfl⟩
    rintro σ' H' ⟨m, hm1, hm2, rfl, rfl⟩
    refine ⟨Nat.zero_le _, fun f hf d hd => ?_⟩
    have nfd : d ≠ f := fun e => by rw [e, upd_same] at hd; cases hd
    have hd' : H' d = none := by rw [upd_ne nfd] at hd; exact hd
    refine ⟨_, rfl, m, rfl, by omega, by omega, ?_⟩
    refine for_range (fun i σ H => ∃ xs ps y5 y6, σ = [some (.ref a), some (.int (cell ns 0)), some (.int m), some (.ref f), some (.ref d), y5, y6] ∧ Ex H' H ∧ H f = some (.lst xs) ∧ H d = some (.dK (dkv (ps.map (·.1)))) ∧ Prs H xs ps ∧ Drawn ps ∧ ps.length = i)
      ⟨[], [], none, none, rfl, Ex.mu (Ex.nw hf) hd', by rw [upd_ne nfd.symm, upd_same], by rw [upd_same]; rfl, .nil, ⟨by simp, by simp, by simp⟩, rfl⟩ ?_ ?_
    · rintro i σ H hi ⟨xs, ps, y5, y6, rfl, ex, ef, ed, hp, dr, hlen⟩
      have hi' : i < 10 := by omega
      -- _law_value_here = _law_value(..)
      refine ⟨_, rfl, a, ns, 1, rfl, ex.seq hS, ?_⟩
      repeat (first | refine ⟨_, rfl, ?_⟩ | refine ⟨(by show (0 : Int) < _; decide), ?_⟩ | refine ⟨⟨by decide, by decide⟩, ?_⟩ | refine ⟨.inr ⟨by decide, by decide⟩, ?_⟩ | refine ⟨.inl ⟨by decide, by decide⟩, ?_⟩ | refine ⟨⟨by decide, by decide, by decide⟩, ?_⟩ | refine ⟨_, _, rfl, rfl, ?_⟩ | refine ⟨rfl, _, rfl, ?_⟩)
      refine ⟨_, _, rfl, ⟨by omega, by omega⟩, fun H2 e2 => ?_⟩
      have ex2 : Ex H' H2 := Ex.tr ex e2
      have ef2 := e2 _ _ ef
      have ed2 := e2 _ _ ed
      have hp2 : Prs H2 xs ps := hp.ex e2
      have hv := value_in (cell ns 1) (0 + (i : Int) + 1)
      generalize hvv : value (cell ns 1) (0 + (i : Int) + 1) = v0 at hv
      obtain ⟨j, hj, hmin⟩ := least (free_at (ks := ps.map (·.1)) v0 (by rw [List.length_map]; omega))
      -- the while
      refine ⟨fun n σ H => ∃ k, k + n = j ∧ σ = [some (.ref a), some (.int (cell ns 0)), some (.int m), some (.ref f), some (.ref d), some (.int (0 + (i : Int))), some (.int (itn v0 k))] ∧ H = H2,
        ⟨j, 0, by omega, by rw [itn_zero hv.1 hv.2]; rfl, rfl⟩, ?_⟩
      rintro n σ H3 ⟨k, hk, rfl, rfl⟩
      refine ⟨_, rfl, _, rfl, d, _, rfl, DGet.k (k := Sum.inl (itn v0 k)) ed2, _, rfl, ?_⟩
      by_cases hn : n = 0
      · -- it is free
        have hkj : k = j := by omega
        subst hkj
        rw [dkv_none hj]
        refine iteF ?_
        -- _law_seen[v] = True
        refine ⟨_, rfl, _, rfl, d, _, rfl, DPut.k (k := Sum.inl (itn v0 k)) ed2 ?_, ?_⟩
        · unfold dkv
          rw [List.length_map, List.length_map]
          exact len63' (by omega)
        rw [dkv_put hj]
        have ef3 : (upd H3 d (.dK (dkv (ps.map (·.1) ++ [itn v0 k])))) f = some (.lst xs) := by rw [upd_ne nfd.symm]; exact ef2
        have ex3 : Ex H' (upd H3 d (.dK (dkv (ps.map (·.1) ++ [itn v0 k])))) := Ex.mu ex2 hd'
        have hp3 : Prs (upd H3 d (.dK (dkv (ps.map (·.1) ++ [itn v0 k])))) xs ps := hp2.up (by intro ys z; rw [ed2] at z; cases z)
        -- _law_found.append((v, _law_count(..)))
        refine ⟨_, rfl, .inl ⟨rfl, xs, .of ef3⟩, ?_⟩
        refine ⟨_, rfl, _, rfl, a, ns, 2, rfl, ex3.seq hS, ?_⟩
        repeat (first | refine ⟨_, rfl, ?_⟩ | refine ⟨(by show (0 : Int) < _; decide), ?_⟩ | refine ⟨⟨by decide, by decide⟩, ?_⟩ | refine ⟨.inr ⟨by decide, by decide⟩, ?_⟩ | refine ⟨.inl ⟨by decide, by decide⟩, ?_⟩ | refine ⟨⟨by decide, by decide, by decide⟩, ?_⟩ | refine ⟨_, _, rfl, rfl, ?_⟩ | refine ⟨rfl, _, rfl, ?_⟩)
        refine ⟨_, _, rfl, ⟨by omega, by omega⟩, ?_⟩
        refine ⟨len63 (by show 2 ≤ _; decide), fun t ht => ?_⟩
        have ntf : f ≠ t := ne_of_none ef3 ht
        have ntd : d ≠ t := ne_of_none upd_same ht
        refine ⟨f, xs, _, rfl, rfl, by rw [upd_ne ntf]; exact ef3, len63' (by rw [hp3.len]; omega), ?_⟩
        refine ⟨xs ++ [.ref t], ps ++ [(itn v0 k, count (cell ns 2) (0 + (i : Int) + 1))], _, _, rfl, Ex.mu (ex3.tr (Ex.nw ht)) hf, upd_same, ?_, ?_, ?_, by rw [List.length_append, hlen]; rfl⟩
        · rw [upd_ne nfd, upd_ne ntd, upd_same, List.map_append]
          rfl
        · refine Prs.up (by intro ys z; rw [upd_ne ntf, ef3] at z; cases z) ?_
          exact Prs.snoc (hp3.ex (Ex.nw ht)) ⟨t, rfl, upd_same⟩
        · have hc := count_in (cell ns 2) (0 + (i : Int) + 1)
          refine ⟨?_, fun p hp => ?_, fun p hp => ?_⟩
          · rw [List.map_append]
            exact nd_snoc dr.nd hj
          · rcases List.mem_append.mp hp with h | h
            · exact dr.val p h
            · rw [List.mem_singleton.mp h]; exact itn_in v0 k
          · rcases List.mem_append.mp hp with h | h
            · exact dr.cnt p h
            · rw [List.mem_singleton.mp h]; exact hc
      · have hin : itn v0 k ∈ ps.map (·.1) := by
          by_cases z : itn v0 k ∈ ps.map (·.1)
          · exact z
          · exact absurd z (hmin k (by omega))
        obtain ⟨v, ev⟩ := dkv_some hin
        rw [ev]
        refine iteT ⟨fun σ' H'' => ∃ n', n' < n ∧ ∃ k', k' + n' = j ∧ σ' = [some (.ref a), some (.int (cell ns 0)), some (.int m), some (.ref f), some (.ref d), some (.int (0 + (i : Int))), some (.int (itn v0 k'))] ∧ H'' = H3, fun _ _ z => z, ?_⟩
        repeat (first | refine ⟨_, rfl, ?_⟩ | refine ⟨(by show (0 : Int) < _; decide), ?_⟩ | refine ⟨⟨by decide, by decide⟩, ?_⟩ | refine ⟨.inr ⟨by decide, by decide⟩, ?_⟩ | refine ⟨.inl ⟨by decide, by decide⟩, ?_⟩ | refine ⟨⟨by decide, by decide, by decide⟩, ?_⟩ | refine ⟨_, _, rfl, rfl, ?_⟩ | refine ⟨rfl, _, rfl, ?_⟩)
        exact ⟨n - 1, by omega, k + 1, by omega, by rw [itn_succ]; rfl, rfl⟩
    · rintro σ H ⟨xs, ps, y5, y6, rfl, ex, ef, ed, hp, dr, hlen⟩
      refine ⟨_, rfl, q f xs ps H ex hf ef hp dr (by omega) (by omega)⟩
/-! ### list.count of a truth value -/
theorem vals_bl : ∀ {bs : List Bool} {us : List Value}, Vals (bs.map V.bl) us → us = bs.map Value.bool
  | [], _, .nil => rfl
  | b :: bs, _, .cons h r => by
    have e := vals_bl r
    rw [List.map_cons, e, show _ = Value.bool b from h]
def isB (k : Bool) : Value → Bool := fun v => decide (v = .bool k)
theorem isB_count (k : Bool) : ∀ bs : List Bool, (bs.map Value.bool).countP (isB k) = bs.count k
  | [] => rfl
  | b :: bs => by
    have ih := isB_count k bs
    rw [List.map_cons, List.countP_cons, List.count_cons, ih]
    cases b <;> cases k <;> rfl
def rCntB (K : PySem.W.Frag) : V → List V → Hp → VK → Prop := fun x xs H Q => ∃ (p : Addr) (bs : List Bool) (k : Bool), x = .ref p ∧ xs = [.bl k] ∧ SqL K H p (bs.map V.bl) ∧ Q (.int (bs.count k : Nat)) H
theorem mt_bcount {X : Cx} : MtR X "list.count" (rCntB X.K) := by
  intro pins s σ H x xs v us Q I ra ras h
  obtain ⟨p, bs, k, rfl, rfl, hs, q⟩ := h
  cases ra
  obtain ⟨u, rfl, re⟩ := ras.one
  cases (show u = Value.bool k from re)
  obtain ⟨zs, rz, ⟨⟨c0, d0, da, s0⟩, n, ho, hc, hn, hd⟩, hz⟩ := I.list hs
  simp only at hc hd
  subst hc hd
  cases vals_bl rz
  refine call_meets PySem.F.slot_list_count ⟨_, ho, rfl⟩ PySem.F.entry_list_count (PySem.F.args_list_count_2 _ _)
    (SeqAt.list_countAt p (bs.map Value.bool).toArray n d0 s0 (.bool k) (isB k)) ⟨ho, fun y hy => ?_, ?_⟩
  · obtain ⟨b, _, rfl⟩ := List.mem_map.mp (by simpa using hy : y ∈ bs.map Value.bool)
    have e : isB k (.bool b) = (b == k) := by cases b <;> cases k <;> rfl
    rw [e]
    exact SeqAt.EqAt.bool_bool b k
  · refine ⟨.int (bs.count k : Nat), H, I.tok _, ⟨s.toks, ?_⟩, q⟩
    show Value.int (((bs.map Value.bool).countP (isB k) : Nat) : Int) s.toks = Value.int ((bs.count k : Nat) : Int) s.toks
    rw [isB_count]
/-- counted in an except's suite: told by the K outside -/
theorem pe_countS {X : Cx} {b : Addr} {pn : List (Addr × Obj)} {o e : Expr} {es : List Expr} {to : TE} {t : TA} {apos cpos : Pos} (ho : PE (X.suite b pn) o to) (ha : PA (X.suite b pn) (e :: es) t)
    (h1 : attributeBase o "count" (X.suite b pn).env (eval o (X.suite b pn).env) = eval o (X.suite b pn).env := by rfl)
    (h2 : ((backTo cpos (starEach (e :: es) (X.suite b pn).env)).all (fun x => !x.1) && (backToKw cpos (keywordEach [] (X.suite b pn).env)).all (fun x => x.1.isSome)
      && decide ((e :: es).length + ([] : List Keyword).length + (if ([] : List Keyword).isEmpty then 0 else 1) < 30)) = true := by rfl)
    (h3 : (apos.endLine == cpos.line) = true := by rfl) (h4 : starEach (e :: es) (X.suite b pn).env = (false, eval e (X.suite b pn).env) :: starEach es (X.suite b pn).env := by rfl)
    (h5 : (backTo cpos (starEach es (X.suite b pn).env)).any (·.1) = false := by rfl) :
    PE (X.suite b pn) (.Call (.Attribute o "count" apos) (e :: es) [] cpos) (tBM X.K "list" (rCntB X.K) to t) :=
  pe_bm PySem.F.plainAttrs_list PySem.F.slot_list_count PySem.F.type_list_count mt_bcount ho ha h1 h2 h3 h4 h5
/-! ### till_of -/
/-- what is due for pairs, those of these kinds seen already -/
def dueFrom : List Int → List (Int × Int) → Int
  | _, [] => 0
  | sn, p :: r => if ¬ (1 ≤ p.1 ∧ p.1 ≤ 1000) then 2 else if p.1 ∈ sn then 3 else if ¬ (0 ≤ p.2 ∧ p.2 ≤ 1000000000) then 4 else dueFrom (sn ++ [p.1]) r
def due (ps : List (Int × Int)) : Int := if 1 ≤ ps.length ∧ ps.length ≤ 10 then dueFrom [] ps else 1
theorem dueFrom_in : ∀ (ps : List (Int × Int)) (sn : List Int), dueFrom sn ps = 0 ∨ dueFrom sn ps = 2 ∨ dueFrom sn ps = 3 ∨ dueFrom sn ps = 4
  | [], _ => .inl rfl
  | p :: r, sn => by
    have ih := dueFrom_in r (sn ++ [p.1])
    unfold dueFrom
    split
    · exact .inr (.inl rfl)
    · split
      · exact .inr (.inr (.inl rfl))
      · split
        · exact .inr (.inr (.inr rfl))
        · exact ih
theorem due_nodup : ∀ (ps : List (Int × Int)) (sn : List Int), sn.Nodup → dueFrom sn ps = 0 → (sn ++ ps.map (·.1)).Nodup
  | [], sn, h, _ => by simpa using h
  | p :: r, sn, h, e => by
    unfold dueFrom at e
    split at e
    · cases e
    · split at e
      · cases e
      · split at e
        · cases e
        · next hn _ =>
          have := due_nodup r (sn ++ [p.1]) (nd_snoc h hn) e
          simpa using this
theorem rising_uniq : ∀ {ps qs : List (Int × Int)}, Rising ps → Rising qs → ps.Perm qs → ps = qs
  | [], qs, _, _, h => (h.symm.eq_nil).symm
  | p :: ps, [], _, _, h => absurd h.eq_nil (by simp)
  | p :: ps, q :: qs, h1, h2, h => by
    obtain ⟨a1, a2⟩ := List.pairwise_cons.mp h1
    obtain ⟨b1, b2⟩ := List.pairwise_cons.mp h2
    have e : p = q := by
      rcases List.mem_cons.mp (h.mem_iff.mp List.mem_cons_self) with e | e
      · exact e
      · rcases List.mem_cons.mp (h.mem_iff.mpr List.mem_cons_self) with e' | e'
        · exact e'.symm
        · have := b1 p e
          have := a1 q e'
          omega
    subst e
    rw [rising_uniq a2 b2 ((List.perm_cons _).mp h)]
def spCheck (lo hi : Int) (cN : Addr) : Sp := fun vs H Q E => ∃ v : Int, vs = [.int v] ∧ ((lo ≤ v ∧ v ≤ hi) → Q .non H) ∧ (¬ (lo ≤ v ∧ v ≤ hi) → E (.ref cN) none H)
theorem ok_check_value (T : Tx K mg) : FnOk P w K mg base (L2.CX P w) 1 T.a_check_value T.d_check_value P_check_value (spCheck 1 1000 T.c_NoKind) := by
  refine T.f_check_value.okX sc_check_value (fun vs H Q E h => ?_) (fun cdv A outer s H vs Q E hr h => ?_)
  · obtain ⟨v, rfl, _⟩ := h
    rfl
  · obtain ⟨v, rfl, q1, q2⟩ := h
    refine ⟨_, (pss_one (ps_if (pt_not (pt_chain op_le op_le pe_int (pv 0) (pe_glob (v := .int 1000) (by rfl) T.w_MOST_VALUE.choose_spec ⟨_, rfl⟩)))
      (pss_one (ps_raise rfl (takes_of rfl rfl rfl rfl) (pmk_own PySem.F.excBase_ValueError T.x_NoKind T.g_NoKind T.k_NoKind (raises_own T.b_NoKind T.t_NoKind) rfl)))
      pss_nil)), ?_⟩
    repeat (first | refine ⟨_, rfl, ?_⟩ | refine ⟨(by show (0 : Int) < _; decide), ?_⟩ | refine ⟨⟨by decide, by decide⟩, ?_⟩ | refine ⟨.inr ⟨by decide, by decide⟩, ?_⟩ | refine ⟨.inl ⟨by decide, by decide⟩, ?_⟩ | refine ⟨⟨by decide, by decide, by decide⟩, ?_⟩ | refine ⟨_, _, rfl, rfl, ?_⟩ | refine ⟨rfl, _, rfl, ?_⟩)
    first | refine iteVI (fun e => ?_) (fun e => ?_) | refine iteVN (fun e => ?_) (fun e => ?_) | refine iteD (fun e => ?_) (fun e => ?_) | refine iteDN (fun e => ?_) (fun e => ?_) | refine iteB (fun e => ?_) (fun e => ?_)
    · repeat (first | refine ⟨_, rfl, ?_⟩ | refine ⟨(by show (0 : Int) < _; decide), ?_⟩ | refine ⟨⟨by decide, by decide⟩, ?_⟩ | refine ⟨.inr ⟨by decide, by decide⟩, ?_⟩ | refine ⟨.inl ⟨by decide, by decide⟩, ?_⟩ | refine ⟨⟨by decide, by decide, by decide⟩, ?_⟩ | refine ⟨_, _, rfl, rfl, ?_⟩ | refine ⟨rfl, _, rfl, ?_⟩)
      first | refine iteVI (fun e' => ?_) (fun e' => ?_) | refine iteVN (fun e' => ?_) (fun e' => ?_) | refine iteD (fun e' => ?_) (fun e' => ?_) | refine iteDN (fun e' => ?_) (fun e' => ?_) | refine iteB (fun e' => ?_) (fun e' => ?_)
      · exact q2 fun z => e' z.2
      · exact q1 ⟨e, e'⟩
    · exact ⟨_, rfl, iteT (q2 fun z => e z.1)⟩
theorem ok_check_count (T : Tx K mg) : FnOk P w K mg base (L2.CX P w) 1 T.a_check_count T.d_check_count P_check_count (spCheck 0 1000000000 T.c_NoCount) := by
  refine T.f_check_count.okX sc_check_count (fun vs H Q E h => ?_) (fun cdv A outer s H vs Q E hr h => ?_)
  · obtain ⟨v, rfl, _⟩ := h
    rfl
  · obtain ⟨v, rfl, q1, q2⟩ := h
    refine ⟨_, (pss_one (ps_if (pt_not (pt_chain op_le op_le pe_int (pv 0) (pe_glob (v := .int 1000000000) (by rfl) T.w_MOST_COUNT.choose_spec ⟨_, rfl⟩)))
      (pss_one (ps_raise rfl (takes_of rfl rfl rfl rfl) (pmk_own PySem.F.excBase_ValueError T.x_NoCount T.g_NoCount T.k_NoCount (raises_own T.b_NoCount T.t_NoCount) rfl)))
      pss_nil)), ?_⟩
    repeat (first | refine ⟨_, rfl, ?_⟩ | refine ⟨(by show (0 : Int) < _; decide), ?_⟩ | refine ⟨⟨by decide, by decide⟩, ?_⟩ | refine ⟨.inr ⟨by decide, by decide⟩, ?_⟩ | refine ⟨.inl ⟨by decide, by decide⟩, ?_⟩ | refine ⟨⟨by decide, by decide, by decide⟩, ?_⟩ | refine ⟨_, _, rfl, rfl, ?_⟩ | refine ⟨rfl, _, rfl, ?_⟩)
    first | refine iteVI (fun e => ?_) (fun e => ?_) | refine iteVN (fun e => ?_) (fun e => ?_) | refine iteD (fun e => ?_) (fun e => ?_) | refine iteDN (fun e => ?_) (fun e => ?_) | refine iteB (fun e => ?_) (fun e => ?_)
    · repeat (first | refine ⟨_, rfl, ?_⟩ | refine ⟨(by show (0 : Int) < _; decide), ?_⟩ | refine ⟨⟨by decide, by decide⟩, ?_⟩ | refine ⟨.inr ⟨by decide, by decide⟩, ?_⟩ | refine ⟨.inl ⟨by decide, by decide⟩, ?_⟩ | refine ⟨⟨by decide, by decide, by decide⟩, ?_⟩ | refine ⟨_, _, rfl, rfl, ?_⟩ | refine ⟨rfl, _, rfl, ?_⟩)
      first | refine iteVI (fun e' => ?_) (fun e' => ?_) | refine iteVN (fun e' => ?_) (fun e' => ?_) | refine iteD (fun e' => ?_) (fun e' => ?_) | refine iteDN (fun e' => ?_) (fun e' => ?_) | refine iteB (fun e' => ?_) (fun e' => ?_)
      · exact q2 fun z => e' z.2
      · exact q1 ⟨e, e'⟩
    · exact ⟨_, rfl, iteT (q2 fun z => e z.1)⟩
/-- the till made, or the refusal due -/
def spTillOf (K : PySem.W.Frag) (c1 c2 c3 c4 : Addr) : Sp := fun vs H Q E => ∃ (a : Addr) (ps : List (Int × Int)), vs = [.ref a] ∧ Till K H a ps ∧ ps.length ≤ 1000 ∧
  (due ps = 0 → ∀ p xs qs H2, Ex H H2 → H p = none → H2 p = some (.lst xs) → Prs H2 xs qs → qs.Perm ps → Rising qs → Q (.ref p) H2) ∧
  (due ps = 1 → ∀ H2, Ex H H2 → E (.ref c1) none H2) ∧ (due ps = 2 → ∀ H2, Ex H H2 → E (.ref c2) none H2) ∧ (due ps = 3 → ∀ H2, Ex H H2 → E (.ref c3) none H2) ∧ (due ps = 4 → ∀ H2, Ex H H2 → E (.ref c4) none H2)
theorem drop_at {α : Type} {l : List α} {i : Nat} {x : α} (h : l[i]? = some x) : l.drop i = x :: l.drop (i + 1) := by
  obtain ⟨hi, e⟩ := List.getElem?_eq_some_iff.mp h
  rw [List.drop_eq_getElem_cons hi, e]
theorem take_at {α : Type} {l : List α} {i : Nat} {x : α} (h : l[i]? = some x) : l.take (i + 1) = l.take i ++ [x] := by
  rw [List.take_add_one, h]
  rfl
theorem Prs.take {H : Hp} : ∀ {xs : List V} {ps : List (Int × Int)} (n : Nat), Prs H xs ps → Prs H (xs.take n) (ps.take n)
  | _, _, 0, _ => .nil
  | _, _, _ + 1, .nil => .nil
  | _, _, n + 1, .cons h r => .cons h (Prs.take n r)
theorem Prs.drop {H : Hp} : ∀ {xs : List V} {ps : List (Int × Int)} (n : Nat), Prs H xs ps → Prs H (xs.drop n) (ps.drop n)
  | _, _, 0, h => h
  | _, _, _ + 1, .nil => .nil
  | _, _, n + 1, .cons h r => Prs.drop n r
theorem Prs.erase {H : Hp} : ∀ {xs : List V} {ps : List (Int × Int)} (n : Nat), Prs H xs ps → Prs H (xs.eraseIdx n) (ps.eraseIdx n)
  | _, _, _, .nil => .nil
  | _, _, 0, .cons h r => r
  | _, _, n + 1, .cons h r => .cons h (Prs.erase n r)
theorem Prs.app {H : Hp} : ∀ {xs ys : List V} {ps qs : List (Int × Int)}, Prs H xs ps → Prs H ys qs → Prs H (xs ++ ys) (ps ++ qs)
  | _, _, _, _, .nil, h => h
  | _, _, _, _, .cons a r, h => .cons a (Prs.app r h)
theorem cut_take (xs : List V) (k : Nat) (h : k ≤ xs.length) : cutV xs none (some (k : Int)) = xs.take k := by
  unfold cutV
  rw [HT.sIx_none, HT.sIx_nat, List.drop_zero, Nat.sub_zero, Nat.min_eq_left h]
theorem cut_drop (xs : List V) (k : Nat) (h : k ≤ xs.length) : cutV xs (some (k : Int)) none = xs.drop k := by
  unfold cutV
  rw [HT.sIx_none, HT.sIx_nat, Nat.min_eq_left h, List.take_of_length_le (by rw [List.length_drop]; exact Nat.le_refl _)]
theorem seq_at {i : Int} {n : Nat} (h0 : 0 ≤ i) (h1 : i < n) : seqIndex? i n = some i.toNat := by
  have h2 : ¬ i < 0 := by omega
  simp [seqIndex?, h2, h0, h1]
theorem ok_till_of (T : Tx K mg) : FnOk P w K mg base (L2.CX P w) 2 T.a_till_of T.d_till_of P_till_of (spTillOf K T.c_NoTill T.c_NoKind T.c_Twice T.c_NoCount) := by
  have G_check_value := ok_check_value (P := P) (w := w) (base := base) T
  have G_check_count := ok_check_count (P := P) (w := w) (base := base) T
  refine T.f_till_of.okX sc_till_of (fun vs H Q E h => ?_) (fun cdv A outer s H vs Q E hr h => ?_)
  · obtain ⟨a, ps, rfl, _⟩ := h
    rfl
  · obtain ⟨a, ps, rfl, ⟨xs, hS, hp⟩, hl, q0, q1, q2, q3, q4⟩ := h
    refine ⟨_, (pss_cons (ps_if (pt_not (pt_chain op_le op_le pe_int (pe_callB call_len_seq (by rfl) T.m_len (by decide +kernel) (pa_cons (pv 0) pa_nil)) (pe_glob (v := .int 10) (by rfl) T.w_MOST_KINDS.choose_spec ⟨_, rfl⟩)))
      (pss_one (ps_raise rfl (takes_of rfl rfl rfl rfl) (pmk_own PySem.F.excBase_ValueError T.x_NoTill T.g_NoTill T.k_NoTill (raises_own T.b_NoTill T.t_NoTill) rfl)))
      pss_nil)
    (pss_cons (ps_set (i := 1) sc_till_of.nd rfl (.inl rfl) (pe_callTy0 cr_set0 (by rfl) T.m_set (by decide +kernel)))
    (pss_cons (ps_for (passes_of rfl) rfl (pi_list (pv 0)) (pg_tup rfl (pgs_cons (pg_name (i := 2) sc_till_of.nd rfl (.inl rfl)) (pgs_cons (pg_name (i := 3) sc_till_of.nd rfl (.inl rfl)) pgs_nil)))
      (pss_cons (ps_expr (pe_call G_check_value (hr.mono (by decide)) (by rfl) T.g_check_value T.f_check_value.kp T.p_check_value .nil (passes_call (takes_of rfl rfl rfl rfl) fun _ _ _ _ h => h) (pa_cons (pv 2) pa_nil)))
      (pss_cons (ps_if (pt_cmpR or_sin (pv 2) (pv 1) (by rfl))
        (pss_one (ps_raise rfl (takes_of rfl rfl rfl rfl) (pmk_own PySem.F.excBase_ValueError T.x_Twice T.g_Twice T.k_Twice (raises_own T.b_Twice T.t_Twice) rfl)))
        pss_nil)
      (pss_cons (ps_expr (pe_call G_check_count (hr.mono (by decide)) (by rfl) T.g_check_count T.f_check_count.kp T.p_check_count .nil (passes_call (takes_of rfl rfl rfl rfl) fun _ _ _ _ h => h) (pa_cons (pv 3) pa_nil)))
      (pss_one (ps_expr (pe_sadd (pv 1) (pa_cons (pv 2) pa_nil))))))))
    (pss_one (ps_ret (pe_callB cr_sortedPO (by rfl) T.m_sorted (by decide +kernel) (pa_cons (pe_lc (own := [("value", 2), ("count", 3)]) (g := gTup K 2 (gCons (gName 2) (gCons (gName 3) gNil))) rfl sc_till_of.nd (pi_list (pv 0)) (blkOk_by (own := [("value", 2), ("count", 3)]) (N := N_till_of) (sc := defScope s_till_of) (by decide +kernel)) (fun _ _ _ _ _ => pg_tup rfl (pgs_cons (pg_name (i := 2) sc_till_of.nd rfl (.inl rfl) (.inr rfl)) (pgs_cons (pg_name (i := 3) sc_till_of.nd rfl (.inl rfl) (.inr rfl)) pgs_nil))) (fun _ _ _ _ _ => pts_nil) (fun _ _ _ _ _ => (pe_tup (pa_cons (pv 2) (pa_cons (pv 3) pa_nil))))) pa_nil))))))), ?_⟩
    have hxl := hp.len
    unfold due at q0 q1 q2 q3 q4
    refine ⟨_, rfl, a, xs, rfl, .inl hS, ?_⟩
    repeat (first | refine ⟨_, rfl, ?_⟩ | refine ⟨(by show (0 : Int) < _; decide), ?_⟩ | refine ⟨⟨by decide, by decide⟩, ?_⟩ | refine ⟨.inr ⟨by decide, by decide⟩, ?_⟩ | refine ⟨.inl ⟨by decide, by decide⟩, ?_⟩ | refine ⟨⟨by decide, by decide, by decide⟩, ?_⟩ | refine ⟨_, _, rfl, rfl, ?_⟩ | refine ⟨rfl, _, rfl, ?_⟩)
    first | refine iteVI (fun e1 => ?_) (fun e1 => ?_) | refine iteVN (fun e1 => ?_) (fun e1 => ?_) | refine iteD (fun e1 => ?_) (fun e1 => ?_) | refine iteDN (fun e1 => ?_) (fun e1 => ?_) | refine iteB (fun e1 => ?_) (fun e1 => ?_)
    · repeat (first | refine ⟨_, rfl, ?_⟩ | refine ⟨(by show (0 : Int) < _; decide), ?_⟩ | refine ⟨⟨by decide, by decide⟩, ?_⟩ | refine ⟨.inr ⟨by decide, by decide⟩, ?_⟩ | refine ⟨.inl ⟨by decide, by decide⟩, ?_⟩ | refine ⟨⟨by decide, by decide, by decide⟩, ?_⟩ | refine ⟨_, _, rfl, rfl, ?_⟩ | refine ⟨rfl, _, rfl, ?_⟩)
      first | refine iteVI (fun e2 => ?_) (fun e2 => ?_) | refine iteVN (fun e2 => ?_) (fun e2 => ?_) | refine iteD (fun e2 => ?_) (fun e2 => ?_) | refine iteDN (fun e2 => ?_) (fun e2 => ?_) | refine iteB (fun e2 => ?_) (fun e2 => ?_)
      · exact q1 (if_neg fun z => e2 (by omega)) _ Ex.rfl'
      · have e1' : 1 ≤ ps.length := by omega
        have e2' : ps.length ≤ 10 := by omega
        rw [if_pos ⟨e1', e2'⟩] at q0 q1 q2 q3 q4
        generalize hD : dueFrom [] ps = D at q0 q1 q2 q3 q4
        have hnd : D = 0 → (ps.map (·.1)).Nodup := fun z => by
          have := due_nodup ps [] List.nodup_nil (hD.trans z)
          simpa using this
        refine ⟨rfl, fun sp hsp => ?_⟩
        refine ⟨_, rfl, a, rfl, ⟨xs, (Ex.nw hsp).seq hS⟩, for_list (xs := xs) (fun i σ H' => ∃ y2 y3 S n, σ = [some (.ref a), some (.ref sp), y2, y3] ∧ Ex H H' ∧ H' sp = some (SetO w sp S n) ∧ n ≤ i ∧
          (∀ j, S j = decide (j ∈ (ps.take i).map (·.1))) ∧ D = dueFrom ((ps.take i).map (·.1)) (ps.drop i)) ⟨_, _, _, _, rfl, Ex.nw hsp, upd_same, Nat.le_refl _, fun j => by simp, by simpa using hD.symm⟩ (fun i σ H' _ h => by
            obtain ⟨_, _, _, _, _, e, _⟩ := h
            exact e.seq hS) ?_ ?_⟩
        · rintro i x σ H' hx ⟨y2, y3, S, n, rfl, ex, es, hn, hmem, hd⟩
          obtain ⟨p, t, h1, rfl, h3⟩ := Prs.get hp hx
          have hi : i < ps.length := (List.getElem?_eq_some_iff.mp h1).1
          rw [drop_at h1] at hd
          unfold dueFrom at hd
          refine ⟨t, _, rfl, .of (ex _ _ h3), rfl, _, _, rfl, _, _, rfl, rfl, ?_⟩
          refine ⟨_, rfl, p.1, rfl, fun hv => ?_, fun hv => ?_⟩
          · rw [if_neg fun z => z hv] at hd
            refine ⟨_, rfl, _, rfl, p.1, sp, S, n, rfl, rfl, es, _, rfl, iteB (fun e => ?_) (fun e => ?_)⟩
            · rw [hmem] at e
              rw [if_pos (of_decide_eq_true e)] at hd
              exact q3 hd _ ex
            · have e' := e
              rw [hmem] at e'
              rw [if_neg (of_decide_eq_false e')] at hd
              refine ⟨_, rfl, p.2, rfl, fun hc => ?_, fun hc => ?_⟩
              · rw [if_neg fun z => z hc] at hd
                refine ⟨_, rfl, ⟨sp, S, n, rfl, es⟩, _, rfl, sp, p.1, S, n, rfl, rfl, es, by unfold scanBound; omega, _, _, _, _, rfl, Ex.mu ex hsp, upd_same, ?_, fun j => ?_, ?_⟩
                · split <;> omega
                · rw [hmem, take_at h1, List.map_append]
                  by_cases hj : j = p.1
                  · simp [hj]
                  · simp [hj]
                · rw [hd, take_at h1, List.map_append]
                  rfl
              · rw [if_pos hc] at hd
                exact q4 hd _ ex
          · rw [if_pos hv] at hd
            exact q2 hd _ ex
        · rintro σ H' ⟨y2, y3, S, n, rfl, ex, es, hn, hmem, hd⟩
          rw [List.drop_of_length_le (by omega)] at hd
          refine ⟨_, rfl, a, rfl, ⟨xs, ex.seq hS⟩, fun D2 hD2 => lc_list (xs := xs) (fun i H2 => ∃ ys, Ex H H2 ∧ H2 D2 = some (.lst ys) ∧ Prs H2 ys (ps.take i)) ⟨[], Ex.tr ex (Ex.nw hD2), upd_same, .nil⟩ (fun i H2 _ h => by
            obtain ⟨_, e, _⟩ := h
            exact e.seq hS) ?_ ?_⟩
          · rintro i x H2 hx ⟨ys, ex2, eD, hpr⟩
            obtain ⟨p, t, h1, rfl, h3⟩ := Prs.get hp hx
            have hi : i < ps.length := (List.getElem?_eq_some_iff.mp h1).1
            refine ⟨t, _, rfl, .of (ex2 _ _ h3), rfl, _, _, rfl, _, _, rfl, rfl, rfl, ?_⟩
            refine t_yes ?_
            refine ⟨_, rfl, _, rfl, len63 (by show 2 ≤ _; decide), fun t2 ht2 => ?_⟩
            have nD : D2 ≠ t2 := ne_of_none eD ht2
            have hyl := hpr.len
            rw [List.length_take] at hyl
            refine ⟨ys, by rw [upd_ne nD]; exact eD, len63' (by omega), ys ++ [.ref t2], ?_, upd_same, ?_⟩
            · have hD2' : H D2 = none := by
                cases e : H D2 with
                | none => rfl
                | some o => rw [ex _ _ e] at hD2; cases hD2
              exact Ex.mu (ex2.tr (Ex.nw ht2)) hD2'
            · rw [take_at h1]
              refine Prs.up (by intro zs z; rw [upd_ne nD, eD] at z; cases z) ?_
              exact Prs.snoc (hpr.ex (Ex.nw ht2)) ⟨t2, rfl, upd_same⟩
          · rintro H2 ⟨ys, ex2, eD, hpr⟩
            rw [List.take_of_length_le (by omega)] at hpr
            refine ⟨D2, ys, pairAt H2, rfl, .of eD, hpr.all, fun zs t z1 z2 ht => ?_⟩
            obtain ⟨qs, hq, hpm, hris⟩ := sorted_prs hpr (hnd hd) z1 z2
            have hto : H t = none := by
              cases e : H t with
              | none => rfl
              | some o => rw [ex2 _ _ e] at ht; cases ht
            exact q0 hd t zs qs _ (ex2.tr (Ex.nw ht)) hto upd_same (hq.ex (Ex.nw ht)) hpm hris
    · exact ⟨_, rfl, iteT (q1 (if_neg fun z => e1 (by omega)) _ Ex.rfl')⟩
/-! ### the law's own -/
def spDue (K : PySem.W.Frag) : Sp := fun vs H Q _ => ∃ (a : Addr) (ps : List (Int × Int)), vs = [.ref a] ∧ Till K H a ps ∧ ps.length ≤ 1000 ∧ Ret (.int (due ps)) H Q
theorem Ret.at2 {d e : Int} {H H' : Hp} {Q : VK} (k : Ret (.int d) H Q) (h : d = e) (x : Ex H H') : Q (.int e) H' := h ▸ k H' x
theorem ok_due (T : Tx K mg) : FnOk P w K mg base CX0 1 T.a__law_due T.d__law_due P__law_due (spDue K) := by
  refine T.f__law_due.ok sc__law_due (fun vs H Q E h => ?_) (fun cdv A outer s H vs Q E hr h => ?_)
  · obtain ⟨a, ps, rfl, _⟩ := h
    rfl
  · obtain ⟨a, ps, rfl, ⟨xs, hS, hp⟩, hl, q⟩ := h
    refine ⟨_, (pss_cons (ps_if (PW.pt (pw_or (pt_cmpR op_eq (pe_callB call_len_seq (by rfl) T.m_len (by decide +kernel) (pa_cons (pv 0) pa_nil)) pe_int (nomark _)) (pw_or1 (pt_cmpR op_gt (pe_callB call_len_seq (by rfl) T.m_len (by decide +kernel) (pa_cons (pv 0) pa_nil)) pe_int (nomark _)))))
      (pss_one (ps_ret pe_int))
      pss_nil)
    (pss_cons (ps_for PassesOwn.never rfl (pi_range1 (by rfl) T.m_range (pa_cons (pe_callB call_len_seq (by rfl) T.m_len (by decide +kernel) (pa_cons (pv 0) pa_nil)) pa_nil)) (pg_name (i := 1) sc__law_due.nd rfl (.inl rfl))
      (pss_cons (ps_if (PW.pt (pw_or (pt_cmpR op_lt (pe_ix ix_tup (pe_ix ix_list (pv 0) (pv 1) (fun _ _ => rfl)) pe_int (fun _ _ => rfl)) pe_int (nomark _)) (pw_or1 (pt_cmpR op_gt (pe_ix ix_tup (pe_ix ix_list (pv 0) (pv 1) (fun _ _ => rfl)) pe_int (fun _ _ => rfl)) pe_int (nomark _)))))
        (pss_one (ps_ret pe_int))
        pss_nil)
      (pss_cons (ps_for PassesOwn.never rfl (pi_list (pe_slice sl_list (pv 0) po_none (po_some (pv 1)))) (pg_name (i := 2) sc__law_due.nd rfl (.inl rfl))
        (pss_one (ps_if (pt_cmpR op_eq (pe_ix ix_tup (pv 2) pe_int (fun _ _ => rfl)) (pe_ix ix_tup (pe_ix ix_list (pv 0) (pv 1) (fun _ _ => rfl)) pe_int (fun _ _ => rfl)) (nomark _))
          (pss_one (ps_ret pe_int))
          pss_nil)))
      (pss_one (ps_if (PW.pt (pw_or (pt_cmpR op_lt (pe_ix ix_tup (pe_ix ix_list (pv 0) (pv 1) (fun _ _ => rfl)) pe_int (fun _ _ => rfl)) pe_int (nomark _)) (pw_or1 (pt_cmpR op_gt (pe_ix ix_tup (pe_ix ix_list (pv 0) (pv 1) (fun _ _ => rfl)) pe_int (fun _ _ => rfl)) (pe_op op_pow pe_int pe_int) (nomark _)))))
        (pss_one (ps_ret pe_int))
        pss_nil)))))
    (pss_one (ps_ret pe_int)))), ?_⟩
    have hxl := hp.len
    unfold due at q
    refine ⟨_, rfl, a, xs, rfl, .inl hS, ?_⟩
    repeat (first | refine ⟨_, rfl, ?_⟩ | refine ⟨(by show (0 : Int) < _; decide), ?_⟩ | refine ⟨⟨by decide, by decide⟩, ?_⟩ | refine ⟨.inr ⟨by decide, by decide⟩, ?_⟩ | refine ⟨.inl ⟨by decide, by decide⟩, ?_⟩ | refine ⟨⟨by decide, by decide, by decide⟩, ?_⟩ | refine ⟨_, _, rfl, rfl, ?_⟩ | refine ⟨rfl, _, rfl, ?_⟩)
    first | refine iteVI (fun e => ?_) (fun e => ?_) | refine iteVN (fun e => ?_) (fun e => ?_) | refine iteD (fun e => ?_) (fun e => ?_) | refine iteDN (fun e => ?_) (fun e => ?_) | refine iteB (fun e => ?_) (fun e => ?_)
    · rw [if_neg (by omega)] at q
      exact iteT (q _ Ex.rfl')
    refine ⟨_, rfl, a, xs, rfl, .inl hS, ?_⟩
    repeat (first | refine ⟨_, rfl, ?_⟩ | refine ⟨(by show (0 : Int) < _; decide), ?_⟩ | refine ⟨⟨by decide, by decide⟩, ?_⟩ | refine ⟨.inr ⟨by decide, by decide⟩, ?_⟩ | refine ⟨.inl ⟨by decide, by decide⟩, ?_⟩ | refine ⟨⟨by decide, by decide, by decide⟩, ?_⟩ | refine ⟨_, _, rfl, rfl, ?_⟩ | refine ⟨rfl, _, rfl, ?_⟩)
    first | refine iteVI (fun e2 => ?_) (fun e2 => ?_) | refine iteVN (fun e2 => ?_) (fun e2 => ?_) | refine iteD (fun e2 => ?_) (fun e2 => ?_) | refine iteDN (fun e2 => ?_) (fun e2 => ?_) | refine iteB (fun e2 => ?_) (fun e2 => ?_)
    · rw [if_neg (by omega)] at q
      exact q _ Ex.rfl'
    rw [if_pos (by omega)] at q
    generalize hD : dueFrom [] ps = D at q
    refine ⟨_, rfl, a, xs, rfl, .inl hS, ?_⟩
    refine ⟨_, rfl, by omega, by omega, ?_⟩
    refine for_range (fun i σ H' => ∃ y2 y3, σ = [some (.ref a), y2, y3] ∧ Ex H H' ∧ D = dueFrom ((ps.take i).map (·.1)) (ps.drop i)) ⟨_, _, rfl, Ex.rfl', hD.symm⟩ ?_ ?_
    · rintro i σ H1 hi ⟨y2, y3, rfl, ex, hd⟩
      have hi' : i < ps.length := by omega
      obtain ⟨t, hx0, h3⟩ := Prs.getL hp (List.getElem?_eq_getElem hi')
      have h1 := List.getElem?_eq_getElem hi'
      generalize ps[i] = p at h1 h3
      have hx : atI xs (0 + (i : Int)) = some (.ref t) := at_of (Int.zero_add _) hx0
      rw [drop_at h1] at hd
      unfold dueFrom at hd
      refine ⟨_, rfl, _, rfl, a, xs, _, _, rfl, rfl, ex.seq hS, hx, t, _, 0, .int p.1, rfl, rfl, .of (ex _ _ h3), rfl, ?_⟩
      repeat (first | refine ⟨_, rfl, ?_⟩ | refine ⟨(by show (0 : Int) < _; decide), ?_⟩ | refine ⟨⟨by decide, by decide⟩, ?_⟩ | refine ⟨.inr ⟨by decide, by decide⟩, ?_⟩ | refine ⟨.inl ⟨by decide, by decide⟩, ?_⟩ | refine ⟨⟨by decide, by decide, by decide⟩, ?_⟩ | refine ⟨_, _, rfl, rfl, ?_⟩ | refine ⟨rfl, _, rfl, ?_⟩)
      first | refine iteVI (fun e => ?_) (fun e => ?_) | refine iteVN (fun e => ?_) (fun e => ?_) | refine iteD (fun e => ?_) (fun e => ?_) | refine iteDN (fun e => ?_) (fun e => ?_) | refine iteB (fun e => ?_) (fun e => ?_)
      · rw [if_pos (by omega)] at hd
        exact iteT (q.at2 hd ex)
      refine ⟨_, rfl, _, rfl, a, xs, _, _, rfl, rfl, ex.seq hS, hx, t, _, 0, .int p.1, rfl, rfl, .of (ex _ _ h3), rfl, ?_⟩
      repeat (first | refine ⟨_, rfl, ?_⟩ | refine ⟨(by show (0 : Int) < _; decide), ?_⟩ | refine ⟨⟨by decide, by decide⟩, ?_⟩ | refine ⟨.inr ⟨by decide, by decide⟩, ?_⟩ | refine ⟨.inl ⟨by decide, by decide⟩, ?_⟩ | refine ⟨⟨by decide, by decide, by decide⟩, ?_⟩ | refine ⟨_, _, rfl, rfl, ?_⟩ | refine ⟨rfl, _, rfl, ?_⟩)
      first | refine iteVI (fun e2 => ?_) (fun e2 => ?_) | refine iteVN (fun e2 => ?_) (fun e2 => ?_) | refine iteD (fun e2 => ?_) (fun e2 => ?_) | refine iteDN (fun e2 => ?_) (fun e2 => ?_) | refine iteB (fun e2 => ?_) (fun e2 => ?_)
      · rw [if_pos (by omega)] at hd
        exact q.at2 hd ex
      rw [if_neg (by omega)] at hd
      -- those ahead
      refine ⟨_, rfl, _, rfl, _, rfl, a, xs, rfl, ex.seq hS, fun l hl2 => ?_⟩
      rw [Int.zero_add, cut_take xs i (by omega)]
      (generalize hh : upd H1 l _ = H2; have e2' : Ex H1 H2 := (by rw [← hh]; exact Ex.nw hl2); have c2 := (show H2 l = some _ by rw [← hh]; exact upd_same); clear hh)
      have ex2 := Ex.tr ex e2'
      have hpi := (hp.ex ex2).take i
      refine ⟨l, rfl, ⟨_, .of c2⟩, for_list (xs := xs.take i) (fun j σ H' => ∃ y3, σ = [some (.ref a), some (.int (i : Int)), y3] ∧ H' = H2 ∧ j ≤ i ∧ p.1 ∉ ((ps.take i).take j).map (·.1))
        ⟨_, rfl, rfl, Nat.zero_le _, by simp⟩ (fun j σ H' _ h => by obtain ⟨_, _, rfl, _⟩ := h; exact .of c2) ?_ ?_⟩
      · rintro j x σ H' hxj ⟨y3, rfl, rfl, hj, hno⟩
        obtain ⟨p2, t2, g1, rfl, g3⟩ := Prs.get hpi hxj
        have hji : j < i := by
          have := (List.getElem?_eq_some_iff.mp hxj).1
          rw [List.length_take] at this
          omega
        refine ⟨_, rfl, t2, _, 0, .int p2.1, rfl, rfl, .of g3, rfl, ?_⟩
        refine ⟨_, rfl, _, rfl, a, xs, _, _, rfl, rfl, ex2.seq hS, at_of rfl hx0, t, _, 0, .int p.1, rfl, rfl, .of (ex2 _ _ h3), rfl, ?_⟩
        repeat (first | refine ⟨_, rfl, ?_⟩ | refine ⟨(by show (0 : Int) < _; decide), ?_⟩ | refine ⟨⟨by decide, by decide⟩, ?_⟩ | refine ⟨.inr ⟨by decide, by decide⟩, ?_⟩ | refine ⟨.inl ⟨by decide, by decide⟩, ?_⟩ | refine ⟨⟨by decide, by decide, by decide⟩, ?_⟩ | refine ⟨_, _, rfl, rfl, ?_⟩ | refine ⟨rfl, _, rfl, ?_⟩)
        first | refine iteVI (fun e3 => ?_) (fun e3 => ?_) | refine iteVN (fun e3 => ?_) (fun e3 => ?_) | refine iteD (fun e3 => ?_) (fun e3 => ?_) | refine iteDN (fun e3 => ?_) (fun e3 => ?_) | refine iteB (fun e3 => ?_) (fun e3 => ?_)
        · rw [if_pos (by
            rw [← e3]
            exact List.mem_map.mpr ⟨p2, List.mem_of_getElem? g1, rfl⟩)] at hd
          exact q.at2 hd ex2
        · refine ⟨_, rfl, rfl, hji, ?_⟩
          rw [take_at g1, List.map_append, List.mem_append, not_or]
          exact ⟨hno, by simpa using fun z => e3 z.symm⟩
      · rintro σ H' ⟨y3, rfl, rfl, hj, hno⟩
        rw [List.length_take, Nat.min_eq_left (by omega), List.take_take, Nat.min_self] at hno
        rw [if_neg hno] at hd
        refine ⟨_, rfl, _, rfl, a, xs, _, _, rfl, rfl, ex2.seq hS, at_of rfl hx0, t, _, 1, .int p.2, rfl, rfl, .of (ex2 _ _ h3), rfl, ?_⟩
        repeat (first | refine ⟨_, rfl, ?_⟩ | refine ⟨(by show (0 : Int) < _; decide), ?_⟩ | refine ⟨⟨by decide, by decide⟩, ?_⟩ | refine ⟨.inr ⟨by decide, by decide⟩, ?_⟩ | refine ⟨.inl ⟨by decide, by decide⟩, ?_⟩ | refine ⟨⟨by decide, by decide, by decide⟩, ?_⟩ | refine ⟨_, _, rfl, rfl, ?_⟩ | refine ⟨rfl, _, rfl, ?_⟩)
        first | refine iteVI (fun e4 => ?_) (fun e4 => ?_) | refine iteVN (fun e4 => ?_) (fun e4 => ?_) | refine iteD (fun e4 => ?_) (fun e4 => ?_) | refine iteDN (fun e4 => ?_) (fun e4 => ?_) | refine iteB (fun e4 => ?_) (fun e4 => ?_)
        · rw [if_pos (by omega)] at hd
          exact iteT (q.at2 hd ex2)
        refine ⟨_, rfl, _, rfl, a, xs, _, _, rfl, rfl, ex2.seq hS, at_of rfl hx0, t, _, 1, .int p.2, rfl, rfl, .of (ex2 _ _ h3), rfl, ?_⟩
        repeat (first | refine ⟨_, rfl, ?_⟩ | refine ⟨(by show (0 : Int) < _; decide), ?_⟩ | refine ⟨⟨by decide, by decide⟩, ?_⟩ | refine ⟨.inr ⟨by decide, by decide⟩, ?_⟩ | refine ⟨.inl ⟨by decide, by decide⟩, ?_⟩ | refine ⟨⟨by decide, by decide, by decide⟩, ?_⟩ | refine ⟨_, _, rfl, rfl, ?_⟩ | refine ⟨rfl, _, rfl, ?_⟩)
        first | refine iteVI (fun e5 => ?_) (fun e5 => ?_) | refine iteVN (fun e5 => ?_) (fun e5 => ?_) | refine iteD (fun e5 => ?_) (fun e5 => ?_) | refine iteDN (fun e5 => ?_) (fun e5 => ?_) | refine iteB (fun e5 => ?_) (fun e5 => ?_)
        · have e5' : 1000000000 < p.2 := e5
          rw [if_pos (by omega)] at hd
          exact q.at2 hd ex2
        · have e5' : ¬ 1000000000 < p.2 := e5
          rw [if_neg (by omega)] at hd
          refine ⟨_, _, rfl, ex2, ?_⟩
          rw [hd, take_at h1, List.map_append]
          rfl
    · rintro σ H1 ⟨y2, y3, rfl, ex, hd⟩
      rw [List.drop_of_length_le (by omega)] at hd
      exact q.at2 hd ex
def spNew (K : PySem.W.Frag) (H : Hp) (n : Nat) (Q : VK) : Prop := ∀ p xs qs H2, Ex H H2 → H p = none → H2 p = some (.lst xs) → Prs H2 xs qs → qs.length = n → Q (.ref p) H2
def spOrder (K : PySem.W.Frag) : Sp := fun vs H Q _ => ∃ (a : Addr) (ps : List (Int × Int)) (c : Int), vs = [.int c, .ref a] ∧ Till K H a ps ∧ ps.length ≤ 1000 ∧ spNew K H ps.length Q
theorem ok_order (T : Tx K mg) : FnOk P w K mg base CX0 2 T.a__law_order T.d__law_order P__law_order (spOrder K) := by
  have G__law_mixed := ok_mixed (P := P) (w := w) (base := base) T
  refine T.f__law_order.ok sc__law_order (fun vs H Q E h => ?_) (fun cdv A outer s H vs Q E hr h => ?_)
  · obtain ⟨a, ps, c, rfl, _⟩ := h
    rfl
  · obtain ⟨a, ps, c, rfl, ⟨xs, hS, hp⟩, hl, q⟩ := h
    refine ⟨_, (pss_cons (ps_set (i := 2) sc__law_order.nd rfl (.inl rfl) (pe_callTy call_list_of (by rfl) T.m_list (by decide +kernel) (pa_cons (pv 1) pa_nil)))
    (pss_cons (ps_set (i := 3) sc__law_order.nd rfl (.inl rfl) (pe_lst pa_nil))
    (pss_cons (ps_while PassesOwn.never (pt_cmpR op_gt (pe_callB call_len_seq (by rfl) T.m_len (by decide +kernel) (pa_cons (pv 2) pa_nil)) pe_int (nomark _))
      (pss_one (ps_expr (pe_bm PySem.F.plainAttrs_list PySem.F.slot_list_append PySem.F.type_list_append mt_append (pv 3) (pa_cons (pe_bm PySem.F.plainAttrs_list PySem.F.slot_list_pop PySem.F.type_list_pop mt_popAt (pv 2) (pa_cons (pe_op op_mod (pe_call G__law_mixed (hr.mono (by decide)) (by rfl) T.g__law_mixed T.f__law_mixed.kp T.p__law_mixed .nil pass0 (pa_cons (pv 0) (pa_cons (pe_callB call_len_seq (by rfl) T.m_len (by decide +kernel) (pa_cons (pv 2) pa_nil)) pa_nil))) (pe_callB call_len_seq (by rfl) T.m_len (by decide +kernel) (pa_cons (pv 2) pa_nil))) pa_nil)) pa_nil)))))
    (pss_one (ps_ret (pv 3)))))), ?_⟩
    have hxl := hp.len
    refine ⟨_, rfl, a, xs, rfl, .inl hS, fun l hl0 => ?_⟩
    refine ⟨Nat.zero_le _, fun f hf => ?_⟩
    have nlf : l ≠ f := ne_of_none upd_same hf
    have hf0 : H f = none := by
      rw [upd_ne nlf.symm] at hf
      exact hf
    have hpl : Prs (upd (upd H l (.lst xs)) f (.lst [])) xs ps := (hp.ex (Ex.nw hl0)).ex (Ex.nw hf)
    refine ⟨fun n σ H' => ∃ ys ps' zs qs, σ = [some (.int c), some (.ref a), some (.ref l), some (.ref f)] ∧ Ex H H' ∧ H' l = some (.lst ys) ∧ H' f = some (.lst zs) ∧ Prs H' ys ps' ∧ Prs H' zs qs ∧ ps'.length = n ∧ n + qs.length = ps.length,
      ⟨ps.length, xs, ps, [], [], rfl, Ex.tr (Ex.nw hl0) (Ex.nw hf), by rw [upd_ne nlf, upd_same], upd_same, hpl, .nil, rfl, rfl⟩, ?_⟩
    rintro n σ H' ⟨ys, ps', zs, qs, rfl, ex, el, ef, h1, h2, hn, hsum⟩
    have hyl := h1.len
    refine ⟨_, rfl, l, ys, rfl, .inl (.of el), ?_⟩
    repeat (first | refine ⟨_, rfl, ?_⟩ | refine ⟨(by show (0 : Int) < _; decide), ?_⟩ | refine ⟨⟨by decide, by decide⟩, ?_⟩ | refine ⟨.inr ⟨by decide, by decide⟩, ?_⟩ | refine ⟨.inl ⟨by decide, by decide⟩, ?_⟩ | refine ⟨⟨by decide, by decide, by decide⟩, ?_⟩ | refine ⟨_, _, rfl, rfl, ?_⟩ | refine ⟨rfl, _, rfl, ?_⟩)
    first | refine iteVI (fun e => ?_) (fun e => ?_) | refine iteVN (fun e => ?_) (fun e => ?_) | refine iteD (fun e => ?_) (fun e => ?_) | refine iteDN (fun e => ?_) (fun e => ?_) | refine iteB (fun e => ?_) (fun e => ?_)
    · have hpos : 0 < (ys.length : Int) := e
      refine ⟨_, fun σ' H' z => ⟨n - 1, by omega, z⟩, ?_⟩
      have b1 : 0 ≤ mixed c (ys.length : Int) % (ys.length : Int) := Int.emod_nonneg _ (by omega)
      have b2 : mixed c (ys.length : Int) % (ys.length : Int) < ys.length := Int.emod_lt_of_pos _ hpos
      refine ⟨_, rfl, .inl ⟨rfl, zs, .of ef⟩, _, rfl, .inl ⟨rfl, ys, .of el⟩, _, rfl, _, rfl, l, ys, rfl, .inl (.of el), _, _, rfl, ⟨by omega, by omega⟩, _, rfl, l, ys, rfl, .inl (.of el), _, _, rfl, rfl, hpos, ?_⟩
      have hk : (mixed c (ys.length : Int) % (ys.length : Int)).toNat < ys.length := by omega
      refine ⟨l, ys, _, _, ys[(mixed c (ys.length : Int) % (ys.length : Int)).toNat], rfl, rfl, el, by omega, by omega, seq_at b1 b2, List.getElem?_eq_getElem hk, ?_⟩
      obtain ⟨p, t, g1, g2, g3⟩ := Prs.get h1 (List.getElem?_eq_getElem hk)
      generalize (mixed c (ys.length : Int) % (ys.length : Int)).toNat = k at hk g1 g2 g3
      have ef2 : (upd H' l (.lst (ys.eraseIdx k))) f = some (.lst zs) := by rw [upd_ne nlf.symm]; exact ef
      have u1 : ∀ {us : List V} {rs : List (Int × Int)}, Prs H' us rs → Prs (upd H' l (.lst (ys.eraseIdx k))) us rs := fun h => h.up (by intro bs z; rw [el] at z; cases z)
      have u2 : ∀ {us : List V} {rs : List (Int × Int)}, Prs (upd H' l (.lst (ys.eraseIdx k))) us rs → Prs (upd (upd H' l (.lst (ys.eraseIdx k))) f (.lst (zs ++ [ys[k]]))) us rs := fun h => h.up (by intro bs z; rw [ef2] at z; cases z)
      have hps : k < ps'.length := (List.getElem?_eq_some_iff.mp g1).1
      refine ⟨f, zs, _, rfl, rfl, ef2, len63' (by rw [h2.len]; omega), ys.eraseIdx k, ps'.eraseIdx k, zs ++ [ys[k]], qs ++ [p], rfl, Ex.mu (Ex.mu ex hl0) hf0, by rw [upd_ne nlf, upd_same], upd_same, u2 (u1 (h1.erase k)), u2 (Prs.snoc (u1 h2) ?_), ?_, ?_⟩
      · refine ⟨t, g2, ?_⟩
        rw [upd_ne fun z => by rw [z, el] at g3; cases g3]
        exact g3
      · rw [List.length_eraseIdx]
        rw [if_pos hps]
        omega
      · rw [List.length_append, List.length_cons, List.length_nil]
        omega
    · exact ⟨_, rfl, q f zs qs H' ex hf0 ef h2 (by omega)⟩
def spSpoilt : Sp := fun vs H Q _ => ∃ (a : Addr) (xs : List V) (ps : List (Int × Int)) (c : Int), vs = [.ref a, .int c] ∧ H a = some (.lst xs) ∧ Prs H xs ps ∧ ps.length ≤ 1000 ∧
  ∀ p xs qs H2, Ex H H2 → H2 p = some (.lst xs) → Prs H2 xs qs → qs.length = ps.length → Q (.ref p) H2
theorem ok_spoilt (T : Tx K mg) : FnOk P w K mg base CX0 1 T.a__law_spoilt T.d__law_spoilt P__law_spoilt spSpoilt := by
  refine T.f__law_spoilt.ok sc__law_spoilt (fun vs H Q E h => ?_) (fun cdv A outer s H vs Q E hr h => ?_)
  · obtain ⟨a, xs, ps, c, rfl, _⟩ := h
    rfl
  · obtain ⟨a, xs, ps, c, rfl, ha, hp, hl, q2⟩ := h
    refine ⟨_, (pss_cons (ps_if (PW.pt (pw_or (pt_cmpR op_eq (pe_op op_mod (pv 1) pe_int) pe_int (nomark _)) (pw_or1 (pt_cmpR op_eq (pe_callB call_len_seq (by rfl) T.m_len (by decide +kernel) (pa_cons (pv 0) pa_nil)) pe_int (nomark _)))))
      (pss_one (ps_ret (pv 0)))
      pss_nil)
    (pss_cons (ps_set (i := 2) sc__law_spoilt.nd rfl (.inl rfl) (pe_op op_mod (pe_op op_fdiv (pv 1) pe_int) (pe_callB call_len_seq (by rfl) T.m_len (by decide +kernel) (pa_cons (pv 0) pa_nil))))
    (pss_cons (ps_set (i := 3) sc__law_spoilt.nd rfl (.inl rfl) (pe_op op_mod (pe_op op_fdiv (pv 1) pe_int) (pe_op op_pow pe_int pe_int)))
    (pss_cons (ps_set (i := 4) sc__law_spoilt.nd rfl (.inl rfl) (pe_ix ix_tup (pe_ix ix_list (pv 0) (pv 2) (fun _ _ => rfl)) pe_int (fun _ _ => rfl)))
    (pss_cons (ps_set (i := 5) sc__law_spoilt.nd rfl (.inl rfl) (pe_ix ix_tup (pe_ix ix_list (pv 0) (pv 2) (fun _ _ => rfl)) pe_int (fun _ _ => rfl)))
    (Evl.pss_cut (ps_if (pt_cmpR op_eq (pe_op op_mod (pe_op op_fdiv (pv 1) pe_int) pe_int) pe_int (nomark _))
      (pss_one (ps_set (i := 4) sc__law_spoilt.nd rfl (.inl rfl) (pe_ix ix_list (pe_lst (pa_cons pe_int (pa_cons pe_int (pa_cons (pe_op op_sub (pe_un un_neg pe_int) (pv 3)) (pa_cons (pe_op op_add pe_int (pv 3)) (pa_cons (pe_ix ix_tup (pe_ix ix_list (pv 0) (pe_op op_mod (pe_op op_fdiv (pv 1) pe_int) (pe_callB call_len_seq (by rfl) T.m_len (by decide +kernel) (pa_cons (pv 0) pa_nil))) (fun _ _ => rfl)) pe_int (fun _ _ => rfl)) pa_nil)))))) (pe_op op_mod (pe_op op_fdiv (pv 1) pe_int) pe_int) (fun _ _ => rfl))))
      (pss_one (ps_set (i := 5) sc__law_spoilt.nd rfl (.inl rfl) (pe_ix ix_list (pe_lst (pa_cons (pe_un un_neg pe_int) (pa_cons (pe_op op_pow pe_int pe_int) (pa_cons (pe_op op_add (pe_op op_pow pe_int pe_int) pe_int) (pa_cons (pe_op op_sub (pe_un un_neg pe_int) (pv 3)) (pa_cons (pe_op op_add (pe_op op_add (pe_op op_pow pe_int pe_int) pe_int) (pv 3)) pa_nil)))))) (pe_op op_mod (pe_op op_fdiv (pv 1) pe_int) pe_int) (fun _ _ => rfl)))))
    (pss_one (ps_ret (pe_op op_cat (pe_op op_cat (pe_slice sl_list (pv 0) po_none (po_some (pv 2))) (pe_lst (pa_cons (pe_tup (pa_cons (pv 4) (pa_cons (pv 5) pa_nil))) pa_nil))) (pe_slice sl_list (pv 0) (po_some (pe_op op_add (pv 2) pe_int)) po_none)))))))))), ?_⟩
    have hxl := hp.len
    have hS : SqL K H a xs := .of ha
    have q1 : Q (.ref a) H := q2 a xs ps H Ex.rfl' ha hp rfl
    repeat (first | refine ⟨_, rfl, ?_⟩ | refine ⟨(by show (0 : Int) < _; decide), ?_⟩ | refine ⟨⟨by decide, by decide⟩, ?_⟩ | refine ⟨.inr ⟨by decide, by decide⟩, ?_⟩ | refine ⟨.inl ⟨by decide, by decide⟩, ?_⟩ | refine ⟨⟨by decide, by decide, by decide⟩, ?_⟩ | refine ⟨_, _, rfl, rfl, ?_⟩ | refine ⟨rfl, _, rfl, ?_⟩)
    first | refine iteVI (fun e => ?_) (fun e => ?_) | refine iteVN (fun e => ?_) (fun e => ?_) | refine iteD (fun e => ?_) (fun e => ?_) | refine iteDN (fun e => ?_) (fun e => ?_) | refine iteB (fun e => ?_) (fun e => ?_)
    · exact iteT ⟨_, rfl, q1⟩
    refine ⟨_, rfl, a, xs, rfl, .inl hS, ?_⟩
    repeat (first | refine ⟨_, rfl, ?_⟩ | refine ⟨(by show (0 : Int) < _; decide), ?_⟩ | refine ⟨⟨by decide, by decide⟩, ?_⟩ | refine ⟨.inr ⟨by decide, by decide⟩, ?_⟩ | refine ⟨.inl ⟨by decide, by decide⟩, ?_⟩ | refine ⟨⟨by decide, by decide, by decide⟩, ?_⟩ | refine ⟨_, _, rfl, rfl, ?_⟩ | refine ⟨rfl, _, rfl, ?_⟩)
    first | refine iteVI (fun e2 => ?_) (fun e2 => ?_) | refine iteVN (fun e2 => ?_) (fun e2 => ?_) | refine iteD (fun e2 => ?_) (fun e2 => ?_) | refine iteDN (fun e2 => ?_) (fun e2 => ?_) | refine iteB (fun e2 => ?_) (fun e2 => ?_)
    · exact ⟨_, rfl, q1⟩
    have hpos : 0 < (xs.length : Int) := by omega
    refine ⟨_, rfl, _, _, rfl, rfl, ⟨by decide, by decide⟩, _, rfl, a, xs, rfl, .inl hS, _, _, rfl, rfl, hpos, ?_⟩
    have b1 : 0 ≤ c / 3 % (xs.length : Int) := Int.emod_nonneg _ (by omega)
    have b2 : c / 3 % (xs.length : Int) < xs.length := Int.emod_lt_of_pos _ hpos
    obtain ⟨k, hk⟩ : ∃ k : Nat, c / 3 % (xs.length : Int) = (k : Int) := ⟨(c / 3 % (xs.length : Int)).toNat, (Int.toNat_of_nonneg b1).symm⟩
    have hkx : k < xs.length := by omega
    obtain ⟨p, t, g1, g2, g3⟩ := Prs.get hp (List.getElem?_eq_getElem hkx)
    have hx : atI xs (c / 3 % (xs.length : Int)) = some (.ref t) := at_of hk (by rw [List.getElem?_eq_getElem hkx, g2])
    repeat (first | refine ⟨_, rfl, ?_⟩ | refine ⟨(by show (0 : Int) < _; decide), ?_⟩ | refine ⟨⟨by decide, by decide⟩, ?_⟩ | refine ⟨.inr ⟨by decide, by decide⟩, ?_⟩ | refine ⟨.inl ⟨by decide, by decide⟩, ?_⟩ | refine ⟨⟨by decide, by decide, by decide⟩, ?_⟩ | refine ⟨_, _, rfl, rfl, ?_⟩ | refine ⟨rfl, _, rfl, ?_⟩)
    refine ⟨a, xs, _, _, rfl, rfl, hS, hx, t, _, 0, .int p.1, rfl, rfl, .of g3, rfl, ?_⟩
    refine ⟨_, rfl, _, rfl, a, xs, _, _, rfl, rfl, hS, hx, t, _, 1, .int p.2, rfl, rfl, .of g3, rfl, ?_⟩
    refine ⟨fun σ' H' => ∃ (u v : Int) (y3 : Option V), σ' = [some (.ref a), some (.int c), some (.int (k : Int)), y3, some (.int u), some (.int v)] ∧ Ex H H', ?_, ?_⟩
    · repeat (first | refine ⟨_, rfl, ?_⟩ | refine ⟨(by show (0 : Int) < _; decide), ?_⟩ | refine ⟨⟨by decide, by decide⟩, ?_⟩ | refine ⟨.inr ⟨by decide, by decide⟩, ?_⟩ | refine ⟨.inl ⟨by decide, by decide⟩, ?_⟩ | refine ⟨⟨by decide, by decide, by decide⟩, ?_⟩ | refine ⟨_, _, rfl, rfl, ?_⟩ | refine ⟨rfl, _, rfl, ?_⟩)
      have d1 : 0 ≤ c / 30 % 5 := Int.emod_nonneg _ (by decide)
      have d2 : c / 30 % 5 < (5 : Int) := Int.emod_lt_of_pos _ (by decide)
      first | refine iteVI (fun e3 => ?_) (fun e3 => ?_) | refine iteVN (fun e3 => ?_) (fun e3 => ?_) | refine iteD (fun e3 => ?_) (fun e3 => ?_) | refine iteDN (fun e3 => ?_) (fun e3 => ?_) | refine iteB (fun e3 => ?_) (fun e3 => ?_)
      · repeat (first | refine ⟨_, rfl, ?_⟩ | refine ⟨(by show (0 : Int) < _; decide), ?_⟩ | refine ⟨⟨by decide, by decide⟩, ?_⟩ | refine ⟨.inr ⟨by decide, by decide⟩, ?_⟩ | refine ⟨.inl ⟨by decide, by decide⟩, ?_⟩ | refine ⟨⟨by decide, by decide, by decide⟩, ?_⟩ | refine ⟨_, _, rfl, rfl, ?_⟩ | refine ⟨rfl, _, rfl, ?_⟩)
        have e1 : 0 ≤ c / 120 % (xs.length : Int) := Int.emod_nonneg _ (by omega)
        have e2 : c / 120 % (xs.length : Int) < xs.length := Int.emod_lt_of_pos _ hpos
        obtain ⟨k2, hk2⟩ : ∃ k : Nat, c / 120 % (xs.length : Int) = (k : Int) := ⟨(c / 120 % (xs.length : Int)).toNat, (Int.toNat_of_nonneg e1).symm⟩
        have hkx2 : k2 < xs.length := by omega
        obtain ⟨p2, t2, _, f2, f3⟩ := Prs.get hp (List.getElem?_eq_getElem hkx2)
        have hx2 : atI xs (c / 120 % (xs.length : Int)) = some (.ref t2) := at_of hk2 (by rw [List.getElem?_eq_getElem hkx2, f2])
        refine ⟨a, xs, rfl, .inl hS, _, _, rfl, rfl, hpos, a, xs, _, _, rfl, rfl, hS, hx2, t2, _, 0, .int p2.1, rfl, rfl, .of f3, rfl, ?_⟩
        refine ⟨len63 (by show 5 ≤ _; decide), fun l hl0 => ?_⟩
        repeat (first | refine ⟨_, rfl, ?_⟩ | refine ⟨(by show (0 : Int) < _; decide), ?_⟩ | refine ⟨⟨by decide, by decide⟩, ?_⟩ | refine ⟨.inr ⟨by decide, by decide⟩, ?_⟩ | refine ⟨.inl ⟨by decide, by decide⟩, ?_⟩ | refine ⟨⟨by decide, by decide, by decide⟩, ?_⟩ | refine ⟨_, _, rfl, rfl, ?_⟩ | refine ⟨rfl, _, rfl, ?_⟩)
        refine ⟨l, [0, 1001, -1 - c / 300 % 10 ^ (9 : Int).toNat, 1002 + c / 300 % 10 ^ (9 : Int).toNat, p2.1].map V.int, _, _, rfl, rfl, .of upd_same, menu_at rfl d1 d2, ?_⟩
        exact ⟨_, _, _, by rw [← hk]; rfl, Ex.nw hl0⟩
      · repeat (first | refine ⟨_, rfl, ?_⟩ | refine ⟨(by show (0 : Int) < _; decide), ?_⟩ | refine ⟨⟨by decide, by decide⟩, ?_⟩ | refine ⟨.inr ⟨by decide, by decide⟩, ?_⟩ | refine ⟨.inl ⟨by decide, by decide⟩, ?_⟩ | refine ⟨⟨by decide, by decide, by decide⟩, ?_⟩ | refine ⟨_, _, rfl, rfl, ?_⟩ | refine ⟨rfl, _, rfl, ?_⟩)
        refine ⟨len63 (by show 5 ≤ _; decide), fun l hl0 => ?_⟩
        repeat (first | refine ⟨_, rfl, ?_⟩ | refine ⟨(by show (0 : Int) < _; decide), ?_⟩ | refine ⟨⟨by decide, by decide⟩, ?_⟩ | refine ⟨.inr ⟨by decide, by decide⟩, ?_⟩ | refine ⟨.inl ⟨by decide, by decide⟩, ?_⟩ | refine ⟨⟨by decide, by decide, by decide⟩, ?_⟩ | refine ⟨_, _, rfl, rfl, ?_⟩ | refine ⟨rfl, _, rfl, ?_⟩)
        refine ⟨l, [-1, 10 ^ (9 : Int).toNat, 10 ^ (9 : Int).toNat + 1, -2 - c / 300 % 10 ^ (9 : Int).toNat, 10 ^ (9 : Int).toNat + 2 + c / 300 % 10 ^ (9 : Int).toNat].map V.int, _, _, rfl, rfl, .of upd_same, menu_at rfl d1 d2, ?_⟩
        exact ⟨_, _, _, by rw [← hk]; rfl, Ex.nw hl0⟩
    rintro σ' H' ⟨u, v, y3, rfl, ex⟩
    refine ⟨_, rfl, _, rfl, _, rfl, a, xs, rfl, ex.seq hS, fun l1 hl1 => ?_⟩
    rw [cut_take xs k (by omega)]
    (generalize hh : upd H' l1 _ = H1; have e1 : Ex H' H1 := (by rw [← hh]; exact Ex.nw hl1); have c1 := (show H1 l1 = some _ by rw [← hh]; exact upd_same); clear hh)
    refine ⟨_, rfl, _, rfl, len63 (by show 2 ≤ _; decide), fun t1 ht1 => ?_⟩
    (generalize hh : upd H1 t1 _ = H2; have e2' : Ex H1 H2 := (by rw [← hh]; exact Ex.nw ht1); have c2 := (show H2 t1 = some _ by rw [← hh]; exact upd_same); clear hh)
    refine ⟨len63 (by show 1 ≤ _; decide), fun l2 hl2 => ?_⟩
    (generalize hh : upd H2 l2 _ = H3; have e3 : Ex H2 H3 := (by rw [← hh]; exact Ex.nw hl2); have c3 := (show H3 l2 = some _ by rw [← hh]; exact upd_same); clear hh)
    refine ⟨l1, l2, _, _, rfl, rfl, e3 _ _ (e2' _ _ c1), c3, len63 (by rw [List.length_take, List.length_cons, List.length_nil]; omega), fun l3 hl3 => ?_⟩
    (generalize hh : upd H3 l3 _ = H4; have e4 : Ex H3 H4 := (by rw [← hh]; exact Ex.nw hl3); have c4 := (show H4 l3 = some _ by rw [← hh]; exact upd_same); clear hh)
    have ex4 := (((ex.tr e1).tr e2').tr e3).tr e4
    refine ⟨_, rfl, _, rfl, ?_⟩
    repeat (first | refine ⟨_, rfl, ?_⟩ | refine ⟨(by show (0 : Int) < _; decide), ?_⟩ | refine ⟨⟨by decide, by decide⟩, ?_⟩ | refine ⟨.inr ⟨by decide, by decide⟩, ?_⟩ | refine ⟨.inl ⟨by decide, by decide⟩, ?_⟩ | refine ⟨⟨by decide, by decide, by decide⟩, ?_⟩ | refine ⟨_, _, rfl, rfl, ?_⟩ | refine ⟨rfl, _, rfl, ?_⟩)
    refine ⟨a, xs, rfl, ex4.seq hS, fun l5 hl5 => ?_⟩
    rw [show ((k : Int) + 1) = ((k + 1 : Nat) : Int) from rfl, cut_drop xs (k + 1) (by omega)]
    (generalize hh : upd H4 l5 _ = H5; have e5 : Ex H4 H5 := (by rw [← hh]; exact Ex.nw hl5); have c5 := (show H5 l5 = some _ by rw [← hh]; exact upd_same); clear hh)
    refine ⟨l3, l5, _, _, rfl, rfl, e5 _ _ c4, c5, len63 (by simp; omega), fun l6 hl6 => ?_⟩
    have ex6 := (ex4.tr e5).tr (Ex.nw (o := .lst ((xs.take k ++ [.ref t1]) ++ xs.drop (k + 1))) hl6)
    refine q2 l6 _ ((ps.take k ++ [(u, v)]) ++ ps.drop (k + 1)) _ ex6 upd_same ?_ ?_
    · have hp6 := hp.ex ex6
      exact Prs.app (Prs.app (hp6.take k) (.cons ⟨t1, rfl, (Ex.nw hl6) _ _ (e5 _ _ (e4 _ _ (e3 _ _ c2)))⟩ .nil)) (hp6.drop (k + 1))
    · simp
      omega
/-- [0, the till] or [what is due, []] -/
def spMade (K : PySem.W.Frag) : Sp := fun vs H Q _ => ∃ (a : Addr) (ps : List (Int × Int)), vs = [.ref a] ∧ Till K H a ps ∧ ps.length ≤ 1000 ∧
  (due ps = 0 → ∀ m p xs qs H2, Ex H H2 → H m = none → H p = none → m ≠ p → H2 m = some (.lst [.int 0, .ref p]) → H2 p = some (.lst xs) → Prs H2 xs qs → qs.Perm ps → Rising qs → Q (.ref m) H2) ∧
  (due ps ≠ 0 → ∀ m e H2, Ex H H2 → H m = none → H2 m = some (.lst [.int (due ps), .ref e]) → Q (.ref m) H2)
theorem due_in (ps : List (Int × Int)) : due ps = 0 ∨ due ps = 1 ∨ due ps = 2 ∨ due ps = 3 ∨ due ps = 4 := by
  unfold due
  split
  · rcases dueFrom_in ps [] with h | h | h | h
    · exact .inl h
    · exact .inr (.inr (.inl h))
    · exact .inr (.inr (.inr (.inl h)))
    · exact .inr (.inr (.inr (.inr h)))
  · exact .inr (.inl rfl)
theorem ok_made (T : Tx K mg) : FnOk P w K mg base CX0 3 T.a__law_made T.d__law_made P__law_made (spMade K) := by
  have G_till_of := ok_till_of (P := P) (w := w) (base := base) T
  refine T.f__law_made.ok sc__law_made (fun vs H Q E h => ?_) (fun cdv A outer s H vs Q E hr h => ?_)
  · obtain ⟨a, ps, rfl, _⟩ := h
    rfl
  · obtain ⟨a, ps, rfl, hT, hl, q1, q2⟩ := h
    refine ⟨_, (pss_one (ps_try_many rfl rfl takes0
      (fun W pn xe tk hp => (pss_one (ps_ret (pe_lst (pa_cons pe_int (pa_cons (pe_callS G_till_of (hr.mono (by decide)) rfl T.g_till_of T.f_till_of.kp T.p_till_of (fun σ => passAt tk σ) (pa_cons (pv 0) pa_nil)) pa_nil))))))
      (.cons ⟨by rfl, by decide, .inl T.g_NoTill⟩ (fun a oe cls d pn hz hf => (pss_one (ps_ret (pe_lst (pa_cons pe_int (pa_cons (pe_lst pa_nil) pa_nil))))))
      (.cons ⟨by rfl, by decide, .inl T.g_NoKind⟩ (fun a oe cls d pn hz hf => (pss_one (ps_ret (pe_lst (pa_cons pe_int (pa_cons (pe_lst pa_nil) pa_nil))))))
      (.cons ⟨by rfl, by decide, .inl T.g_Twice⟩ (fun a oe cls d pn hz hf => (pss_one (ps_ret (pe_lst (pa_cons pe_int (pa_cons (pe_lst pa_nil) pa_nil))))))
      (.cons ⟨by rfl, by decide, .inl T.g_NoCount⟩ (fun a oe cls d pn hz hf => (pss_one (ps_ret (pe_lst (pa_cons pe_int (pa_cons (pe_lst pa_nil) pa_nil))))))
      .nil)))))), ?_⟩
    -- what an except's suite answers
    have sx : ∀ (d : Int) (H2 : Hp), due ps = d → d ≠ 0 → Ex H H2 → ∀ e, H2 e = none → ∀ m, (upd H2 e (.lst [])) m = none → Q (.ref m) (upd (upd H2 e (.lst [])) m (.lst [.int d, .ref e])) := by
      intro d H2 hd hd0 ex e he m hm
      subst hd
      refine q2 hd0 m e _ ((ex.tr (Ex.nw he)).tr (Ex.nw hm)) ?_ upd_same
      cases z : H m with
      | none => rfl
      | some o => rw [Ex.nw he _ _ (ex _ _ z)] at hm; cases hm
    refine ⟨_, rfl, a, ps, rfl, hT, hl, fun hd p xs qs H2 ex hp ep hpr hpm hris => ?_, fun hd H2 ex => ?_, fun hd H2 ex => ?_, fun hd H2 ex => ?_, fun hd H2 ex => ?_⟩
    · refine ⟨len63 (by show 2 ≤ _; decide), fun m hm => ?_⟩
      have hne : m ≠ p := (ne_of_none ep hm).symm
      refine q1 hd m p xs qs _ (ex.tr (Ex.nw hm)) ?_ hp hne upd_same ((Ex.nw hm) _ _ ep) (hpr.ex (Ex.nw hm)) hpm hris
      cases z : H m with
      | none => rfl
      | some o => rw [ex _ _ z] at hm; cases hm
    · refine ⟨true, exm_mk T.b_NoTill T.i_NoTill T.t_NoTill T.u_NoTill_NoTill, (fun _ x hx => ?_), fun z => nomatch z⟩
      exact ⟨Nat.zero_le _, fun e he => ⟨len63 (by show 2 ≤ _; decide), fun m hm => sx 1 _ hd (by decide) ex e he m hm⟩⟩
    · refine ⟨false, exm_mk T.b_NoTill T.i_NoTill T.t_NoTill T.u_NoKind_NoTill, (fun z => nomatch z), fun _ => ?_⟩
      refine ⟨true, exm_mk T.b_NoKind T.i_NoKind T.t_NoKind T.u_NoKind_NoKind, (fun _ x hx => ?_), fun z => nomatch z⟩
      exact ⟨Nat.zero_le _, fun e he => ⟨len63 (by show 2 ≤ _; decide), fun m hm => sx 2 _ hd (by decide) ex e he m hm⟩⟩
    · refine ⟨false, exm_mk T.b_NoTill T.i_NoTill T.t_NoTill T.u_Twice_NoTill, (fun z => nomatch z), fun _ => ?_⟩
      refine ⟨false, exm_mk T.b_NoKind T.i_NoKind T.t_NoKind T.u_Twice_NoKind, (fun z => nomatch z), fun _ => ?_⟩
      refine ⟨true, exm_mk T.b_Twice T.i_Twice T.t_Twice T.u_Twice_Twice, (fun _ x hx => ?_), fun z => nomatch z⟩
      exact ⟨Nat.zero_le _, fun e he => ⟨len63 (by show 2 ≤ _; decide), fun m hm => sx 3 _ hd (by decide) ex e he m hm⟩⟩
    · refine ⟨false, exm_mk T.b_NoTill T.i_NoTill T.t_NoTill T.u_NoCount_NoTill, (fun z => nomatch z), fun _ => ?_⟩
      refine ⟨false, exm_mk T.b_NoKind T.i_NoKind T.t_NoKind T.u_NoCount_NoKind, (fun z => nomatch z), fun _ => ?_⟩
      refine ⟨false, exm_mk T.b_Twice T.i_Twice T.t_Twice T.u_NoCount_Twice, (fun z => nomatch z), fun _ => ?_⟩
      refine ⟨true, exm_mk T.b_NoCount T.i_NoCount T.t_NoCount T.u_NoCount_NoCount, (fun _ x hx => ?_), fun z => nomatch z⟩
      exact ⟨Nat.zero_le _, fun e he => ⟨len63 (by show 2 ≤ _; decide), fun m hm => sx 4 _ hd (by decide) ex e he m hm⟩⟩
def spAny (K : PySem.W.Frag) : Sp := fun vs H Q _ => ∃ (a : Addr) (ps : List (Int × Int)), vs = [.ref a] ∧ Till K H a ps ∧ ps.length ≤ 1000 ∧ Ret (.bl (!decide (due ps = 0))) H Q
theorem ne_sub {K : PySem.W.Frag} {C D : Addr} (h1 : PySem.W.subIn K (.ref C) (.ref D) = some false) (h2 : PySem.W.subIn K (.ref C) (.ref C) = some true) : C ≠ D := by
  intro e
  rw [← e, h2] at h1
  cases h1
theorem ok_any (T : Tx K mg) : FnOk P w K mg base CX0 3 T.a__law_any T.d__law_any P__law_any (spAny K) := by
  have G_till_of := ok_till_of (P := P) (w := w) (base := base) T
  refine T.f__law_any.ok sc__law_any (fun vs H Q E h => ?_) (fun cdv A outer s H vs Q E hr h => ?_)
  · obtain ⟨a, ps, rfl, _⟩ := h
    rfl
  · obtain ⟨a, ps, rfl, hT, hl, q⟩ := h
    refine ⟨_, (pss_cons (ps_try_as (i := 1) rfl rfl sc__law_any.nd rfl rfl ⟨by rfl, by decide, .inl T.g_TillError⟩ takes0
      (fun W pn xe tk hp => (pss_one (ps_expr (pe_callS G_till_of (hr.mono (by decide)) rfl T.g_till_of T.f_till_of.kp T.p_till_of (fun σ => passAt tk σ) (pa_cons (pv 0) pa_nil)))))
      (fun a oe cls d pn hz hf => (pss_cons (ps_set (i := 2) sc__law_any.nd rfl (.inl rfl) (pe_lst (pa_cons (pe_callB (call_isE1 hz hf) (by rfl) T.m_isinstance (by decide +kernel) (pa_cons (pv 1) (pa_cons (pe_glob (v := .ref T.c_NoTill) (by rfl) T.g_NoTill rfl) pa_nil))) (pa_cons (pe_callB (call_isE1 hz hf) (by rfl) T.m_isinstance (by decide +kernel) (pa_cons (pv 1) (pa_cons (pe_glob (v := .ref T.c_NoKind) (by rfl) T.g_NoKind rfl) pa_nil))) (pa_cons (pe_callB (call_isE1 hz hf) (by rfl) T.m_isinstance (by decide +kernel) (pa_cons (pv 1) (pa_cons (pe_glob (v := .ref T.c_Twice) (by rfl) T.g_Twice rfl) pa_nil))) (pa_cons (pe_callB (call_isE1 hz hf) (by rfl) T.m_isinstance (by decide +kernel) (pa_cons (pv 1) (pa_cons (pe_glob (v := .ref T.c_NoCount) (by rfl) T.g_NoCount rfl) pa_nil))) pa_nil))))))
      (pss_cons (ps_if (pt_val (pe_callB (call_isET hz hf) (by rfl) T.m_isinstance (by decide +kernel) (pa_cons (pv 1) (pa_cons (pe_tup (pa_cons (pe_glob (v := .ref T.c_NoChange) (by rfl) T.g_NoChange rfl) (pa_cons (pe_glob (v := .ref T.c_NoDeed) (by rfl) T.g_NoDeed rfl) (pa_cons (pe_glob (v := .ref T.c_NoSum) (by rfl) T.g_NoSum rfl) (pa_cons (pe_glob (v := .ref T.c_StillHeld) (by rfl) T.g_StillHeld rfl) (pa_cons (pe_glob (v := .ref T.c_TooFew) (by rfl) T.g_TooFew rfl) (pa_cons (pe_glob (v := .ref T.c_TooLittle) (by rfl) T.g_TooLittle rfl) pa_nil))))))) pa_nil))))
        (pss_one (ps_ret pe_bl))
        pss_nil)
      (pss_one (ps_ret (pe_and (pe_callB (call_isE1 hz hf) (by rfl) T.m_isinstance (by decide +kernel) (pa_cons (pv 1) (pa_cons (pe_bltn (v := .ty "ValueError") (by rfl) T.m_ValueError (by decide +kernel) rfl) pa_nil))) (pe_one (pe_cmpR op_eq (pe_countS (pv 2) (pa_cons pe_bl pa_nil)) pe_int (nomark _))))))))))
    (pss_one (ps_ret pe_bl))), ?_⟩
    refine ⟨_, rfl, a, ps, rfl, hT, hl, fun hd p xs qs H2 ex hp ep hpr hpm hris => ?_, fun hd H2 ex => ?_, fun hd H2 ex => ?_, fun hd H2 ex => ?_, fun hd H2 ex => ?_⟩
    · have := q _ ex
      rw [hd] at this
      exact this
    · refine ⟨true, exm_mk T.b_TillError T.i_TillError T.t_TillError T.u_NoTill_TillError, (fun _ x hx => ?_), fun z => nomatch z⟩
      refine ⟨_, rfl, _, _, _, true, rfl, rfl, T.e_NoTill, rfl, (fun u r => r), kone_self, ⟨_, rfl, _, _, _, false, rfl, rfl, T.e_NoTill, rfl, (fun u r => r), kone_own (ne_sub T.u_NoTill_NoKind T.u_NoTill_NoTill) T.i_NoKind T.t_NoKind T.u_NoTill_NoKind, ⟨_, rfl, _, _, _, false, rfl, rfl, T.e_NoTill, rfl, (fun u r => r), kone_own (ne_sub T.u_NoTill_Twice T.u_NoTill_NoTill) T.i_Twice T.t_Twice T.u_NoTill_Twice, ⟨_, rfl, _, _, _, false, rfl, rfl, T.e_NoTill, rfl, (fun u r => r), kone_own (ne_sub T.u_NoTill_NoCount T.u_NoTill_NoTill) T.i_NoCount T.t_NoCount T.u_NoTill_NoCount, ?_⟩⟩⟩⟩
      refine ⟨len63 (by show 4 ≤ _; decide), fun l hl2 => ?_⟩
      refine ⟨_, rfl, len63 (by show 6 ≤ _; decide), fun p hp => ?_⟩
      have hlp : l ≠ p := ne_of_none upd_same hp
      refine ⟨_, p, _, _, false, rfl, rfl, T.e_NoTill, rfl, upd_same, ?_, T.y_NoTill, false, rfl, iteF ?_⟩
      · repeat (first | exact .nil | refine .cons (.own _) ?_)
      refine ⟨_, rfl, _, _, _, true, rfl, rfl, T.e_NoTill, rfl, (fun u r => r), T.z_NoTill, true, rfl, iteT ?_⟩
      refine ⟨_, rfl, .inl ⟨rfl, _, .of (by rw [upd_ne hlp]; exact upd_same)⟩, l, [true, false, false, false], true, rfl, rfl, .of (by rw [upd_ne hlp]; exact upd_same), rfl, ?_⟩
      rw [hd] at q
      exact q _ ((ex.tr (Ex.nw hl2)).tr (Ex.nw hp))
    · refine ⟨true, exm_mk T.b_TillError T.i_TillError T.t_TillError T.u_NoKind_TillError, (fun _ x hx => ?_), fun z => nomatch z⟩
      refine ⟨_, rfl, _, _, _, false, rfl, rfl, T.e_NoKind, rfl, (fun u r => r), kone_own (ne_sub T.u_NoKind_NoTill T.u_NoKind_NoKind) T.i_NoTill T.t_NoTill T.u_NoKind_NoTill, ⟨_, rfl, _, _, _, true, rfl, rfl, T.e_NoKind, rfl, (fun u r => r), kone_self, ⟨_, rfl, _, _, _, false, rfl, rfl, T.e_NoKind, rfl, (fun u r => r), kone_own (ne_sub T.u_NoKind_Twice T.u_NoKind_NoKind) T.i_Twice T.t_Twice T.u_NoKind_Twice, ⟨_, rfl, _, _, _, false, rfl, rfl, T.e_NoKind, rfl, (fun u r => r), kone_own (ne_sub T.u_NoKind_NoCount T.u_NoKind_NoKind) T.i_NoCount T.t_NoCount T.u_NoKind_NoCount, ?_⟩⟩⟩⟩
      refine ⟨len63 (by show 4 ≤ _; decide), fun l hl2 => ?_⟩
      refine ⟨_, rfl, len63 (by show 6 ≤ _; decide), fun p hp => ?_⟩
      have hlp : l ≠ p := ne_of_none upd_same hp
      refine ⟨_, p, _, _, false, rfl, rfl, T.e_NoKind, rfl, upd_same, ?_, T.y_NoKind, false, rfl, iteF ?_⟩
      · repeat (first | exact .nil | refine .cons (.own _) ?_)
      refine ⟨_, rfl, _, _, _, true, rfl, rfl, T.e_NoKind, rfl, (fun u r => r), T.z_NoKind, true, rfl, iteT ?_⟩
      refine ⟨_, rfl, .inl ⟨rfl, _, .of (by rw [upd_ne hlp]; exact upd_same)⟩, l, [false, true, false, false], true, rfl, rfl, .of (by rw [upd_ne hlp]; exact upd_same), rfl, ?_⟩
      rw [hd] at q
      exact q _ ((ex.tr (Ex.nw hl2)).tr (Ex.nw hp))
    · refine ⟨true, exm_mk T.b_TillError T.i_TillError T.t_TillError T.u_Twice_TillError, (fun _ x hx => ?_), fun z => nomatch z⟩
      refine ⟨_, rfl, _, _, _, false, rfl, rfl, T.e_Twice, rfl, (fun u r => r), kone_own (ne_sub T.u_Twice_NoTill T.u_Twice_Twice) T.i_NoTill T.t_NoTill T.u_Twice_NoTill, ⟨_, rfl, _, _, _, false, rfl, rfl, T.e_Twice, rfl, (fun u r => r), kone_own (ne_sub T.u_Twice_NoKind T.u_Twice_Twice) T.i_NoKind T.t_NoKind T.u_Twice_NoKind, ⟨_, rfl, _, _, _, true, rfl, rfl, T.e_Twice, rfl, (fun u r => r), kone_self, ⟨_, rfl, _, _, _, false, rfl, rfl, T.e_Twice, rfl, (fun u r => r), kone_own (ne_sub T.u_Twice_NoCount T.u_Twice_Twice) T.i_NoCount T.t_NoCount T.u_Twice_NoCount, ?_⟩⟩⟩⟩
      refine ⟨len63 (by show 4 ≤ _; decide), fun l hl2 => ?_⟩
      refine ⟨_, rfl, len63 (by show 6 ≤ _; decide), fun p hp => ?_⟩
      have hlp : l ≠ p := ne_of_none upd_same hp
      refine ⟨_, p, _, _, false, rfl, rfl, T.e_Twice, rfl, upd_same, ?_, T.y_Twice, false, rfl, iteF ?_⟩
      · repeat (first | exact .nil | refine .cons (.own _) ?_)
      refine ⟨_, rfl, _, _, _, true, rfl, rfl, T.e_Twice, rfl, (fun u r => r), T.z_Twice, true, rfl, iteT ?_⟩
      refine ⟨_, rfl, .inl ⟨rfl, _, .of (by rw [upd_ne hlp]; exact upd_same)⟩, l, [false, false, true, false], true, rfl, rfl, .of (by rw [upd_ne hlp]; exact upd_same), rfl, ?_⟩
      rw [hd] at q
      exact q _ ((ex.tr (Ex.nw hl2)).tr (Ex.nw hp))
    · refine ⟨true, exm_mk T.b_TillError T.i_TillError T.t_TillError T.u_NoCount_TillError, (fun _ x hx => ?_), fun z => nomatch z⟩
      refine ⟨_, rfl, _, _, _, false, rfl, rfl, T.e_NoCount, rfl, (fun u r => r), kone_own (ne_sub T.u_NoCount_NoTill T.u_NoCount_NoCount) T.i_NoTill T.t_NoTill T.u_NoCount_NoTill, ⟨_, rfl, _, _, _, false, rfl, rfl, T.e_NoCount, rfl, (fun u r => r), kone_own (ne_sub T.u_NoCount_NoKind T.u_NoCount_NoCount) T.i_NoKind T.t_NoKind T.u_NoCount_NoKind, ⟨_, rfl, _, _, _, false, rfl, rfl, T.e_NoCount, rfl, (fun u r => r), kone_own (ne_sub T.u_NoCount_Twice T.u_NoCount_NoCount) T.i_Twice T.t_Twice T.u_NoCount_Twice, ⟨_, rfl, _, _, _, true, rfl, rfl, T.e_NoCount, rfl, (fun u r => r), kone_self, ?_⟩⟩⟩⟩
      refine ⟨len63 (by show 4 ≤ _; decide), fun l hl2 => ?_⟩
      refine ⟨_, rfl, len63 (by show 6 ≤ _; decide), fun p hp => ?_⟩
      have hlp : l ≠ p := ne_of_none upd_same hp
      refine ⟨_, p, _, _, false, rfl, rfl, T.e_NoCount, rfl, upd_same, ?_, T.y_NoCount, false, rfl, iteF ?_⟩
      · repeat (first | exact .nil | refine .cons (.own _) ?_)
      refine ⟨_, rfl, _, _, _, true, rfl, rfl, T.e_NoCount, rfl, (fun u r => r), T.z_NoCount, true, rfl, iteT ?_⟩
      refine ⟨_, rfl, .inl ⟨rfl, _, .of (by rw [upd_ne hlp]; exact upd_same)⟩, l, [false, false, false, true], true, rfl, rfl, .of (by rw [upd_ne hlp]; exact upd_same), rfl, ?_⟩
      rw [hd] at q
      exact q _ ((ex.tr (Ex.nw hl2)).tr (Ex.nw hp))
/-! ### a whole number -/
def spWhole : Sp := fun vs H Q _ => ∃ i : Int, vs = [.int i] ∧ Q (.bl true) H
theorem ok_whole (T : Tx K mg) : FnOk P w K mg base CX0 1 T.a__law_whole T.d__law_whole P__law_whole spWhole := by
  refine T.f__law_whole.ok sc__law_whole (fun vs H Q E h => ?_) (fun cdv A outer s H vs Q E hr h => ?_)
  · obtain ⟨i, rfl, _⟩ := h
    rfl
  · obtain ⟨i, rfl, q⟩ := h
    refine ⟨_, (pss_one (ps_ret (pe_and (pe_callB call_isi (by rfl) T.m_isinstance (by decide +kernel) (pa_cons (pv 0) (pa_cons (pe_bltn (v := .ty "int") (by rfl) T.m_int (by decide +kernel) rfl) pa_nil))) (pe_one (pe_not (pe_callB call_isi (by rfl) T.m_isinstance (by decide +kernel) (pa_cons (pv 0) (pa_cons (pe_bltn (v := .ty "bool") (by rfl) T.m_bool (by decide +kernel) rfl) pa_nil)))))))), ?_⟩
    refine ⟨_, rfl, _, _, _, _, true, rfl, .ty "int", .base (.int _), kit_ty (by decide +kernel), true, rfl, iteT ?_⟩
    exact ⟨_, rfl, _, _, _, _, false, rfl, .ty "bool", .base (.int _), kit_ty (by decide +kernel), false, rfl, q⟩
def spAlike (K : PySem.W.Frag) : Sp := fun vs H Q _ => ∃ (a b : Addr) (xs : List V) (ps : List (Int × Int)), vs = [.ref a, .ref b] ∧ H a = some (.lst xs) ∧ Prs H xs ps ∧ Till K H b ps ∧ Q (.bl true) H
theorem ok_alike (T : Tx K mg) : FnOk P w K mg base CX0 2 T.a__law_alike T.d__law_alike P__law_alike (spAlike K) := by
  have G__law_whole := ok_whole (P := P) (w := w) (base := base) T
  refine T.f__law_alike.ok sc__law_alike (fun vs H Q E h => ?_) (fun cdv A outer s H vs Q E hr h => ?_)
  · obtain ⟨a, b, xs, ps, rfl, _⟩ := h
    rfl
  · obtain ⟨a, b, xs, ps, rfl, ha, hp, hb, q⟩ := h
    refine ⟨_, (pss_cons (ps_if (PW.pt (pw_or (pt_not (pt_val (pe_callB call_isi (by rfl) T.m_isinstance (by decide +kernel) (pa_cons (pv 0) (pa_cons (pe_bltn (v := .ty "list") (by rfl) T.m_list (by decide +kernel) rfl) pa_nil))))) (pw_or1 (pt_cmpR (op_neD hr.units) (pv 0) (pv 1) (nomark _)))))
      (pss_one (ps_ret pe_bl))
      pss_nil)
    (pss_cons (ps_for PassesOwn.never rfl (pi_list (pv 0)) (pg_name (i := 2) sc__law_alike.nd rfl (.inl rfl))
      (pss_one (ps_if (PW.pt (pw_or (pt_not (pt_val (pe_callB call_isi (by rfl) T.m_isinstance (by decide +kernel) (pa_cons (pv 2) (pa_cons (pe_bltn (v := .ty "tuple") (by rfl) T.m_tuple (by decide +kernel) rfl) pa_nil))))) (pw_or (pt_not (pt_val (pe_call G__law_whole (hr.mono (by decide)) (by rfl) T.g__law_whole T.f__law_whole.kp T.p__law_whole .nil pass0 (pa_cons (pe_ix ix_tup (pv 2) pe_int (fun _ _ => rfl)) pa_nil)))) (pw_or1 (pt_not (pt_val (pe_call G__law_whole (hr.mono (by decide)) (by rfl) T.g__law_whole T.f__law_whole.kp T.p__law_whole .nil pass0 (pa_cons (pe_ix ix_tup (pv 2) pe_int (fun _ _ => rfl)) pa_nil))))))))
        (pss_one (ps_ret pe_bl))
        pss_nil)))
    (pss_one (ps_ret pe_bl)))), ?_⟩
    have hxl := hp.len
    refine ⟨_, rfl, _, _, _, _, true, rfl, .ty "list", .base (.lst ha), kit_ty (by decide +kernel), _, rfl, iteF ?_⟩
    refine ⟨_, rfl, _, rfl, _, _, till_dp (K := K) ⟨xs, .of ha, hp⟩, till_dp hb, shaped_till ps, shaped_till ps, ?_⟩
    rw [eqv_of_shaped (shaped_till ps)]
    refine ⟨_, rfl, iteF ?_⟩
    refine ⟨_, rfl, a, rfl, ⟨xs, .of ha⟩, for_list (xs := xs) (fun i σ H' => ∃ y2, σ = [some (.ref a), some (.ref b), y2] ∧ H' = H) ⟨_, rfl, rfl⟩ (fun i σ H' _ h => by obtain ⟨_, _, rfl⟩ := h; exact .of ha) ?_ ?_⟩
    · rintro i x σ H' hx ⟨y2, rfl, rfl⟩
      obtain ⟨p, t, h1, rfl, h3⟩ := Prs.get hp hx
      refine ⟨_, rfl, _, _, _, _, true, rfl, .ty "tuple", .base (.tup h3), kit_ty (by decide +kernel), _, rfl, iteF ?_⟩
      refine ⟨_, rfl, t, _, 0, .int p.1, rfl, rfl, .of h3, rfl, p.1, rfl, true, rfl, iteF ?_⟩
      refine ⟨_, rfl, t, _, 1, .int p.2, rfl, rfl, .of h3, rfl, p.2, rfl, true, rfl, iteF ?_⟩
      exact ⟨_, rfl, rfl⟩
    · rintro σ H' ⟨y2, rfl, rfl⟩
      exact q
theorem rising_nd {ps : List (Int × Int)} (h : Rising ps) : (ps.map (·.1)).Nodup := by
  rw [List.Nodup, List.pairwise_map]
  exact h.imp fun z e => by omega
def spLaw (K : PySem.W.Frag) : Sp := fun vs H Q _ => ∃ (a : Addr) (ns : List Int), vs = [.ref a] ∧ SqL K H a (ns.map V.int) ∧ ∀ H', Q (.bl true) H'
theorem none_back {H H' : Hp} {p : Addr} (ex : Ex H H') (h : H' p = none) : H p = none := by
  cases z : H p with
  | none => rfl
  | some o => rw [ex _ _ z] at h; cases h
theorem ok_law (T : Tx K mg) : FnOk P w K mg base CX0 4 T.a_law T.d_law P_law (spLaw K) := by
  have G__law_cell_at := ok_cell_at (P := P) (w := w) (base := base) T
  have G__law_pairs := ok_pairs (P := P) (w := w) (base := base) T
  have G__law_order := ok_order (P := P) (w := w) (base := base) T
  have G__law_spoilt := ok_spoilt (P := P) (w := w) (base := base) T
  have G__law_mixed := ok_mixed (P := P) (w := w) (base := base) T
  have G__law_due := ok_due (P := P) (w := w) (base := base) T
  have G__law_made := ok_made (P := P) (w := w) (base := base) T
  have G__law_any := ok_any (P := P) (w := w) (base := base) T
  have G__law_alike := ok_alike (P := P) (w := w) (base := base) T
  have G_till_of := ok_till_of (P := P) (w := w) (base := base) T
  refine T.f_law.ok sc_law (fun vs H Q E h => ?_) (fun cdv A outer s H vs Q E hr h => ?_)
  · obtain ⟨a, ns, rfl, _⟩ := h
    rfl
  · obtain ⟨a, ns, rfl, hS, q⟩ := h
    refine ⟨_, (pss_cons (ps_set (i := 1) sc_law.nd rfl (.inl rfl) (pe_call G__law_order (hr.mono (by decide)) (by rfl) T.g__law_order T.f__law_order.kp T.p__law_order .nil pass0 (pa_cons (pe_call G__law_cell_at (hr.mono (by decide)) (by rfl) T.g__law_cell_at T.f__law_cell_at.kp T.p__law_cell_at .nil pass0 (pa_cons (pv 0) (pa_cons pe_int pa_nil))) (pa_cons (pe_call G__law_pairs (hr.mono (by decide)) (by rfl) T.g__law_pairs T.f__law_pairs.kp T.p__law_pairs .nil pass0 (pa_cons (pv 0) pa_nil)) pa_nil))))
    (Evl.pss_cut (ps_if (pt_cmpR op_eq (pe_op op_mod (pe_call G__law_cell_at (hr.mono (by decide)) (by rfl) T.g__law_cell_at T.f__law_cell_at.kp T.p__law_cell_at .nil pass0 (pa_cons (pv 0) (pa_cons pe_int pa_nil))) pe_int) pe_int (nomark _))
      (pss_one (ps_while PassesOwn.never (pt_cmpR op_lt (pe_callB call_len_seq (by rfl) T.m_len (by decide +kernel) (pa_cons (pv 1) pa_nil)) (pe_op op_add pe_int (pe_op op_mod (pe_op op_fdiv (pe_call G__law_cell_at (hr.mono (by decide)) (by rfl) T.g__law_cell_at T.f__law_cell_at.kp T.p__law_cell_at .nil pass0 (pa_cons (pv 0) (pa_cons pe_int pa_nil))) pe_int) pe_int)) (nomark _))
        (pss_one (ps_expr (pe_bm PySem.F.plainAttrs_list PySem.F.slot_list_append PySem.F.type_list_append mt_append (pv 1) (pa_cons (pe_tup (pa_cons (pe_op op_add pe_int (pe_callB call_len_seq (by rfl) T.m_len (by decide +kernel) (pa_cons (pv 1) pa_nil))) (pa_cons pe_int pa_nil))) pa_nil))))))
      pss_nil)
    (Evl.pss_cut (ps_if (pt_cmpR op_eq (pe_op op_mod (pe_call G__law_cell_at (hr.mono (by decide)) (by rfl) T.g__law_cell_at T.f__law_cell_at.kp T.p__law_cell_at .nil pass0 (pa_cons (pv 0) (pa_cons pe_int pa_nil))) pe_int) pe_int (nomark _))
      (pss_one (ps_set (i := 1) sc_law.nd rfl (.inl rfl) (pe_lst pa_nil)))
      pss_nil)
    (pss_cons (ps_set (i := 1) sc_law.nd rfl (.inl rfl) (pe_call G__law_spoilt (hr.mono (by decide)) (by rfl) T.g__law_spoilt T.f__law_spoilt.kp T.p__law_spoilt .nil pass0 (pa_cons (pv 1) (pa_cons (pe_call G__law_mixed (hr.mono (by decide)) (by rfl) T.g__law_mixed T.f__law_mixed.kp T.p__law_mixed .nil pass0 (pa_cons (pe_call G__law_cell_at (hr.mono (by decide)) (by rfl) T.g__law_cell_at T.f__law_cell_at.kp T.p__law_cell_at .nil pass0 (pa_cons (pv 0) (pa_cons pe_int pa_nil))) (pa_cons pe_int pa_nil))) pa_nil))))
    (pss_cons (ps_set (i := 1) sc_law.nd rfl (.inl rfl) (pe_call G__law_spoilt (hr.mono (by decide)) (by rfl) T.g__law_spoilt T.f__law_spoilt.kp T.p__law_spoilt .nil pass0 (pa_cons (pv 1) (pa_cons (pe_call G__law_mixed (hr.mono (by decide)) (by rfl) T.g__law_mixed T.f__law_mixed.kp T.p__law_mixed .nil pass0 (pa_cons (pe_call G__law_cell_at (hr.mono (by decide)) (by rfl) T.g__law_cell_at T.f__law_cell_at.kp T.p__law_cell_at .nil pass0 (pa_cons (pv 0) (pa_cons pe_int pa_nil))) (pa_cons pe_int pa_nil))) pa_nil))))
    (pss_cons (ps_set (i := 2) sc_law.nd rfl (.inl rfl) (pe_callTy call_list_of (by rfl) T.m_list (by decide +kernel) (pa_cons (pv 1) pa_nil)))
    (pss_cons (ps_set (i := 3) sc_law.nd rfl (.inl rfl) (pe_call G__law_due (hr.mono (by decide)) (by rfl) T.g__law_due T.f__law_due.kp T.p__law_due .nil pass0 (pa_cons (pv 1) pa_nil)))
    (pss_cons (ps_set (i := 4) sc_law.nd rfl (.inl rfl) (pe_call G__law_made (hr.mono (by decide)) (by rfl) T.g__law_made T.f__law_made.kp T.p__law_made .nil pass0 (pa_cons (pv 2) pa_nil)))
    (pss_cons (ps_if (PW.pt (pw_or (pt_cmpR op_ne (pe_ix ix_list (pv 4) pe_int (fun _ _ => rfl)) (pv 3) (nomark _)) (pw_or (pt_cmpR op_ne (pe_call G__law_any (hr.mono (by decide)) (by rfl) T.g__law_any T.f__law_any.kp T.p__law_any .nil pass0 (pa_cons (pv 2) pa_nil)) (pe_cmpR op_gt (pv 3) pe_int (nomark _)) (nomark _)) (pw_or1 (pt_cmpR (op_neD hr.units) (pv 2) (pv 1) (nomark _))))))
      (pss_one (ps_ret pe_bl))
      pss_nil)
    (pss_cons (ps_if (pt_cmpR op_gt (pv 3) pe_int (nomark _))
      (pss_one (ps_ret pe_bl))
      pss_nil)
    (pss_cons (ps_expr (pe_bm PySem.F.plainAttrs_list PySem.F.slot_list_append PySem.F.type_list_append mt_append (pv 2) (pa_cons (pe_tup (pa_cons pe_int (pa_cons pe_int pa_nil))) pa_nil)))
    (pss_cons (ps_if (pt_not (pt_val (pe_call G__law_alike (hr.mono (by decide)) (by rfl) T.g__law_alike T.f__law_alike.kp T.p__law_alike .nil pass0 (pa_cons (pe_ix ix_list (pv 4) pe_int (fun _ _ => rfl)) (pa_cons (pe_callB cr_sortedPO (by rfl) T.m_sorted (by decide +kernel) (pa_cons (pv 1) pa_nil)) pa_nil)))))
      (pss_one (ps_ret pe_bl))
      pss_nil)
    (pss_cons (ps_expr (pe_bm PySem.F.plainAttrs_list PySem.F.slot_list_append PySem.F.type_list_append mt_append (pe_ix ix_list (pv 4) pe_int (fun _ _ => rfl)) (pa_cons (pe_tup (pa_cons pe_int (pa_cons pe_int pa_nil))) pa_nil)))
    (pss_one (ps_ret (pe_call G__law_alike (hr.mono (by decide)) (by rfl) T.g__law_alike T.f__law_alike.kp T.p__law_alike .nil pass0 (pa_cons (pe_call G_till_of (hr.mono (by decide)) (by rfl) T.g_till_of T.f_till_of.kp T.p_till_of .nil passL (pa_cons (pe_callTy call_list_of (by rfl) T.m_list (by decide +kernel) (pa_cons (pv 1) pa_nil)) pa_nil)) (pa_cons (pe_callB cr_sortedPO (by rfl) T.m_sorted (by decide +kernel) (pa_cons (pv 1) pa_nil)) pa_nil)))))))))))))))))), ?_⟩
    -- the pairs, in a drawn order
    refine ⟨_, rfl, a, ns, 3, rfl, hS, _, rfl, a, ns, rfl, hS, fun p0 xs0 ps0 H1 e1 hp0 ep0 hpr0 dr h1 h10 => ?_⟩
    refine ⟨p0, ps0, _, rfl, ⟨xs0, .of ep0, hpr0⟩, by omega, fun p1 xs1 ps1 H2 e2 hp1 ep1 hpr1 hl1 => ?_⟩
    have ex2 := e1.tr e2
    have hp1' := none_back e1 hp1
    -- eleven or twelve
    refine ⟨fun σ' H' => ∃ p xs qs, σ' = [some (.ref a), some (.ref p), none, none, none] ∧ Ex H H' ∧ H' p = some (.lst xs) ∧ Prs H' xs qs ∧ qs.length ≤ 12, ?_, ?_⟩
    · refine ⟨_, rfl, a, ns, 4, rfl, ex2.seq hS, ?_⟩
      repeat (first | refine ⟨_, rfl, ?_⟩ | refine ⟨(by show (0 : Int) < _; decide), ?_⟩ | refine ⟨⟨by decide, by decide⟩, ?_⟩ | refine ⟨.inr ⟨by decide, by decide⟩, ?_⟩ | refine ⟨.inl ⟨by decide, by decide⟩, ?_⟩ | refine ⟨⟨by decide, by decide, by decide⟩, ?_⟩ | refine ⟨_, _, rfl, rfl, ?_⟩ | refine ⟨rfl, _, rfl, ?_⟩)
      first | refine iteVI (fun e => ?_) (fun e => ?_) | refine iteVN (fun e => ?_) (fun e => ?_) | refine iteD (fun e => ?_) (fun e => ?_) | refine iteDN (fun e => ?_) (fun e => ?_) | refine iteB (fun e => ?_) (fun e => ?_)
      · have hB1 : 0 ≤ cell ns 4 / 12 % 2 := Int.emod_nonneg _ (by decide)
        have hB2 : cell ns 4 / 12 % 2 < 2 := Int.emod_lt_of_pos _ (by decide)
        refine ⟨fun n σ H' => ∃ xs qs, σ = [some (.ref a), some (.ref p1), none, none, none] ∧ Ex H H' ∧ H' p1 = some (.lst xs) ∧ Prs H' xs qs ∧ n + qs.length = 12, ⟨12 - ps1.length, xs1, ps1, rfl, ex2, ep1, hpr1, by omega⟩, ?_⟩
        rintro n σ H3 ⟨xs, qs, rfl, ex3, ep, hpr, hn⟩
        have hxl := hpr.len
        refine ⟨_, rfl, p1, xs, rfl, .inl (.of ep), _, rfl, a, ns, 4, rfl, ex3.seq hS, ?_⟩
        repeat (first | refine ⟨_, rfl, ?_⟩ | refine ⟨(by show (0 : Int) < _; decide), ?_⟩ | refine ⟨⟨by decide, by decide⟩, ?_⟩ | refine ⟨.inr ⟨by decide, by decide⟩, ?_⟩ | refine ⟨.inl ⟨by decide, by decide⟩, ?_⟩ | refine ⟨⟨by decide, by decide, by decide⟩, ?_⟩ | refine ⟨_, _, rfl, rfl, ?_⟩ | refine ⟨rfl, _, rfl, ?_⟩)
        first | refine iteVI (fun e' => ?_) (fun e' => ?_) | refine iteVN (fun e' => ?_) (fun e' => ?_) | refine iteD (fun e' => ?_) (fun e' => ?_) | refine iteDN (fun e' => ?_) (fun e' => ?_) | refine iteB (fun e' => ?_) (fun e' => ?_)
        · have e2' : (xs.length : Int) < 11 + cell ns 4 / 12 % 2 := e'
          refine ⟨_, fun σ' H' z => ⟨n - 1, by omega, z⟩, ?_⟩
          refine ⟨_, rfl, .inl ⟨rfl, xs, .of ep⟩, ?_⟩
          refine ⟨_, rfl, p1, xs, rfl, .inl (.of ep), ?_⟩
          repeat (first | refine ⟨_, rfl, ?_⟩ | refine ⟨(by show (0 : Int) < _; decide), ?_⟩ | refine ⟨⟨by decide, by decide⟩, ?_⟩ | refine ⟨.inr ⟨by decide, by decide⟩, ?_⟩ | refine ⟨.inl ⟨by decide, by decide⟩, ?_⟩ | refine ⟨⟨by decide, by decide, by decide⟩, ?_⟩ | refine ⟨_, _, rfl, rfl, ?_⟩ | refine ⟨rfl, _, rfl, ?_⟩)
          refine ⟨len63 (by show 2 ≤ _; decide), fun t ht => ?_⟩
          have nt : p1 ≠ t := ne_of_none ep ht
          have ep' : (upd H3 t (.tup [.int (900 + (xs.length : Int)), .int 1])) p1 = some (.lst xs) := by rw [upd_ne nt]; exact ep
          refine ⟨p1, xs, _, rfl, rfl, ep', len63' (by omega), xs ++ [.ref t], qs ++ [(900 + (xs.length : Int), 1)], rfl, Ex.mu (ex3.tr (Ex.nw ht)) hp1', upd_same, ?_, by rw [List.length_append, List.length_cons, List.length_nil]; omega⟩
          refine Prs.up (by intro ys z; rw [ep'] at z; cases z) ?_
          exact Prs.snoc (hpr.ex (Ex.nw ht)) ⟨t, rfl, upd_same⟩
        · exact ⟨p1, xs, qs, rfl, ex3, ep, hpr, by omega⟩
      · exact ⟨p1, xs1, ps1, rfl, ex2, ep1, hpr1, by omega⟩
    rintro σ' H' ⟨p2, xs2, ps2, rfl, ex3, ep2, hpr2, hl2⟩
    -- none
    refine ⟨fun σ' H' => ∃ p xs qs, σ' = [some (.ref a), some (.ref p), none, none, none] ∧ Ex H H' ∧ H' p = some (.lst xs) ∧ Prs H' xs qs ∧ qs.length ≤ 12, ?_, ?_⟩
    · refine ⟨_, rfl, a, ns, 4, rfl, ex3.seq hS, ?_⟩
      repeat (first | refine ⟨_, rfl, ?_⟩ | refine ⟨(by show (0 : Int) < _; decide), ?_⟩ | refine ⟨⟨by decide, by decide⟩, ?_⟩ | refine ⟨.inr ⟨by decide, by decide⟩, ?_⟩ | refine ⟨.inl ⟨by decide, by decide⟩, ?_⟩ | refine ⟨⟨by decide, by decide, by decide⟩, ?_⟩ | refine ⟨_, _, rfl, rfl, ?_⟩ | refine ⟨rfl, _, rfl, ?_⟩)
      first | refine iteVI (fun e => ?_) (fun e => ?_) | refine iteVN (fun e => ?_) (fun e => ?_) | refine iteD (fun e => ?_) (fun e => ?_) | refine iteDN (fun e => ?_) (fun e => ?_) | refine iteB (fun e => ?_) (fun e => ?_)
      · exact ⟨Nat.zero_le _, fun l hl => ⟨l, [], [], rfl, ex3.tr (Ex.nw hl), upd_same, .nil, Nat.zero_le _⟩⟩
      · exact ⟨p2, xs2, ps2, rfl, ex3, ep2, hpr2, hl2⟩
    rintro σ' H4 ⟨p3, xs3, ps3, rfl, ex4, ep3, hpr3, hl3⟩
    -- spoilt, twice
    refine ⟨_, rfl, _, rfl, a, ns, 5, rfl, ex4.seq hS, _, _, rfl, ⟨by decide, by decide⟩, p3, xs3, ps3, _, rfl, ep3, hpr3, by omega, fun p4 xs4 ps4 H5 e5 ep4 hpr4 hl4 => ?_⟩
    have ex5 := ex4.tr e5
    refine ⟨_, rfl, _, rfl, a, ns, 6, rfl, ex5.seq hS, _, _, rfl, ⟨by decide, by decide⟩, p4, xs4, ps4, _, rfl, ep4, hpr4, by omega, fun pr xs ps H6 e6 ep hpr hl5 => ?_⟩
    have ex6 := ex5.tr e6
    have hxl := hpr.len
    -- handed
    refine ⟨_, rfl, pr, xs, rfl, .inl (.of ep), fun hd hhd => ?_⟩
    (generalize hh : upd H6 hd _ = H7; have e7 : Ex H6 H7 := (by rw [← hh]; exact Ex.nw hhd); have chd := (show H7 hd = some _ by rw [← hh]; exact upd_same); clear hh)
    have ep7 := e7 _ _ ep
    have hpr7 := hpr.ex e7
    have nph : pr ≠ hd := ne_of_none ep hhd
    refine ⟨_, rfl, pr, ps, rfl, ⟨xs, .of ep7, hpr7⟩, by omega, fun H8 e8 => ?_⟩
    generalize hD : due ps = D
    have ep8 := e8 _ _ ep7
    have hpr8 := hpr7.ex e8
    have chd8 := e8 _ _ chd
    refine ⟨_, rfl, hd, ps, rfl, ⟨xs, .of chd8, hpr8⟩, by omega, fun hz m f fs qs H9 e9 hm hf nmf em ef hq hpm hris => ?_, fun hz m f H9 e9 hm em => ?_⟩
    · obtain rfl : D = 0 := hD.symm.trans hz
      have nhm : hd ≠ m := ne_of_none chd8 hm
      have nhf : hd ≠ f := ne_of_none chd8 hf
      have npm : pr ≠ m := ne_of_none ep8 hm
      have npf : pr ≠ f := ne_of_none ep8 hf
      have ep9 := e9 _ _ ep8
      have hpr9 := hpr8.ex e9
      have chd9 := e9 _ _ chd8
      have hnd : (ps.map (·.1)).Nodup := (hpm.map _).nodup_iff.mp (rising_nd hris)
      refine ⟨_, rfl, m, _, 0, .int 0, rfl, rfl, .of em, rfl, _, rfl, rfl, _, rfl, iteVN (fun z => absurd rfl z) (fun _ => ?_)⟩
      refine ⟨_, rfl, hd, ps, rfl, ⟨xs, .of chd9, hpr9⟩, by omega, fun H10 e10 => ?_⟩
      have ep10 := e10 _ _ ep9
      have hpr10 := hpr9.ex e10
      have chd10 := e10 _ _ chd9
      have em10 := e10 _ _ em
      have ef10 := e10 _ _ ef
      have hq10 := hq.ex e10
      refine ⟨_, rfl, _, _, rfl, rfl, rfl, _, rfl, iteB (fun z => ?_) (fun _ => ?_)⟩
      · rw [hz] at z
        exact absurd z (by decide)
      refine ⟨_, rfl, _, rfl, _, _, till_dp (K := K) ⟨xs, .of chd10, hpr10⟩, till_dp (K := K) ⟨xs, .of ep10, hpr10⟩, shaped_till ps, shaped_till ps, ?_⟩
      rw [eqv_of_shaped (shaped_till ps)]
      refine ⟨_, rfl, iteF ?_⟩
      refine ⟨_, rfl, _, _, rfl, rfl, _, rfl, iteD (fun z => absurd z (by decide)) (fun _ => ?_)⟩
      -- what was handed in grows
      refine ⟨_, rfl, .inl ⟨rfl, xs, .of chd10⟩, len63 (by show 2 ≤ _; decide), fun t ht => ?_⟩
      have nht : hd ≠ t := ne_of_none chd10 ht
      have chd11 : (upd H10 t (.tup [.int 5, .int 5])) hd = some (.lst xs) := by rw [upd_ne nht]; exact chd10
      refine ⟨hd, xs, _, rfl, rfl, chd11, len63' (by omega), ?_⟩
      have ep11 : (upd (upd H10 t (.tup [.int 5, .int 5])) hd (.lst (xs ++ [.ref t]))) pr = some (.lst xs) := by rw [upd_ne nph]; exact (Ex.nw ht) _ _ ep10
      have em11 : (upd (upd H10 t (.tup [.int 5, .int 5])) hd (.lst (xs ++ [.ref t]))) m = some (.lst [.int 0, .ref f]) := by rw [upd_ne nhm.symm]; exact (Ex.nw ht) _ _ em10
      have ef11 : (upd (upd H10 t (.tup [.int 5, .int 5])) hd (.lst (xs ++ [.ref t]))) f = some (.lst fs) := by rw [upd_ne nhf.symm]; exact (Ex.nw ht) _ _ ef10
      have hpr11 : Prs (upd (upd H10 t (.tup [.int 5, .int 5])) hd (.lst (xs ++ [.ref t]))) xs ps := (hpr10.ex (Ex.nw ht)).up (by intro ys z; rw [chd11] at z; cases z)
      have hq11 : Prs (upd (upd H10 t (.tup [.int 5, .int 5])) hd (.lst (xs ++ [.ref t]))) fs qs := (hq10.ex (Ex.nw ht)).up (by intro ys z; rw [chd11] at z; cases z)
      generalize upd (upd H10 t (.tup [.int 5, .int 5])) hd (.lst (xs ++ [.ref t])) = H11 at ep11 em11 ef11 hpr11 hq11
      -- the till that was given
      refine ⟨_, rfl, m, _, 1, .ref f, rfl, rfl, .of em11, rfl, _, rfl, pr, xs, pairAt H11, rfl, .of ep11, hpr11.all, fun ys t2 z1 z2 ht2 => ?_⟩
      obtain ⟨rs, hr2, hpm2, hris2⟩ := sorted_prs hpr11 hnd z1 z2
      obtain rfl : rs = qs := rising_uniq hris2 hris (hpm2.trans hpm.symm)
      refine ⟨f, t2, fs, rs, rfl, (Ex.nw ht2) _ _ ef11, hq11.ex (Ex.nw ht2), ⟨ys, .of upd_same, hr2.ex (Ex.nw ht2)⟩, true, rfl, iteF ?_⟩
      have ep12 := (Ex.nw (o := .lst ys) ht2) _ _ ep11
      have em12 := (Ex.nw (o := .lst ys) ht2) _ _ em11
      have ef12 := (Ex.nw (o := .lst ys) ht2) _ _ ef11
      have hpr12 := hpr11.ex (Ex.nw (o := .lst ys) ht2)
      generalize upd H11 t2 (.lst ys) = H12 at ep12 em12 ef12 hpr12
      -- it grows too
      refine ⟨_, rfl, m, _, 1, .ref f, rfl, rfl, .of em12, rfl, .inl ⟨rfl, fs, .of ef12⟩, len63 (by show 2 ≤ _; decide), fun t3 ht3 => ?_⟩
      have nft : f ≠ t3 := ne_of_none ef12 ht3
      have ef13 : (upd H12 t3 (.tup [.int 7, .int 7])) f = some (.lst fs) := by rw [upd_ne nft]; exact ef12
      refine ⟨f, fs, _, rfl, rfl, ef13, len63' (by rw [hq11.len, hpm.length_eq]; omega), ?_⟩
      have ep13 : (upd (upd H12 t3 (.tup [.int 7, .int 7])) f (.lst (fs ++ [.ref t3]))) pr = some (.lst xs) := by rw [upd_ne npf]; exact (Ex.nw ht3) _ _ ep12
      have hpr13 : Prs (upd (upd H12 t3 (.tup [.int 7, .int 7])) f (.lst (fs ++ [.ref t3]))) xs ps := (hpr12.ex (Ex.nw ht3)).up (by intro ys z; rw [ef13] at z; cases z)
      generalize upd (upd H12 t3 (.tup [.int 7, .int 7])) f (.lst (fs ++ [.ref t3])) = H13 at ep13 hpr13
      -- another till of the same
      refine ⟨_, rfl, pr, xs, rfl, .inl (.of ep13), fun l hl => ?_⟩
      (generalize hh : upd H13 l _ = H14; have e14 : Ex H13 H14 := (by rw [← hh]; exact Ex.nw hl); have cl := (show H14 l = some _ by rw [← hh]; exact upd_same); clear hh)
      refine ⟨l, ps, rfl, ⟨xs, .of cl, hpr13.ex e14⟩, by omega, fun _ p8 xs8 qs8 H15 e15 hp8 ep8' hq8 hpm8 hris8 => ?_, fun z => absurd (hz.symm.trans z) (by decide), fun z => absurd (hz.symm.trans z) (by decide), fun z => absurd (hz.symm.trans z) (by decide), fun z => absurd (hz.symm.trans z) (by decide)⟩
      have ep15 := e15 _ _ (e14 _ _ ep13)
      have hpr15 := (hpr13.ex e14).ex e15
      refine ⟨_, rfl, pr, xs, pairAt H15, rfl, .of ep15, hpr15.all, fun ys9 t9 z1 z2 ht9 => ?_⟩
      obtain ⟨rs9, hr9, hpm9, hris9⟩ := sorted_prs hpr15 hnd z1 z2
      obtain rfl : rs9 = qs8 := rising_uniq hris9 hris8 (hpm9.trans hpm8.symm)
      exact ⟨p8, t9, xs8, rs9, rfl, (Ex.nw ht9) _ _ ep8', hq8.ex (Ex.nw ht9), ⟨ys9, .of upd_same, hr9.ex (Ex.nw ht9)⟩, q _⟩
    · have ep9 := e9 _ _ ep8
      have hpr9 := hpr8.ex e9
      have chd9 := e9 _ _ chd8
      rw [hD] at em hz
      have hpos : 0 < D := by
        rcases due_in ps with h | h | h | h | h <;> omega
      refine ⟨_, rfl, m, _, 0, .int D, rfl, rfl, .of em, rfl, _, rfl, rfl, _, rfl, iteVN (fun z => absurd rfl z) (fun _ => ?_)⟩
      refine ⟨_, rfl, hd, ps, rfl, ⟨xs, .of chd9, hpr9⟩, by omega, fun H10 e10 => ?_⟩
      have ep10 := e10 _ _ ep9
      have hpr10 := hpr9.ex e10
      have chd10 := e10 _ _ chd9
      refine ⟨_, rfl, _, _, rfl, rfl, rfl, _, rfl, iteB (fun z => ?_) (fun _ => ?_)⟩
      · rw [hD, decide_eq_false hz] at z
        have z' : (!decide (V.bl (!false) = V.bl (decide (0 < D)))) = true := z
        rw [decide_eq_true hpos] at z'
        exact absurd z' (by decide)
      refine ⟨_, rfl, _, rfl, _, _, till_dp (K := K) ⟨xs, .of chd10, hpr10⟩, till_dp (K := K) ⟨xs, .of ep10, hpr10⟩, shaped_till ps, shaped_till ps, ?_⟩
      rw [eqv_of_shaped (shaped_till ps)]
      refine ⟨_, rfl, iteF ?_⟩
      refine ⟨_, rfl, _, _, rfl, rfl, _, rfl, iteD (fun _ => q _) (fun z => absurd hpos z)⟩
theorem law_start {K : PySem.W.Frag} {H : Hp} {a : Addr} {ns : List Int} (hl : ns.length ≤ 63) (hO : Only H) (hS : SqL K H a (ns.map V.int)) : spLaw K [.ref a] H (fun v _ => v = .bl true) fun _ _ _ => False :=
  ⟨a, ns, rfl, hS, fun _ => rfl⟩
end
theorem tx_mk {K : PySem.W.Frag} {h : Heap} {mg : Str → Option Value} (X : K.In h) (G : h.Ns mainGlobals mg) {c_TillError : Addr} {c_NoTill : Addr} {c_NoKind : Addr} {c_Twice : Addr} {c_NoCount : Addr} {c_NoSum : Addr} {c_TooLittle : Addr} {c_NoChange : Addr} {c_TooFew : Addr} {c_StillHeld : Addr} {c_NoDeed : Addr} {a_check_value : Addr} {od_0 an_0 : Option Addr} {sl_0 : Array (Option Value)} {oc_0 kV_0 dc_0 pm_0 cd_0 ct_0 : Value} {a_check_count : Addr} {od_1 an_1 : Option Addr} {sl_1 : Array (Option Value)} {oc_1 kV_1 dc_1 pm_1 cd_1 ct_1 : Value} {a_till_of : Addr} {od_2 an_2 : Option Addr} {sl_2 : Array (Option Value)} {oc_2 kV_2 dc_2 pm_2 cd_2 ct_2 : Value} {a__law_cell_at : Addr} {od_3 an_3 : Option Addr} {sl_3 : Array (Option Value)} {oc_3 kV_3 dc_3 pm_3 cd_3 ct_3 : Value} {a__law_whole : Addr} {od_4 an_4 : Option Addr} {sl_4 : Array (Option Value)} {oc_4 kV_4 dc_4 pm_4 cd_4 ct_4 : Value} {a__law_mixed : Addr} {od_5 an_5 : Option Addr} {sl_5 : Array (Option Value)} {oc_5 kV_5 dc_5 pm_5 cd_5 ct_5 : Value} {a__law_value : Addr} {od_6 an_6 : Option Addr} {sl_6 : Array (Option Value)} {oc_6 kV_6 dc_6 pm_6 cd_6 ct_6 : Value} {a__law_count : Addr} {od_7 an_7 : Option Addr} {sl_7 : Array (Option Value)} {oc_7 kV_7 dc_7 pm_7 cd_7 ct_7 : Value} {a__law_pairs : Addr} {od_8 an_8 : Option Addr} {sl_8 : Array (Option Value)} {oc_8 kV_8 dc_8 pm_8 cd_8 ct_8 : Value} {a__law_alike : Addr} {od_9 an_9 : Option Addr} {sl_9 : Array (Option Value)} {oc_9 kV_9 dc_9 pm_9 cd_9 ct_9 : Value} {a__law_order : Addr} {od_10 an_10 : Option Addr} {sl_10 : Array (Option Value)} {oc_10 kV_10 dc_10 pm_10 cd_10 ct_10 : Value} {a__law_due : Addr} {od_11 an_11 : Option Addr} {sl_11 : Array (Option Value)} {oc_11 kV_11 dc_11 pm_11 cd_11 ct_11 : Value} {a__law_spoilt : Addr} {od_12 an_12 : Option Addr} {sl_12 : Array (Option Value)} {oc_12 kV_12 dc_12 pm_12 cd_12 ct_12 : Value} {a__law_made : Addr} {od_13 an_13 : Option Addr} {sl_13 : Array (Option Value)} {oc_13 kV_13 dc_13 pm_13 cd_13 ct_13 : Value} {a__law_any : Addr} {od_14 an_14 : Option Addr} {sl_14 : Array (Option Value)} {oc_14 kV_14 dc_14 pm_14 cd_14 ct_14 : Value} {a_law : Addr} {od_15 an_15 : Option Addr} {sl_15 : Array (Option Value)} {oc_15 kV_15 dc_15 pm_15 cd_15 ct_15 : Value} {tk_MOST_KINDS : Tok} {tk_MOST_VALUE : Tok} {tk_MOST_COUNT : Tok}
    (g_TillError : PySem.W.nsIn K mainGlobals "TillError" = some (some (.ref c_TillError)))
    (x_TillError : PySem.W.excIn K c_TillError [.type "ValueError", .type "Exception", .type "BaseException", .type "object"] "ValueError.__new__" = true)
    (k_TillError : PySem.W.keepIn K (.ref c_TillError) = true)
    (b_TillError : PySem.W.subIn K (.ref c_TillError) (.type "BaseException") = some true)
    (t_TillError : PySem.W.typeIn K (.ref c_TillError) = some (.type "type"))
    (i_TillError : PySem.W.isClsIn K c_TillError = true)
    (g_NoTill : PySem.W.nsIn K mainGlobals "NoTill" = some (some (.ref c_NoTill)))
    (x_NoTill : PySem.W.excIn K c_NoTill [.type "ValueError", .type "Exception", .type "BaseException", .type "object"] "ValueError.__new__" = true)
    (k_NoTill : PySem.W.keepIn K (.ref c_NoTill) = true)
    (b_NoTill : PySem.W.subIn K (.ref c_NoTill) (.type "BaseException") = some true)
    (t_NoTill : PySem.W.typeIn K (.ref c_NoTill) = some (.type "type"))
    (i_NoTill : PySem.W.isClsIn K c_NoTill = true)
    (g_NoKind : PySem.W.nsIn K mainGlobals "NoKind" = some (some (.ref c_NoKind)))
    (x_NoKind : PySem.W.excIn K c_NoKind [.type "ValueError", .type "Exception", .type "BaseException", .type "object"] "ValueError.__new__" = true)
    (k_NoKind : PySem.W.keepIn K (.ref c_NoKind) = true)
    (b_NoKind : PySem.W.subIn K (.ref c_NoKind) (.type "BaseException") = some true)
    (t_NoKind : PySem.W.typeIn K (.ref c_NoKind) = some (.type "type"))
    (i_NoKind : PySem.W.isClsIn K c_NoKind = true)
    (g_Twice : PySem.W.nsIn K mainGlobals "Twice" = some (some (.ref c_Twice)))
    (x_Twice : PySem.W.excIn K c_Twice [.type "ValueError", .type "Exception", .type "BaseException", .type "object"] "ValueError.__new__" = true)
    (k_Twice : PySem.W.keepIn K (.ref c_Twice) = true)
    (b_Twice : PySem.W.subIn K (.ref c_Twice) (.type "BaseException") = some true)
    (t_Twice : PySem.W.typeIn K (.ref c_Twice) = some (.type "type"))
    (i_Twice : PySem.W.isClsIn K c_Twice = true)
    (g_NoCount : PySem.W.nsIn K mainGlobals "NoCount" = some (some (.ref c_NoCount)))
    (x_NoCount : PySem.W.excIn K c_NoCount [.type "ValueError", .type "Exception", .type "BaseException", .type "object"] "ValueError.__new__" = true)
    (k_NoCount : PySem.W.keepIn K (.ref c_NoCount) = true)
    (b_NoCount : PySem.W.subIn K (.ref c_NoCount) (.type "BaseException") = some true)
    (t_NoCount : PySem.W.typeIn K (.ref c_NoCount) = some (.type "type"))
    (i_NoCount : PySem.W.isClsIn K c_NoCount = true)
    (g_NoSum : PySem.W.nsIn K mainGlobals "NoSum" = some (some (.ref c_NoSum)))
    (x_NoSum : PySem.W.excIn K c_NoSum [.type "ValueError", .type "Exception", .type "BaseException", .type "object"] "ValueError.__new__" = true)
    (k_NoSum : PySem.W.keepIn K (.ref c_NoSum) = true)
    (b_NoSum : PySem.W.subIn K (.ref c_NoSum) (.type "BaseException") = some true)
    (t_NoSum : PySem.W.typeIn K (.ref c_NoSum) = some (.type "type"))
    (i_NoSum : PySem.W.isClsIn K c_NoSum = true)
    (g_TooLittle : PySem.W.nsIn K mainGlobals "TooLittle" = some (some (.ref c_TooLittle)))
    (x_TooLittle : PySem.W.excIn K c_TooLittle [.type "ValueError", .type "Exception", .type "BaseException", .type "object"] "ValueError.__new__" = true)
    (k_TooLittle : PySem.W.keepIn K (.ref c_TooLittle) = true)
    (b_TooLittle : PySem.W.subIn K (.ref c_TooLittle) (.type "BaseException") = some true)
    (t_TooLittle : PySem.W.typeIn K (.ref c_TooLittle) = some (.type "type"))
    (i_TooLittle : PySem.W.isClsIn K c_TooLittle = true)
    (g_NoChange : PySem.W.nsIn K mainGlobals "NoChange" = some (some (.ref c_NoChange)))
    (x_NoChange : PySem.W.excIn K c_NoChange [.type "ValueError", .type "Exception", .type "BaseException", .type "object"] "ValueError.__new__" = true)
    (k_NoChange : PySem.W.keepIn K (.ref c_NoChange) = true)
    (b_NoChange : PySem.W.subIn K (.ref c_NoChange) (.type "BaseException") = some true)
    (t_NoChange : PySem.W.typeIn K (.ref c_NoChange) = some (.type "type"))
    (i_NoChange : PySem.W.isClsIn K c_NoChange = true)
    (g_TooFew : PySem.W.nsIn K mainGlobals "TooFew" = some (some (.ref c_TooFew)))
    (x_TooFew : PySem.W.excIn K c_TooFew [.type "ValueError", .type "Exception", .type "BaseException", .type "object"] "ValueError.__new__" = true)
    (k_TooFew : PySem.W.keepIn K (.ref c_TooFew) = true)
    (b_TooFew : PySem.W.subIn K (.ref c_TooFew) (.type "BaseException") = some true)
    (t_TooFew : PySem.W.typeIn K (.ref c_TooFew) = some (.type "type"))
    (i_TooFew : PySem.W.isClsIn K c_TooFew = true)
    (g_StillHeld : PySem.W.nsIn K mainGlobals "StillHeld" = some (some (.ref c_StillHeld)))
    (x_StillHeld : PySem.W.excIn K c_StillHeld [.type "ValueError", .type "Exception", .type "BaseException", .type "object"] "ValueError.__new__" = true)
    (k_StillHeld : PySem.W.keepIn K (.ref c_StillHeld) = true)
    (b_StillHeld : PySem.W.subIn K (.ref c_StillHeld) (.type "BaseException") = some true)
    (t_StillHeld : PySem.W.typeIn K (.ref c_StillHeld) = some (.type "type"))
    (i_StillHeld : PySem.W.isClsIn K c_StillHeld = true)
    (g_NoDeed : PySem.W.nsIn K mainGlobals "NoDeed" = some (some (.ref c_NoDeed)))
    (x_NoDeed : PySem.W.excIn K c_NoDeed [.type "ValueError", .type "Exception", .type "BaseException", .type "object"] "ValueError.__new__" = true)
    (k_NoDeed : PySem.W.keepIn K (.ref c_NoDeed) = true)
    (b_NoDeed : PySem.W.subIn K (.ref c_NoDeed) (.type "BaseException") = some true)
    (t_NoDeed : PySem.W.typeIn K (.ref c_NoDeed) = some (.type "type"))
    (i_NoDeed : PySem.W.isClsIn K c_NoDeed = true)
    (u_NoKind_NoTill : PySem.W.subIn K (.ref c_NoKind) (.ref c_NoTill) = some false)
    (u_NoKind_NoKind : PySem.W.subIn K (.ref c_NoKind) (.ref c_NoKind) = some true)
    (u_NoKind_Twice : PySem.W.subIn K (.ref c_NoKind) (.ref c_Twice) = some false)
    (u_NoKind_NoCount : PySem.W.subIn K (.ref c_NoKind) (.ref c_NoCount) = some false)
    (u_NoKind_TillError : PySem.W.subIn K (.ref c_NoKind) (.ref c_TillError) = some true)
    (u_NoKind_NoChange : PySem.W.subIn K (.ref c_NoKind) (.ref c_NoChange) = some false)
    (u_NoKind_NoDeed : PySem.W.subIn K (.ref c_NoKind) (.ref c_NoDeed) = some false)
    (u_NoKind_NoSum : PySem.W.subIn K (.ref c_NoKind) (.ref c_NoSum) = some false)
    (u_NoKind_StillHeld : PySem.W.subIn K (.ref c_NoKind) (.ref c_StillHeld) = some false)
    (u_NoKind_TooFew : PySem.W.subIn K (.ref c_NoKind) (.ref c_TooFew) = some false)
    (u_NoKind_TooLittle : PySem.W.subIn K (.ref c_NoKind) (.ref c_TooLittle) = some false)
    (u_NoCount_NoTill : PySem.W.subIn K (.ref c_NoCount) (.ref c_NoTill) = some false)
    (u_NoCount_NoKind : PySem.W.subIn K (.ref c_NoCount) (.ref c_NoKind) = some false)
    (u_NoCount_Twice : PySem.W.subIn K (.ref c_NoCount) (.ref c_Twice) = some false)
    (u_NoCount_NoCount : PySem.W.subIn K (.ref c_NoCount) (.ref c_NoCount) = some true)
    (u_NoCount_TillError : PySem.W.subIn K (.ref c_NoCount) (.ref c_TillError) = some true)
    (u_NoCount_NoChange : PySem.W.subIn K (.ref c_NoCount) (.ref c_NoChange) = some false)
    (u_NoCount_NoDeed : PySem.W.subIn K (.ref c_NoCount) (.ref c_NoDeed) = some false)
    (u_NoCount_NoSum : PySem.W.subIn K (.ref c_NoCount) (.ref c_NoSum) = some false)
    (u_NoCount_StillHeld : PySem.W.subIn K (.ref c_NoCount) (.ref c_StillHeld) = some false)
    (u_NoCount_TooFew : PySem.W.subIn K (.ref c_NoCount) (.ref c_TooFew) = some false)
    (u_NoCount_TooLittle : PySem.W.subIn K (.ref c_NoCount) (.ref c_TooLittle) = some false)
    (u_NoTill_NoTill : PySem.W.subIn K (.ref c_NoTill) (.ref c_NoTill) = some true)
    (u_NoTill_NoKind : PySem.W.subIn K (.ref c_NoTill) (.ref c_NoKind) = some false)
    (u_NoTill_Twice : PySem.W.subIn K (.ref c_NoTill) (.ref c_Twice) = some false)
    (u_NoTill_NoCount : PySem.W.subIn K (.ref c_NoTill) (.ref c_NoCount) = some false)
    (u_NoTill_TillError : PySem.W.subIn K (.ref c_NoTill) (.ref c_TillError) = some true)
    (u_NoTill_NoChange : PySem.W.subIn K (.ref c_NoTill) (.ref c_NoChange) = some false)
    (u_NoTill_NoDeed : PySem.W.subIn K (.ref c_NoTill) (.ref c_NoDeed) = some false)
    (u_NoTill_NoSum : PySem.W.subIn K (.ref c_NoTill) (.ref c_NoSum) = some false)
    (u_NoTill_StillHeld : PySem.W.subIn K (.ref c_NoTill) (.ref c_StillHeld) = some false)
    (u_NoTill_TooFew : PySem.W.subIn K (.ref c_NoTill) (.ref c_TooFew) = some false)
    (u_NoTill_TooLittle : PySem.W.subIn K (.ref c_NoTill) (.ref c_TooLittle) = some false)
    (u_Twice_NoTill : PySem.W.subIn K (.ref c_Twice) (.ref c_NoTill) = some false)
    (u_Twice_NoKind : PySem.W.subIn K (.ref c_Twice) (.ref c_NoKind) = some false)
    (u_Twice_Twice : PySem.W.subIn K (.ref c_Twice) (.ref c_Twice) = some true)
    (u_Twice_NoCount : PySem.W.subIn K (.ref c_Twice) (.ref c_NoCount) = some false)
    (u_Twice_TillError : PySem.W.subIn K (.ref c_Twice) (.ref c_TillError) = some true)
    (u_Twice_NoChange : PySem.W.subIn K (.ref c_Twice) (.ref c_NoChange) = some false)
    (u_Twice_NoDeed : PySem.W.subIn K (.ref c_Twice) (.ref c_NoDeed) = some false)
    (u_Twice_NoSum : PySem.W.subIn K (.ref c_Twice) (.ref c_NoSum) = some false)
    (u_Twice_StillHeld : PySem.W.subIn K (.ref c_Twice) (.ref c_StillHeld) = some false)
    (u_Twice_TooFew : PySem.W.subIn K (.ref c_Twice) (.ref c_TooFew) = some false)
    (u_Twice_TooLittle : PySem.W.subIn K (.ref c_Twice) (.ref c_TooLittle) = some false)
    (hg_NoKind : PySem.W.findIn K (.ref c_NoKind) "__getattribute__" = some (some (.builtin "BaseException.__getattribute__")))
    (hk_NoKind : PySem.W.findIn K (.ref c_NoKind) "__getattr__" = some none)
    (hd_NoKind : PySem.W.hasDictIn K c_NoKind = true)
    (ha_NoKind : PySem.W.findIn K (.ref c_NoKind) "__class__" = some (some (.builtin "object.__class__")))
    (hm_NoKind : PySem.W.mroIn K c_NoKind (.type "object") = some true)
    (z_NoKind : PySem.W.subIn K (.ref c_NoKind) (.type "ValueError") = some true)
    (n_NoKind_NoChange : c_NoKind ≠ c_NoChange)
    (n_NoKind_NoDeed : c_NoKind ≠ c_NoDeed)
    (n_NoKind_NoSum : c_NoKind ≠ c_NoSum)
    (n_NoKind_StillHeld : c_NoKind ≠ c_StillHeld)
    (n_NoKind_TooFew : c_NoKind ≠ c_TooFew)
    (n_NoKind_TooLittle : c_NoKind ≠ c_TooLittle)
    (hg_NoCount : PySem.W.findIn K (.ref c_NoCount) "__getattribute__" = some (some (.builtin "BaseException.__getattribute__")))
    (hk_NoCount : PySem.W.findIn K (.ref c_NoCount) "__getattr__" = some none)
    (hd_NoCount : PySem.W.hasDictIn K c_NoCount = true)
    (ha_NoCount : PySem.W.findIn K (.ref c_NoCount) "__class__" = some (some (.builtin "object.__class__")))
    (hm_NoCount : PySem.W.mroIn K c_NoCount (.type "object") = some true)
    (z_NoCount : PySem.W.subIn K (.ref c_NoCount) (.type "ValueError") = some true)
    (n_NoCount_NoChange : c_NoCount ≠ c_NoChange)
    (n_NoCount_NoDeed : c_NoCount ≠ c_NoDeed)
    (n_NoCount_NoSum : c_NoCount ≠ c_NoSum)
    (n_NoCount_StillHeld : c_NoCount ≠ c_StillHeld)
    (n_NoCount_TooFew : c_NoCount ≠ c_TooFew)
    (n_NoCount_TooLittle : c_NoCount ≠ c_TooLittle)
    (hg_NoTill : PySem.W.findIn K (.ref c_NoTill) "__getattribute__" = some (some (.builtin "BaseException.__getattribute__")))
    (hk_NoTill : PySem.W.findIn K (.ref c_NoTill) "__getattr__" = some none)
    (hd_NoTill : PySem.W.hasDictIn K c_NoTill = true)
    (ha_NoTill : PySem.W.findIn K (.ref c_NoTill) "__class__" = some (some (.builtin "object.__class__")))
    (hm_NoTill : PySem.W.mroIn K c_NoTill (.type "object") = some true)
    (z_NoTill : PySem.W.subIn K (.ref c_NoTill) (.type "ValueError") = some true)
    (n_NoTill_NoChange : c_NoTill ≠ c_NoChange)
    (n_NoTill_NoDeed : c_NoTill ≠ c_NoDeed)
    (n_NoTill_NoSum : c_NoTill ≠ c_NoSum)
    (n_NoTill_StillHeld : c_NoTill ≠ c_StillHeld)
    (n_NoTill_TooFew : c_NoTill ≠ c_TooFew)
    (n_NoTill_TooLittle : c_NoTill ≠ c_TooLittle)
    (hg_Twice : PySem.W.findIn K (.ref c_Twice) "__getattribute__" = some (some (.builtin "BaseException.__getattribute__")))
    (hk_Twice : PySem.W.findIn K (.ref c_Twice) "__getattr__" = some none)
    (hd_Twice : PySem.W.hasDictIn K c_Twice = true)
    (ha_Twice : PySem.W.findIn K (.ref c_Twice) "__class__" = some (some (.builtin "object.__class__")))
    (hm_Twice : PySem.W.mroIn K c_Twice (.type "object") = some true)
    (z_Twice : PySem.W.subIn K (.ref c_Twice) (.type "ValueError") = some true)
    (n_Twice_NoChange : c_Twice ≠ c_NoChange)
    (n_Twice_NoDeed : c_Twice ≠ c_NoDeed)
    (n_Twice_NoSum : c_Twice ≠ c_NoSum)
    (n_Twice_StillHeld : c_Twice ≠ c_StillHeld)
    (n_Twice_TooFew : c_Twice ≠ c_TooFew)
    (n_Twice_TooLittle : c_Twice ≠ c_TooLittle)
    (hn : PySem.W.specialIn K (.builtin "object.__class__") "__get__" = some (some (.builtin "getset_descriptor.__get__")))
    (ht : PySem.W.takesIn K (.builtin "object.__class__") = some true)
    (g_check_value : PySem.W.nsIn K mainGlobals "check_value" = some (some (.ref a_check_value)))
    (l_check_value : K.lookup a_check_value = some ⟨oc_0, od_0, .func (PySem.W.fnOf "check_value" "check_value" (defArgs s_check_value) (defBody s_check_value) (defScope s_check_value) .none kV_0 dc_0 pm_0 an_0 cd_0 ct_0), sl_0⟩)
    (o_check_value : PySem.W.codeIn K cd_0 "check_value" = true)
    (k_check_value : PySem.W.keepIn K (.ref a_check_value) = true)
    (g_check_count : PySem.W.nsIn K mainGlobals "check_count" = some (some (.ref a_check_count)))
    (l_check_count : K.lookup a_check_count = some ⟨oc_1, od_1, .func (PySem.W.fnOf "check_count" "check_count" (defArgs s_check_count) (defBody s_check_count) (defScope s_check_count) .none kV_1 dc_1 pm_1 an_1 cd_1 ct_1), sl_1⟩)
    (o_check_count : PySem.W.codeIn K cd_1 "check_count" = true)
    (k_check_count : PySem.W.keepIn K (.ref a_check_count) = true)
    (g_till_of : PySem.W.nsIn K mainGlobals "till_of" = some (some (.ref a_till_of)))
    (l_till_of : K.lookup a_till_of = some ⟨oc_2, od_2, .func (PySem.W.fnOf "till_of" "till_of" (defArgs s_till_of) (defBody s_till_of) (defScope s_till_of) .none kV_2 dc_2 pm_2 an_2 cd_2 ct_2), sl_2⟩)
    (o_till_of : PySem.W.codeIn K cd_2 "till_of" = true)
    (k_till_of : PySem.W.keepIn K (.ref a_till_of) = true)
    (g__law_cell_at : PySem.W.nsIn K mainGlobals "_law_cell_at" = some (some (.ref a__law_cell_at)))
    (l__law_cell_at : K.lookup a__law_cell_at = some ⟨oc_3, od_3, .func (PySem.W.fnOf "_law_cell_at" "_law_cell_at" (defArgs s__law_cell_at) (defBody s__law_cell_at) (defScope s__law_cell_at) .none kV_3 dc_3 pm_3 an_3 cd_3 ct_3), sl_3⟩)
    (o__law_cell_at : PySem.W.codeIn K cd_3 "_law_cell_at" = true)
    (k__law_cell_at : PySem.W.keepIn K (.ref a__law_cell_at) = true)
    (g__law_whole : PySem.W.nsIn K mainGlobals "_law_whole" = some (some (.ref a__law_whole)))
    (l__law_whole : K.lookup a__law_whole = some ⟨oc_4, od_4, .func (PySem.W.fnOf "_law_whole" "_law_whole" (defArgs s__law_whole) (defBody s__law_whole) (defScope s__law_whole) .none kV_4 dc_4 pm_4 an_4 cd_4 ct_4), sl_4⟩)
    (o__law_whole : PySem.W.codeIn K cd_4 "_law_whole" = true)
    (k__law_whole : PySem.W.keepIn K (.ref a__law_whole) = true)
    (g__law_mixed : PySem.W.nsIn K mainGlobals "_law_mixed" = some (some (.ref a__law_mixed)))
    (l__law_mixed : K.lookup a__law_mixed = some ⟨oc_5, od_5, .func (PySem.W.fnOf "_law_mixed" "_law_mixed" (defArgs s__law_mixed) (defBody s__law_mixed) (defScope s__law_mixed) .none kV_5 dc_5 pm_5 an_5 cd_5 ct_5), sl_5⟩)
    (o__law_mixed : PySem.W.codeIn K cd_5 "_law_mixed" = true)
    (k__law_mixed : PySem.W.keepIn K (.ref a__law_mixed) = true)
    (g__law_value : PySem.W.nsIn K mainGlobals "_law_value" = some (some (.ref a__law_value)))
    (l__law_value : K.lookup a__law_value = some ⟨oc_6, od_6, .func (PySem.W.fnOf "_law_value" "_law_value" (defArgs s__law_value) (defBody s__law_value) (defScope s__law_value) .none kV_6 dc_6 pm_6 an_6 cd_6 ct_6), sl_6⟩)
    (o__law_value : PySem.W.codeIn K cd_6 "_law_value" = true)
    (k__law_value : PySem.W.keepIn K (.ref a__law_value) = true)
    (g__law_count : PySem.W.nsIn K mainGlobals "_law_count" = some (some (.ref a__law_count)))
    (l__law_count : K.lookup a__law_count = some ⟨oc_7, od_7, .func (PySem.W.fnOf "_law_count" "_law_count" (defArgs s__law_count) (defBody s__law_count) (defScope s__law_count) .none kV_7 dc_7 pm_7 an_7 cd_7 ct_7), sl_7⟩)
    (o__law_count : PySem.W.codeIn K cd_7 "_law_count" = true)
    (k__law_count : PySem.W.keepIn K (.ref a__law_count) = true)
    (g__law_pairs : PySem.W.nsIn K mainGlobals "_law_pairs" = some (some (.ref a__law_pairs)))
    (l__law_pairs : K.lookup a__law_pairs = some ⟨oc_8, od_8, .func (PySem.W.fnOf "_law_pairs" "_law_pairs" (defArgs s__law_pairs) (defBody s__law_pairs) (defScope s__law_pairs) .none kV_8 dc_8 pm_8 an_8 cd_8 ct_8), sl_8⟩)
    (o__law_pairs : PySem.W.codeIn K cd_8 "_law_pairs" = true)
    (k__law_pairs : PySem.W.keepIn K (.ref a__law_pairs) = true)
    (g__law_alike : PySem.W.nsIn K mainGlobals "_law_alike" = some (some (.ref a__law_alike)))
    (l__law_alike : K.lookup a__law_alike = some ⟨oc_9, od_9, .func (PySem.W.fnOf "_law_alike" "_law_alike" (defArgs s__law_alike) (defBody s__law_alike) (defScope s__law_alike) .none kV_9 dc_9 pm_9 an_9 cd_9 ct_9), sl_9⟩)
    (o__law_alike : PySem.W.codeIn K cd_9 "_law_alike" = true)
    (k__law_alike : PySem.W.keepIn K (.ref a__law_alike) = true)
    (g__law_order : PySem.W.nsIn K mainGlobals "_law_order" = some (some (.ref a__law_order)))
    (l__law_order : K.lookup a__law_order = some ⟨oc_10, od_10, .func (PySem.W.fnOf "_law_order" "_law_order" (defArgs s__law_order) (defBody s__law_order) (defScope s__law_order) .none kV_10 dc_10 pm_10 an_10 cd_10 ct_10), sl_10⟩)
    (o__law_order : PySem.W.codeIn K cd_10 "_law_order" = true)
    (k__law_order : PySem.W.keepIn K (.ref a__law_order) = true)
    (g__law_due : PySem.W.nsIn K mainGlobals "_law_due" = some (some (.ref a__law_due)))
    (l__law_due : K.lookup a__law_due = some ⟨oc_11, od_11, .func (PySem.W.fnOf "_law_due" "_law_due" (defArgs s__law_due) (defBody s__law_due) (defScope s__law_due) .none kV_11 dc_11 pm_11 an_11 cd_11 ct_11), sl_11⟩)
    (o__law_due : PySem.W.codeIn K cd_11 "_law_due" = true)
    (k__law_due : PySem.W.keepIn K (.ref a__law_due) = true)
    (g__law_spoilt : PySem.W.nsIn K mainGlobals "_law_spoilt" = some (some (.ref a__law_spoilt)))
    (l__law_spoilt : K.lookup a__law_spoilt = some ⟨oc_12, od_12, .func (PySem.W.fnOf "_law_spoilt" "_law_spoilt" (defArgs s__law_spoilt) (defBody s__law_spoilt) (defScope s__law_spoilt) .none kV_12 dc_12 pm_12 an_12 cd_12 ct_12), sl_12⟩)
    (o__law_spoilt : PySem.W.codeIn K cd_12 "_law_spoilt" = true)
    (k__law_spoilt : PySem.W.keepIn K (.ref a__law_spoilt) = true)
    (g__law_made : PySem.W.nsIn K mainGlobals "_law_made" = some (some (.ref a__law_made)))
    (l__law_made : K.lookup a__law_made = some ⟨oc_13, od_13, .func (PySem.W.fnOf "_law_made" "_law_made" (defArgs s__law_made) (defBody s__law_made) (defScope s__law_made) .none kV_13 dc_13 pm_13 an_13 cd_13 ct_13), sl_13⟩)
    (o__law_made : PySem.W.codeIn K cd_13 "_law_made" = true)
    (k__law_made : PySem.W.keepIn K (.ref a__law_made) = true)
    (g__law_any : PySem.W.nsIn K mainGlobals "_law_any" = some (some (.ref a__law_any)))
    (l__law_any : K.lookup a__law_any = some ⟨oc_14, od_14, .func (PySem.W.fnOf "_law_any" "_law_any" (defArgs s__law_any) (defBody s__law_any) (defScope s__law_any) .none kV_14 dc_14 pm_14 an_14 cd_14 ct_14), sl_14⟩)
    (o__law_any : PySem.W.codeIn K cd_14 "_law_any" = true)
    (k__law_any : PySem.W.keepIn K (.ref a__law_any) = true)
    (g_law : PySem.W.nsIn K mainGlobals "law" = some (some (.ref a_law)))
    (l_law : K.lookup a_law = some ⟨oc_15, od_15, .func (PySem.W.fnOf "law" "law" (defArgs s_law) (defBody s_law) (defScope s_law) .none kV_15 dc_15 pm_15 an_15 cd_15 ct_15), sl_15⟩)
    (o_law : PySem.W.codeIn K cd_15 "law" = true)
    (k_law : PySem.W.keepIn K (.ref a_law) = true)
    (w_MOST_KINDS : PySem.W.nsIn K mainGlobals "MOST_KINDS" = some (some (.int 10 tk_MOST_KINDS)))
    (w_MOST_VALUE : PySem.W.nsIn K mainGlobals "MOST_VALUE" = some (some (.int 1000 tk_MOST_VALUE)))
    (w_MOST_COUNT : PySem.W.nsIn K mainGlobals "MOST_COUNT" = some (some (.int 1000000000 tk_MOST_COUNT)))
    (m_ValueError : PySem.W.nsIn K mainGlobals "ValueError" = some none)
    (m_bool : PySem.W.nsIn K mainGlobals "bool" = some none)
    (m_int : PySem.W.nsIn K mainGlobals "int" = some none)
    (m_isinstance : PySem.W.nsIn K mainGlobals "isinstance" = some none)
    (m_len : PySem.W.nsIn K mainGlobals "len" = some none)
    (m_list : PySem.W.nsIn K mainGlobals "list" = some none)
    (m_range : PySem.W.nsIn K mainGlobals "range" = some none)
    (m_set : PySem.W.nsIn K mainGlobals "set" = some none)
    (m_sorted : PySem.W.nsIn K mainGlobals "sorted" = some none)
    (m_tuple : PySem.W.nsIn K mainGlobals "tuple" = some none)
    : ∃ T : Tx K mg, T.a_law = a_law ∧ (∀ (s : Shared) (v : Value), BindsTo s T.d_law ⟨[v], []⟩ [("_law_script", v)]) := by
  have F_check_value := fun_mk (st := s_check_value) l_check_value o_check_value k_check_value
  have B_check_value := F_check_value.binds (ps := P_check_value) fun _ _ _ _ _ _ us hl => match us, hl with | [_], _ => rfl
  have F_check_count := fun_mk (st := s_check_count) l_check_count o_check_count k_check_count
  have B_check_count := F_check_count.binds (ps := P_check_count) fun _ _ _ _ _ _ us hl => match us, hl with | [_], _ => rfl
  have F_till_of := fun_mk (st := s_till_of) l_till_of o_till_of k_till_of
  have B_till_of := F_till_of.binds (ps := P_till_of) fun _ _ _ _ _ _ us hl => match us, hl with | [_], _ => rfl
  have F__law_cell_at := fun_mk (st := s__law_cell_at) l__law_cell_at o__law_cell_at k__law_cell_at
  have B__law_cell_at := F__law_cell_at.binds (ps := P__law_cell_at) fun _ _ _ _ _ _ us hl => match us, hl with | [_, _], _ => rfl
  have F__law_whole := fun_mk (st := s__law_whole) l__law_whole o__law_whole k__law_whole
  have B__law_whole := F__law_whole.binds (ps := P__law_whole) fun _ _ _ _ _ _ us hl => match us, hl with | [_], _ => rfl
  have F__law_mixed := fun_mk (st := s__law_mixed) l__law_mixed o__law_mixed k__law_mixed
  have B__law_mixed := F__law_mixed.binds (ps := P__law_mixed) fun _ _ _ _ _ _ us hl => match us, hl with | [_, _], _ => rfl
  have F__law_value := fun_mk (st := s__law_value) l__law_value o__law_value k__law_value
  have B__law_value := F__law_value.binds (ps := P__law_value) fun _ _ _ _ _ _ us hl => match us, hl with | [_, _], _ => rfl
  have F__law_count := fun_mk (st := s__law_count) l__law_count o__law_count k__law_count
  have B__law_count := F__law_count.binds (ps := P__law_count) fun _ _ _ _ _ _ us hl => match us, hl with | [_, _], _ => rfl
  have F__law_pairs := fun_mk (st := s__law_pairs) l__law_pairs o__law_pairs k__law_pairs
  have B__law_pairs := F__law_pairs.binds (ps := P__law_pairs) fun _ _ _ _ _ _ us hl => match us, hl with | [_], _ => rfl
  have F__law_alike := fun_mk (st := s__law_alike) l__law_alike o__law_alike k__law_alike
  have B__law_alike := F__law_alike.binds (ps := P__law_alike) fun _ _ _ _ _ _ us hl => match us, hl with | [_, _], _ => rfl
  have F__law_order := fun_mk (st := s__law_order) l__law_order o__law_order k__law_order
  have B__law_order := F__law_order.binds (ps := P__law_order) fun _ _ _ _ _ _ us hl => match us, hl with | [_, _], _ => rfl
  have F__law_due := fun_mk (st := s__law_due) l__law_due o__law_due k__law_due
  have B__law_due := F__law_due.binds (ps := P__law_due) fun _ _ _ _ _ _ us hl => match us, hl with | [_], _ => rfl
  have F__law_spoilt := fun_mk (st := s__law_spoilt) l__law_spoilt o__law_spoilt k__law_spoilt
  have B__law_spoilt := F__law_spoilt.binds (ps := P__law_spoilt) fun _ _ _ _ _ _ us hl => match us, hl with | [_, _], _ => rfl
  have F__law_made := fun_mk (st := s__law_made) l__law_made o__law_made k__law_made
  have B__law_made := F__law_made.binds (ps := P__law_made) fun _ _ _ _ _ _ us hl => match us, hl with | [_], _ => rfl
  have F__law_any := fun_mk (st := s__law_any) l__law_any o__law_any k__law_any
  have B__law_any := F__law_any.binds (ps := P__law_any) fun _ _ _ _ _ _ us hl => match us, hl with | [_], _ => rfl
  have F_law := fun_mk (st := s_law) l_law o_law k_law
  have B_law := F_law.binds (ps := P_law) fun _ _ _ _ _ _ us hl => match us, hl with | [_], _ => rfl
  exact ⟨{
    c_TillError := c_TillError,
    c_NoTill := c_NoTill,
    c_NoKind := c_NoKind,
    c_Twice := c_Twice,
    c_NoCount := c_NoCount,
    c_NoSum := c_NoSum,
    c_TooLittle := c_TooLittle,
    c_NoChange := c_NoChange,
    c_TooFew := c_TooFew,
    c_StillHeld := c_StillHeld,
    c_NoDeed := c_NoDeed,
    a_check_value := a_check_value, d_check_value := _,
    a_check_count := a_check_count, d_check_count := _,
    a_till_of := a_till_of, d_till_of := _,
    a__law_cell_at := a__law_cell_at, d__law_cell_at := _,
    a__law_whole := a__law_whole, d__law_whole := _,
    a__law_mixed := a__law_mixed, d__law_mixed := _,
    a__law_value := a__law_value, d__law_value := _,
    a__law_count := a__law_count, d__law_count := _,
    a__law_pairs := a__law_pairs, d__law_pairs := _,
    a__law_alike := a__law_alike, d__law_alike := _,
    a__law_order := a__law_order, d__law_order := _,
    a__law_due := a__law_due, d__law_due := _,
    a__law_spoilt := a__law_spoilt, d__law_spoilt := _,
    a__law_made := a__law_made, d__law_made := _,
    a__law_any := a__law_any, d__law_any := _,
    a_law := a_law, d_law := _,
    g_TillError := PySem.W.mg_of X G g_TillError, x_TillError := x_TillError, k_TillError := k_TillError, b_TillError := b_TillError, t_TillError := t_TillError, i_TillError := i_TillError,
    g_NoTill := PySem.W.mg_of X G g_NoTill, x_NoTill := x_NoTill, k_NoTill := k_NoTill, b_NoTill := b_NoTill, t_NoTill := t_NoTill, i_NoTill := i_NoTill,
    g_NoKind := PySem.W.mg_of X G g_NoKind, x_NoKind := x_NoKind, k_NoKind := k_NoKind, b_NoKind := b_NoKind, t_NoKind := t_NoKind, i_NoKind := i_NoKind,
    g_Twice := PySem.W.mg_of X G g_Twice, x_Twice := x_Twice, k_Twice := k_Twice, b_Twice := b_Twice, t_Twice := t_Twice, i_Twice := i_Twice,
    g_NoCount := PySem.W.mg_of X G g_NoCount, x_NoCount := x_NoCount, k_NoCount := k_NoCount, b_NoCount := b_NoCount, t_NoCount := t_NoCount, i_NoCount := i_NoCount,
    g_NoSum := PySem.W.mg_of X G g_NoSum, x_NoSum := x_NoSum, k_NoSum := k_NoSum, b_NoSum := b_NoSum, t_NoSum := t_NoSum, i_NoSum := i_NoSum,
    g_TooLittle := PySem.W.mg_of X G g_TooLittle, x_TooLittle := x_TooLittle, k_TooLittle := k_TooLittle, b_TooLittle := b_TooLittle, t_TooLittle := t_TooLittle, i_TooLittle := i_TooLittle,
    g_NoChange := PySem.W.mg_of X G g_NoChange, x_NoChange := x_NoChange, k_NoChange := k_NoChange, b_NoChange := b_NoChange, t_NoChange := t_NoChange, i_NoChange := i_NoChange,
    g_TooFew := PySem.W.mg_of X G g_TooFew, x_TooFew := x_TooFew, k_TooFew := k_TooFew, b_TooFew := b_TooFew, t_TooFew := t_TooFew, i_TooFew := i_TooFew,
    g_StillHeld := PySem.W.mg_of X G g_StillHeld, x_StillHeld := x_StillHeld, k_StillHeld := k_StillHeld, b_StillHeld := b_StillHeld, t_StillHeld := t_StillHeld, i_StillHeld := i_StillHeld,
    g_NoDeed := PySem.W.mg_of X G g_NoDeed, x_NoDeed := x_NoDeed, k_NoDeed := k_NoDeed, b_NoDeed := b_NoDeed, t_NoDeed := t_NoDeed, i_NoDeed := i_NoDeed,
    u_NoKind_NoTill := u_NoKind_NoTill,
    u_NoKind_NoKind := u_NoKind_NoKind,
    u_NoKind_Twice := u_NoKind_Twice,
    u_NoKind_NoCount := u_NoKind_NoCount,
    u_NoKind_TillError := u_NoKind_TillError,
    u_NoKind_NoChange := u_NoKind_NoChange,
    u_NoKind_NoDeed := u_NoKind_NoDeed,
    u_NoKind_NoSum := u_NoKind_NoSum,
    u_NoKind_StillHeld := u_NoKind_StillHeld,
    u_NoKind_TooFew := u_NoKind_TooFew,
    u_NoKind_TooLittle := u_NoKind_TooLittle,
    u_NoCount_NoTill := u_NoCount_NoTill,
    u_NoCount_NoKind := u_NoCount_NoKind,
    u_NoCount_Twice := u_NoCount_Twice,
    u_NoCount_NoCount := u_NoCount_NoCount,
    u_NoCount_TillError := u_NoCount_TillError,
    u_NoCount_NoChange := u_NoCount_NoChange,
    u_NoCount_NoDeed := u_NoCount_NoDeed,
    u_NoCount_NoSum := u_NoCount_NoSum,
    u_NoCount_StillHeld := u_NoCount_StillHeld,
    u_NoCount_TooFew := u_NoCount_TooFew,
    u_NoCount_TooLittle := u_NoCount_TooLittle,
    u_NoTill_NoTill := u_NoTill_NoTill,
    u_NoTill_NoKind := u_NoTill_NoKind,
    u_NoTill_Twice := u_NoTill_Twice,
    u_NoTill_NoCount := u_NoTill_NoCount,
    u_NoTill_TillError := u_NoTill_TillError,
    u_NoTill_NoChange := u_NoTill_NoChange,
    u_NoTill_NoDeed := u_NoTill_NoDeed,
    u_NoTill_NoSum := u_NoTill_NoSum,
    u_NoTill_StillHeld := u_NoTill_StillHeld,
    u_NoTill_TooFew := u_NoTill_TooFew,
    u_NoTill_TooLittle := u_NoTill_TooLittle,
    u_Twice_NoTill := u_Twice_NoTill,
    u_Twice_NoKind := u_Twice_NoKind,
    u_Twice_Twice := u_Twice_Twice,
    u_Twice_NoCount := u_Twice_NoCount,
    u_Twice_TillError := u_Twice_TillError,
    u_Twice_NoChange := u_Twice_NoChange,
    u_Twice_NoDeed := u_Twice_NoDeed,
    u_Twice_NoSum := u_Twice_NoSum,
    u_Twice_StillHeld := u_Twice_StillHeld,
    u_Twice_TooFew := u_Twice_TooFew,
    u_Twice_TooLittle := u_Twice_TooLittle,
    e_NoKind := ⟨hg_NoKind, hk_NoKind, b_NoKind, hd_NoKind, ha_NoKind, hn, ht, hm_NoKind⟩, z_NoKind := kone_ty z_NoKind, y_NoKind := (kany_f (kone_own n_NoKind_NoChange i_NoChange t_NoChange u_NoKind_NoChange) (kany_f (kone_own n_NoKind_NoDeed i_NoDeed t_NoDeed u_NoKind_NoDeed) (kany_f (kone_own n_NoKind_NoSum i_NoSum t_NoSum u_NoKind_NoSum) (kany_f (kone_own n_NoKind_StillHeld i_StillHeld t_StillHeld u_NoKind_StillHeld) (kany_f (kone_own n_NoKind_TooFew i_TooFew t_TooFew u_NoKind_TooFew) (kany_f (kone_own n_NoKind_TooLittle i_TooLittle t_TooLittle u_NoKind_TooLittle) kitAny_nil)))))),
    e_NoCount := ⟨hg_NoCount, hk_NoCount, b_NoCount, hd_NoCount, ha_NoCount, hn, ht, hm_NoCount⟩, z_NoCount := kone_ty z_NoCount, y_NoCount := (kany_f (kone_own n_NoCount_NoChange i_NoChange t_NoChange u_NoCount_NoChange) (kany_f (kone_own n_NoCount_NoDeed i_NoDeed t_NoDeed u_NoCount_NoDeed) (kany_f (kone_own n_NoCount_NoSum i_NoSum t_NoSum u_NoCount_NoSum) (kany_f (kone_own n_NoCount_StillHeld i_StillHeld t_StillHeld u_NoCount_StillHeld) (kany_f (kone_own n_NoCount_TooFew i_TooFew t_TooFew u_NoCount_TooFew) (kany_f (kone_own n_NoCount_TooLittle i_TooLittle t_TooLittle u_NoCount_TooLittle) kitAny_nil)))))),
    e_NoTill := ⟨hg_NoTill, hk_NoTill, b_NoTill, hd_NoTill, ha_NoTill, hn, ht, hm_NoTill⟩, z_NoTill := kone_ty z_NoTill, y_NoTill := (kany_f (kone_own n_NoTill_NoChange i_NoChange t_NoChange u_NoTill_NoChange) (kany_f (kone_own n_NoTill_NoDeed i_NoDeed t_NoDeed u_NoTill_NoDeed) (kany_f (kone_own n_NoTill_NoSum i_NoSum t_NoSum u_NoTill_NoSum) (kany_f (kone_own n_NoTill_StillHeld i_StillHeld t_StillHeld u_NoTill_StillHeld) (kany_f (kone_own n_NoTill_TooFew i_TooFew t_TooFew u_NoTill_TooFew) (kany_f (kone_own n_NoTill_TooLittle i_TooLittle t_TooLittle u_NoTill_TooLittle) kitAny_nil)))))),
    e_Twice := ⟨hg_Twice, hk_Twice, b_Twice, hd_Twice, ha_Twice, hn, ht, hm_Twice⟩, z_Twice := kone_ty z_Twice, y_Twice := (kany_f (kone_own n_Twice_NoChange i_NoChange t_NoChange u_Twice_NoChange) (kany_f (kone_own n_Twice_NoDeed i_NoDeed t_NoDeed u_Twice_NoDeed) (kany_f (kone_own n_Twice_NoSum i_NoSum t_NoSum u_Twice_NoSum) (kany_f (kone_own n_Twice_StillHeld i_StillHeld t_StillHeld u_Twice_StillHeld) (kany_f (kone_own n_Twice_TooFew i_TooFew t_TooFew u_Twice_TooFew) (kany_f (kone_own n_Twice_TooLittle i_TooLittle t_TooLittle u_Twice_TooLittle) kitAny_nil)))))),
    f_check_value := F_check_value, p_check_value := B_check_value, g_check_value := PySem.W.mg_of X G g_check_value,
    f_check_count := F_check_count, p_check_count := B_check_count, g_check_count := PySem.W.mg_of X G g_check_count,
    f_till_of := F_till_of, p_till_of := B_till_of, g_till_of := PySem.W.mg_of X G g_till_of,
    f__law_cell_at := F__law_cell_at, p__law_cell_at := B__law_cell_at, g__law_cell_at := PySem.W.mg_of X G g__law_cell_at,
    f__law_whole := F__law_whole, p__law_whole := B__law_whole, g__law_whole := PySem.W.mg_of X G g__law_whole,
    f__law_mixed := F__law_mixed, p__law_mixed := B__law_mixed, g__law_mixed := PySem.W.mg_of X G g__law_mixed,
    f__law_value := F__law_value, p__law_value := B__law_value, g__law_value := PySem.W.mg_of X G g__law_value,
    f__law_count := F__law_count, p__law_count := B__law_count, g__law_count := PySem.W.mg_of X G g__law_count,
    f__law_pairs := F__law_pairs, p__law_pairs := B__law_pairs, g__law_pairs := PySem.W.mg_of X G g__law_pairs,
    f__law_alike := F__law_alike, p__law_alike := B__law_alike, g__law_alike := PySem.W.mg_of X G g__law_alike,
    f__law_order := F__law_order, p__law_order := B__law_order, g__law_order := PySem.W.mg_of X G g__law_order,
    f__law_due := F__law_due, p__law_due := B__law_due, g__law_due := PySem.W.mg_of X G g__law_due,
    f__law_spoilt := F__law_spoilt, p__law_spoilt := B__law_spoilt, g__law_spoilt := PySem.W.mg_of X G g__law_spoilt,
    f__law_made := F__law_made, p__law_made := B__law_made, g__law_made := PySem.W.mg_of X G g__law_made,
    f__law_any := F__law_any, p__law_any := B__law_any, g__law_any := PySem.W.mg_of X G g__law_any,
    f_law := F_law, p_law := B_law, g_law := PySem.W.mg_of X G g_law,
    w_MOST_KINDS := ⟨_, PySem.W.mg_of X G w_MOST_KINDS⟩,
    w_MOST_VALUE := ⟨_, PySem.W.mg_of X G w_MOST_VALUE⟩,
    w_MOST_COUNT := ⟨_, PySem.W.mg_of X G w_MOST_COUNT⟩,
    m_ValueError := PySem.W.mg_none_of X G m_ValueError,
    m_bool := PySem.W.mg_none_of X G m_bool,
    m_int := PySem.W.mg_none_of X G m_int,
    m_isinstance := PySem.W.mg_none_of X G m_isinstance,
    m_len := PySem.W.mg_none_of X G m_len,
    m_list := PySem.W.mg_none_of X G m_list,
    m_range := PySem.W.mg_none_of X G m_range,
    m_set := PySem.W.mg_none_of X G m_set,
    m_sorted := PySem.W.mg_none_of X G m_sorted,
    m_tuple := PySem.W.mg_none_of X G m_tuple }, rfl, fun s v => .of_eq rfl⟩

theorem fin {l : PySem.W.OpenLaw} {w : World} {K : PySem.W.Frag} {h : Heap} {mg : Str → Option Value} {fa a_law : Addr} (X : K.In h) (G : h.Ns mainGlobals mg) (hfa : mg "law" = some (.ref fa))
    (x : ∃ T : Tx K mg, T.a_law = a_law ∧ (∀ (s : Shared) (v : Value), BindsTo s T.d_law ⟨[v], []⟩ [("_law_script", v)])) :
    ∃ fd : FuncData, (∀ (s : Shared) (v : Value), BindsTo s fd ⟨[v], []⟩ [("_law_script", v)]) ∧ ∀ base : Heap, K.In base → base.Ns mainGlobals mg → FnOk l.prog w K mg base CX0 4 fa fd ["_law_script"] (spLaw K) := by
  obtain ⟨T, _, hb⟩ := x
  have e := hfa.symm.trans T.g_law
  cases e
  exact ⟨T.d_law, hb, fun base _ _ => ok_law T⟩

end K02
open PySem PySem.W PyProof.Rows
set_option maxRecDepth 100000 in
set_option maxHeartbeats 0 in
theorem PySem.Challenge.cw_tilldrawer_k02_tills_made_holds : PySem.Challenge.rw_tilldrawer_k02_tills_made.Holds := by
  w_on; o_law; k_head; (case hw => w_witness2)
  k_fill
  refine L2.walk_ofK (l := PySem.Challenge.rw_tilldrawer_k02_tills_made) (n := 63) (k := 4) (x := "_law_script") (CX := L2.CX0) (sp := K02.spLaw) rfl (by decide) rfl ⟨rfl, by decide, by decide⟩ (fun w h Y => PySem.W.kIn_of Y) ?F (fun K H a ns hl hO hS => K02.law_start hl hO hS) (fun _ _ _ _ h => h)
  case F =>
    intro w mg fa h KX G hmg
    refine' K02.fin KX G hmg (K02.tx_mk KX G ?g_TillError ?x_TillError ?k_TillError ?b_TillError ?t_TillError ?i_TillError ?g_NoTill ?x_NoTill ?k_NoTill ?b_NoTill ?t_NoTill ?i_NoTill ?g_NoKind ?x_NoKind ?k_NoKind ?b_NoKind ?t_NoKind ?i_NoKind ?g_Twice ?x_Twice ?k_Twice ?b_Twice ?t_Twice ?i_Twice ?g_NoCount ?x_NoCount ?k_NoCount ?b_NoCount ?t_NoCount ?i_NoCount ?g_NoSum ?x_NoSum ?k_NoSum ?b_NoSum ?t_NoSum ?i_NoSum ?g_TooLittle ?x_TooLittle ?k_TooLittle ?b_TooLittle ?t_TooLittle ?i_TooLittle ?g_NoChange ?x_NoChange ?k_NoChange ?b_NoChange ?t_NoChange ?i_NoChange ?g_TooFew ?x_TooFew ?k_TooFew ?b_TooFew ?t_TooFew ?i_TooFew ?g_StillHeld ?x_StillHeld ?k_StillHeld ?b_StillHeld ?t_StillHeld ?i_StillHeld ?g_NoDeed ?x_NoDeed ?k_NoDeed ?b_NoDeed ?t_NoDeed ?i_NoDeed ?u_NoKind_NoTill ?u_NoKind_NoKind ?u_NoKind_Twice ?u_NoKind_NoCount ?u_NoKind_TillError ?u_NoKind_NoChange ?u_NoKind_NoDeed ?u_NoKind_NoSum ?u_NoKind_StillHeld ?u_NoKind_TooFew ?u_NoKind_TooLittle ?u_NoCount_NoTill ?u_NoCount_NoKind ?u_NoCount_Twice ?u_NoCount_NoCount ?u_NoCount_TillError ?u_NoCount_NoChange ?u_NoCount_NoDeed ?u_NoCount_NoSum ?u_NoCount_StillHeld ?u_NoCount_TooFew ?u_NoCount_TooLittle ?u_NoTill_NoTill ?u_NoTill_NoKind ?u_NoTill_Twice ?u_NoTill_NoCount ?u_NoTill_TillError ?u_NoTill_NoChange ?u_NoTill_NoDeed ?u_NoTill_NoSum ?u_NoTill_StillHeld ?u_NoTill_TooFew ?u_NoTill_TooLittle ?u_Twice_NoTill ?u_Twice_NoKind ?u_Twice_Twice ?u_Twice_NoCount ?u_Twice_TillError ?u_Twice_NoChange ?u_Twice_NoDeed ?u_Twice_NoSum ?u_Twice_StillHeld ?u_Twice_TooFew ?u_Twice_TooLittle ?hg_NoKind ?hk_NoKind ?hd_NoKind ?ha_NoKind ?hm_NoKind ?z_NoKind ?n_NoKind_NoChange ?n_NoKind_NoDeed ?n_NoKind_NoSum ?n_NoKind_StillHeld ?n_NoKind_TooFew ?n_NoKind_TooLittle ?hg_NoCount ?hk_NoCount ?hd_NoCount ?ha_NoCount ?hm_NoCount ?z_NoCount ?n_NoCount_NoChange ?n_NoCount_NoDeed ?n_NoCount_NoSum ?n_NoCount_StillHeld ?n_NoCount_TooFew ?n_NoCount_TooLittle ?hg_NoTill ?hk_NoTill ?hd_NoTill ?ha_NoTill ?hm_NoTill ?z_NoTill ?n_NoTill_NoChange ?n_NoTill_NoDeed ?n_NoTill_NoSum ?n_NoTill_StillHeld ?n_NoTill_TooFew ?n_NoTill_TooLittle ?hg_Twice ?hk_Twice ?hd_Twice ?ha_Twice ?hm_Twice ?z_Twice ?n_Twice_NoChange ?n_Twice_NoDeed ?n_Twice_NoSum ?n_Twice_StillHeld ?n_Twice_TooFew ?n_Twice_TooLittle ?hn ?ht ?g_check_value ?l_check_value ?o_check_value ?k_check_value ?g_check_count ?l_check_count ?o_check_count ?k_check_count ?g_till_of ?l_till_of ?o_till_of ?k_till_of ?g__law_cell_at ?l__law_cell_at ?o__law_cell_at ?k__law_cell_at ?g__law_whole ?l__law_whole ?o__law_whole ?k__law_whole ?g__law_mixed ?l__law_mixed ?o__law_mixed ?k__law_mixed ?g__law_value ?l__law_value ?o__law_value ?k__law_value ?g__law_count ?l__law_count ?o__law_count ?k__law_count ?g__law_pairs ?l__law_pairs ?o__law_pairs ?k__law_pairs ?g__law_alike ?l__law_alike ?o__law_alike ?k__law_alike ?g__law_order ?l__law_order ?o__law_order ?k__law_order ?g__law_due ?l__law_due ?o__law_due ?k__law_due ?g__law_spoilt ?l__law_spoilt ?o__law_spoilt ?k__law_spoilt ?g__law_made ?l__law_made ?o__law_made ?k__law_made ?g__law_any ?l__law_any ?o__law_any ?k__law_any ?g_law ?l_law ?o_law ?k_law ?w_MOST_KINDS ?w_MOST_VALUE ?w_MOST_COUNT ?m_ValueError ?m_bool ?m_int ?m_isinstance ?m_len ?m_list ?m_range ?m_set ?m_sorted ?m_tuple)
    (case g_TillError => k_is)
    (case x_TillError => k_exc)
    (case k_TillError => k_is)
    (case b_TillError => k_is)
    (case t_TillError => k_is)
    (case i_TillError => k_is)
    (case g_NoTill => k_is)
    (case x_NoTill => k_exc)
    (case k_NoTill => k_is)
    (case b_NoTill => k_is)
    (case t_NoTill => k_is)
    (case i_NoTill => k_is)
    (case g_NoKind => k_is)
    (case x_NoKind => k_exc)
    (case k_NoKind => k_is)
    (case b_NoKind => k_is)
    (case t_NoKind => k_is)
    (case i_NoKind => k_is)
    (case g_Twice => k_is)
    (case x_Twice => k_exc)
    (case k_Twice => k_is)
    (case b_Twice => k_is)
    (case t_Twice => k_is)
    (case i_Twice => k_is)
    (case g_NoCount => k_is)
    (case x_NoCount => k_exc)
    (case k_NoCount => k_is)
    (case b_NoCount => k_is)
    (case t_NoCount => k_is)
    (case i_NoCount => k_is)
    (case g_NoSum => k_is)
    (case x_NoSum => k_exc)
    (case k_NoSum => k_is)
    (case b_NoSum => k_is)
    (case t_NoSum => k_is)
    (case i_NoSum => k_is)
    (case g_TooLittle => k_is)
    (case x_TooLittle => k_exc)
    (case k_TooLittle => k_is)
    (case b_TooLittle => k_is)
    (case t_TooLittle => k_is)
    (case i_TooLittle => k_is)
    (case g_NoChange => k_is)
    (case x_NoChange => k_exc)
    (case k_NoChange => k_is)
    (case b_NoChange => k_is)
    (case t_NoChange => k_is)
    (case i_NoChange => k_is)
    (case g_TooFew => k_is)
    (case x_TooFew => k_exc)
    (case k_TooFew => k_is)
    (case b_TooFew => k_is)
    (case t_TooFew => k_is)
    (case i_TooFew => k_is)
    (case g_StillHeld => k_is)
    (case x_StillHeld => k_exc)
    (case k_StillHeld => k_is)
    (case b_StillHeld => k_is)
    (case t_StillHeld => k_is)
    (case i_StillHeld => k_is)
    (case g_NoDeed => k_is)
    (case x_NoDeed => k_exc)
    (case k_NoDeed => k_is)
    (case b_NoDeed => k_is)
    (case t_NoDeed => k_is)
    (case i_NoDeed => k_is)
    (case u_NoKind_NoTill => first | rfl | k_is)
    (case u_NoKind_NoKind => first | rfl | k_is)
    (case u_NoKind_Twice => first | rfl | k_is)
    (case u_NoKind_NoCount => first | rfl | k_is)
    (case u_NoKind_TillError => first | rfl | k_is)
    (case u_NoKind_NoChange => first | rfl | k_is)
    (case u_NoKind_NoDeed => first | rfl | k_is)
    (case u_NoKind_NoSum => first | rfl | k_is)
    (case u_NoKind_StillHeld => first | rfl | k_is)
    (case u_NoKind_TooFew => first | rfl | k_is)
    (case u_NoKind_TooLittle => first | rfl | k_is)
    (case u_NoCount_NoTill => first | rfl | k_is)
    (case u_NoCount_NoKind => first | rfl | k_is)
    (case u_NoCount_Twice => first | rfl | k_is)
    (case u_NoCount_NoCount => first | rfl | k_is)
    (case u_NoCount_TillError => first | rfl | k_is)
    (case u_NoCount_NoChange => first | rfl | k_is)
    (case u_NoCount_NoDeed => first | rfl | k_is)
    (case u_NoCount_NoSum => first | rfl | k_is)
    (case u_NoCount_StillHeld => first | rfl | k_is)
    (case u_NoCount_TooFew => first | rfl | k_is)
    (case u_NoCount_TooLittle => first | rfl | k_is)
    (case u_NoTill_NoTill => first | rfl | k_is)
    (case u_NoTill_NoKind => first | rfl | k_is)
    (case u_NoTill_Twice => first | rfl | k_is)
    (case u_NoTill_NoCount => first | rfl | k_is)
    (case u_NoTill_TillError => first | rfl | k_is)
    (case u_NoTill_NoChange => first | rfl | k_is)
    (case u_NoTill_NoDeed => first | rfl | k_is)
    (case u_NoTill_NoSum => first | rfl | k_is)
    (case u_NoTill_StillHeld => first | rfl | k_is)
    (case u_NoTill_TooFew => first | rfl | k_is)
    (case u_NoTill_TooLittle => first | rfl | k_is)
    (case u_Twice_NoTill => first | rfl | k_is)
    (case u_Twice_NoKind => first | rfl | k_is)
    (case u_Twice_Twice => first | rfl | k_is)
    (case u_Twice_NoCount => first | rfl | k_is)
    (case u_Twice_TillError => first | rfl | k_is)
    (case u_Twice_NoChange => first | rfl | k_is)
    (case u_Twice_NoDeed => first | rfl | k_is)
    (case u_Twice_NoSum => first | rfl | k_is)
    (case u_Twice_StillHeld => first | rfl | k_is)
    (case u_Twice_TooFew => first | rfl | k_is)
    (case u_Twice_TooLittle => first | rfl | k_is)
    (case hg_NoKind => k_is)
    (case hk_NoKind => k_is)
    (case hd_NoKind => k_is)
    (case ha_NoKind => k_is)
    (case hm_NoKind => k_is)
    (case z_NoKind => k_is)
    (case n_NoKind_NoChange => decide)
    (case n_NoKind_NoDeed => decide)
    (case n_NoKind_NoSum => decide)
    (case n_NoKind_StillHeld => decide)
    (case n_NoKind_TooFew => decide)
    (case n_NoKind_TooLittle => decide)
    (case hg_NoCount => k_is)
    (case hk_NoCount => k_is)
    (case hd_NoCount => k_is)
    (case ha_NoCount => k_is)
    (case hm_NoCount => k_is)
    (case z_NoCount => k_is)
    (case n_NoCount_NoChange => decide)
    (case n_NoCount_NoDeed => decide)
    (case n_NoCount_NoSum => decide)
    (case n_NoCount_StillHeld => decide)
    (case n_NoCount_TooFew => decide)
    (case n_NoCount_TooLittle => decide)
    (case hg_NoTill => k_is)
    (case hk_NoTill => k_is)
    (case hd_NoTill => k_is)
    (case ha_NoTill => k_is)
    (case hm_NoTill => k_is)
    (case z_NoTill => k_is)
    (case n_NoTill_NoChange => decide)
    (case n_NoTill_NoDeed => decide)
    (case n_NoTill_NoSum => decide)
    (case n_NoTill_StillHeld => decide)
    (case n_NoTill_TooFew => decide)
    (case n_NoTill_TooLittle => decide)
    (case hg_Twice => k_is)
    (case hk_Twice => k_is)
    (case hd_Twice => k_is)
    (case ha_Twice => k_is)
    (case hm_Twice => k_is)
    (case z_Twice => k_is)
    (case n_Twice_NoChange => decide)
    (case n_Twice_NoDeed => decide)
    (case n_Twice_NoSum => decide)
    (case n_Twice_StillHeld => decide)
    (case n_Twice_TooFew => decide)
    (case n_Twice_TooLittle => decide)
    (case hn => k_is)
    (case ht => k_is)
    (case g_check_value => k_is)
    (case l_check_value => k_is)
    (case o_check_value => k_is)
    (case k_check_value => k_is)
    (case g_check_count => k_is)
    (case l_check_count => k_is)
    (case o_check_count => k_is)
    (case k_check_count => k_is)
    (case g_till_of => k_is)
    (case l_till_of => k_is)
    (case o_till_of => k_is)
    (case k_till_of => k_is)
    (case g__law_cell_at => k_is)
    (case l__law_cell_at => k_is)
    (case o__law_cell_at => k_is)
    (case k__law_cell_at => k_is)
    (case g__law_whole => k_is)
    (case l__law_whole => k_is)
    (case o__law_whole => k_is)
    (case k__law_whole => k_is)
    (case g__law_mixed => k_is)
    (case l__law_mixed => k_is)
    (case o__law_mixed => k_is)
    (case k__law_mixed => k_is)
    (case g__law_value => k_is)
    (case l__law_value => k_is)
    (case o__law_value => k_is)
    (case k__law_value => k_is)
    (case g__law_count => k_is)
    (case l__law_count => k_is)
    (case o__law_count => k_is)
    (case k__law_count => k_is)
    (case g__law_pairs => k_is)
    (case l__law_pairs => k_is)
    (case o__law_pairs => k_is)
    (case k__law_pairs => k_is)
    (case g__law_alike => k_is)
    (case l__law_alike => k_is)
    (case o__law_alike => k_is)
    (case k__law_alike => k_is)
    (case g__law_order => k_is)
    (case l__law_order => k_is)
    (case o__law_order => k_is)
    (case k__law_order => k_is)
    (case g__law_due => k_is)
    (case l__law_due => k_is)
    (case o__law_due => k_is)
    (case k__law_due => k_is)
    (case g__law_spoilt => k_is)
    (case l__law_spoilt => k_is)
    (case o__law_spoilt => k_is)
    (case k__law_spoilt => k_is)
    (case g__law_made => k_is)
    (case l__law_made => k_is)
    (case o__law_made => k_is)
    (case k__law_made => k_is)
    (case g__law_any => k_is)
    (case l__law_any => k_is)
    (case o__law_any => k_is)
    (case k__law_any => k_is)
    (case g_law => k_is)
    (case l_law => k_is)
    (case o_law => k_is)
    (case k_law => k_is)
    (case w_MOST_KINDS => k_is)
    (case w_MOST_VALUE => k_is)
    (case w_MOST_COUNT => k_is)
    (case m_ValueError => k_is)
    (case m_bool => k_is)
    (case m_int => k_is)
    (case m_isinstance => k_is)
    (case m_len => k_is)
    (case m_list => k_is)
    (case m_range => k_is)
    (case m_set => k_is)
    (case m_sorted => k_is)
    (case m_tuple => k_is)

