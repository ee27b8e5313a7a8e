import PyProof.Rows.All
import Wide.All
import OpenK.AllK
import Wide.FinOn
import PyProof.EqAt
import PyProof.EqKinds
import PyProof.TupleCall
import HandS.ForMost
import HandS.ForExc
import HandS.TryMany
import HandS.Sort
import HandS.SortRule
import HandS.IsInst
import HandS.ExcIs
import HandS.Evl
import HandS.Walk
import HandS.Strs
import HandS.SetFor
import HandS.RevRange
import HandS.Conv
import HandS.Style
import HandS.Zip
import PySem.Challenge.RW_tilldrawer_k03_pieces_and_kinds
set_option Elab.async false
set_option linter.all false
set_option maxRecDepth 100000
set_option maxHeartbeats 4000000
namespace K03
open PySem PySem.Spec PyProof.Rows L2
def topS (i : Nat) : Stmt := PySem.Challenge.pw_tilldrawer_k03_pieces_and_kinds.main.body.getD i (.Pass ⟨0, 0, 0, 0⟩)
abbrev s_check_value : Stmt := topS 16
abbrev N_check_value : List Str := ["value"]
abbrev P_check_value : List Str := ["value"]
theorem sc_check_value : FnScope N_check_value P_check_value (defScope s_check_value) := ⟨rfl, rfl, rfl, by decide +kernel, rfl, by decide +kernel, by decide +kernel⟩
abbrev s_check_count : Stmt := topS 17
abbrev N_check_count : List Str := ["count"]
abbrev P_check_count : List Str := ["count"]
theorem sc_check_count : FnScope N_check_count P_check_count (defScope s_check_count) := ⟨rfl, rfl, rfl, by decide +kernel, rfl, by decide +kernel, by decide +kernel⟩
abbrev s_count_of : Stmt := topS 18
abbrev N_count_of : List Str := ["till", "value", "held", "count"]
abbrev P_count_of : List Str := ["till", "value"]
theorem sc_count_of : FnScope N_count_of P_count_of (defScope s_count_of) := ⟨rfl, rfl, rfl, by decide +kernel, rfl, by decide +kernel, by decide +kernel⟩
abbrev s_brought : Stmt := topS 20
abbrev N_brought : List Str := ["till", "value", "count", "lies"]
abbrev P_brought : List Str := ["till", "value", "count"]
theorem sc_brought : FnScope N_brought P_brought (defScope s_brought) := ⟨rfl, rfl, rfl, by decide +kernel, rfl, by decide +kernel, by decide +kernel⟩
abbrev s_fetched : Stmt := topS 21
abbrev N_fetched : List Str := ["till", "value", "count", "lies"]
abbrev P_fetched : List Str := ["till", "value", "count"]
theorem sc_fetched : FnScope N_fetched P_fetched (defScope s_fetched) := ⟨rfl, rfl, rfl, by decide +kernel, rfl, by decide +kernel, by decide +kernel⟩
abbrev s_kind_in : Stmt := topS 22
abbrev N_kind_in : List Str := ["till", "value", "held", "_"]
abbrev P_kind_in : List Str := ["till", "value"]
theorem sc_kind_in : FnScope N_kind_in P_kind_in (defScope s_kind_in) := ⟨rfl, rfl, rfl, by decide +kernel, rfl, by decide +kernel, by decide +kernel⟩
abbrev s_kind_out : Stmt := topS 23
abbrev N_kind_out : List Str := ["till", "value", "held", "count"]
abbrev P_kind_out : List Str := ["till", "value"]
theorem sc_kind_out : FnScope N_kind_out P_kind_out (defScope s_kind_out) := ⟨rfl, rfl, rfl, by decide +kernel, rfl, by decide +kernel, by decide +kernel⟩
abbrev s__with_count : Stmt := topS 24
abbrev N__with_count : List Str := ["till", "value", "count", "held", "lies"]
abbrev P__with_count : List Str := ["till", "value", "count"]
theorem sc__with_count : FnScope N__with_count P__with_count (defScope s__with_count) := ⟨rfl, rfl, rfl, by decide +kernel, rfl, by decide +kernel, by decide +kernel⟩
abbrev s__law_cell_at : Stmt := topS 26
abbrev N__law_cell_at : List Str := ["_law_script", "_law_k"]
abbrev P__law_cell_at : List Str := ["_law_script", "_law_k"]
theorem sc__law_cell_at : FnScope N__law_cell_at P__law_cell_at (defScope s__law_cell_at) := ⟨rfl, rfl, rfl, by decide +kernel, rfl, by decide +kernel, by decide +kernel⟩
abbrev s__law_whole : Stmt := topS 27
abbrev N__law_whole : List Str := ["_law_found"]
abbrev P__law_whole : List Str := ["_law_found"]
theorem sc__law_whole : FnScope N__law_whole P__law_whole (defScope s__law_whole) := ⟨rfl, rfl, rfl, by decide +kernel, rfl, by decide +kernel, by decide +kernel⟩
abbrev s__law_mixed : Stmt := topS 28
abbrev N__law_mixed : List Str := ["_law_cell", "_law_k"]
abbrev P__law_mixed : List Str := ["_law_cell", "_law_k"]
theorem sc__law_mixed : FnScope N__law_mixed P__law_mixed (defScope s__law_mixed) := ⟨rfl, rfl, rfl, by decide +kernel, rfl, by decide +kernel, by decide +kernel⟩
abbrev s__law_value : Stmt := topS 29
abbrev N__law_value : List Str := ["_law_cell", "_law_k", "_law_drawn"]
abbrev P__law_value : List Str := ["_law_cell", "_law_k"]
theorem sc__law_value : FnScope N__law_value P__law_value (defScope s__law_value) := ⟨rfl, rfl, rfl, by decide +kernel, rfl, by decide +kernel, by decide +kernel⟩
abbrev s__law_count : Stmt := topS 30
abbrev N__law_count : List Str := ["_law_cell", "_law_k", "_law_drawn"]
abbrev P__law_count : List Str := ["_law_cell", "_law_k"]
theorem sc__law_count : FnScope N__law_count P__law_count (defScope s__law_count) := ⟨rfl, rfl, rfl, by decide +kernel, rfl, by decide +kernel, by decide +kernel⟩
abbrev s__law_pairs : Stmt := topS 31
abbrev N__law_pairs : List Str := ["_law_script", "_law_cell", "_law_many", "_law_found", "_law_seen", "_law_k", "_law_value_here"]
abbrev P__law_pairs : List Str := ["_law_script"]
theorem sc__law_pairs : FnScope N__law_pairs P__law_pairs (defScope s__law_pairs) := ⟨rfl, rfl, rfl, by decide +kernel, rfl, by decide +kernel, by decide +kernel⟩
abbrev s__law_alike : Stmt := topS 32
abbrev N__law_alike : List Str := ["_law_found", "_law_due_here", "_law_pair"]
abbrev P__law_alike : List Str := ["_law_found", "_law_due_here"]
theorem sc__law_alike : FnScope N__law_alike P__law_alike (defScope s__law_alike) := ⟨rfl, rfl, rfl, by decide +kernel, rfl, by decide +kernel, by decide +kernel⟩
abbrev s__law_there : Stmt := topS 33
abbrev N__law_there : List Str := ["_law_till", "_law_value_here", "_law_pair"]
abbrev P__law_there : List Str := ["_law_till", "_law_value_here"]
theorem sc__law_there : FnScope N__law_there P__law_there (defScope s__law_there) := ⟨rfl, rfl, rfl, by decide +kernel, rfl, by decide +kernel, by decide +kernel⟩
abbrev s__law_due : Stmt := topS 34
abbrev N__law_due : List Str := ["_law_till", "_law_which", "_law_value_here", "_law_count_here", "_law_there_here"]
abbrev P__law_due : List Str := ["_law_till", "_law_which", "_law_value_here", "_law_count_here"]
theorem sc__law_due : FnScope N__law_due P__law_due (defScope s__law_due) := ⟨rfl, rfl, rfl, by decide +kernel, rfl, by decide +kernel, by decide +kernel⟩
abbrev s__law_behind : Stmt := topS 35
abbrev N__law_behind : List Str := ["_law_till", "_law_which", "_law_value_here", "_law_count_here", "_law_found", "_law_pair"]
abbrev P__law_behind : List Str := ["_law_till", "_law_which", "_law_value_here", "_law_count_here"]
theorem sc__law_behind : FnScope N__law_behind P__law_behind (defScope s__law_behind) := ⟨rfl, rfl, rfl, by decide +kernel, rfl, by decide +kernel, by decide +kernel⟩
abbrev s__law_done : Stmt := topS 36
abbrev N__law_done : List Str := ["_law_till", "_law_which", "_law_value_here", "_law_count_here"]
abbrev P__law_done : List Str := ["_law_till", "_law_which", "_law_value_here", "_law_count_here"]
theorem sc__law_done : FnScope N__law_done P__law_done (defScope s__law_done) := ⟨rfl, rfl, rfl, by decide +kernel, rfl, by decide +kernel, by decide +kernel⟩
abbrev s__law_tried : Stmt := topS 37
abbrev N__law_tried : List Str := ["_law_till", "_law_which", "_law_value_here", "_law_count_here"]
abbrev P__law_tried : List Str := ["_law_till", "_law_which", "_law_value_here", "_law_count_here"]
theorem sc__law_tried : FnScope N__law_tried P__law_tried (defScope s__law_tried) := ⟨rfl, rfl, rfl, by decide +kernel, rfl, by decide +kernel, by decide +kernel⟩
abbrev s__law_any : Stmt := topS 38
abbrev N__law_any : List Str := ["_law_till", "_law_which", "_law_value_here", "_law_count_here", "e", "_law_kinds"]
abbrev P__law_any : List Str := ["_law_till", "_law_which", "_law_value_here", "_law_count_here"]
theorem sc__law_any : FnScope N__law_any P__law_any (defScope s__law_any) := ⟨rfl, rfl, rfl, by decide +kernel, rfl, by decide +kernel, by decide +kernel⟩
abbrev s_law : Stmt := topS 39
abbrev N_law : List Str := ["_law_script", "_law_till", "_law_cell", "_law_own", "_law_value_here", "_law_there_here", "_law_left", "_law_counts", "_law_count_here", "_law_which", "_law_handed", "_law_due_here", "_law_found", "_law_behind_here", "_law_good", "_law_again", "_law_pair"]
abbrev P_law : List Str := ["_law_script"]
theorem sc_law : FnScope N_law P_law (defScope s_law) := ⟨rfl, rfl, rfl, by decide +kernel, rfl, by decide +kernel, by decide +kernel⟩
/-- what the top has written -/
structure Tx (K : PySem.W.Frag) (mg : Str → Option Value) : Type where
  c_TillError : Addr
  c_NoTill : Addr
  c_NoKind : Addr
  c_Twice : Addr
  c_NoCount : Addr
  c_NoSum : Addr
  c_TooLittle : Addr
  c_NoChange : Addr
  c_TooFew : Addr
  c_StillHeld : Addr
  c_NoDeed : Addr
  a_check_value : Addr
  d_check_value : FuncData
  a_check_count : Addr
  d_check_count : FuncData
  a_count_of : Addr
  d_count_of : FuncData
  a_brought : Addr
  d_brought : FuncData
  a_fetched : Addr
  d_fetched : FuncData
  a_kind_in : Addr
  d_kind_in : FuncData
  a_kind_out : Addr
  d_kind_out : FuncData
  a__with_count : Addr
  d__with_count : FuncData
  a__law_cell_at : Addr
  d__law_cell_at : FuncData
  a__law_whole : Addr
  d__law_whole : FuncData
  a__law_mixed : Addr
  d__law_mixed : FuncData
  a__law_value : Addr
  d__law_value : FuncData
  a__law_count : Addr
  d__law_count : FuncData
  a__law_pairs : Addr
  d__law_pairs : FuncData
  a__law_alike : Addr
  d__law_alike : FuncData
  a__law_there : Addr
  d__law_there : FuncData
  a__law_due : Addr
  d__law_due : FuncData
  a__law_behind : Addr
  d__law_behind : FuncData
  a__law_done : Addr
  d__law_done : FuncData
  a__law_tried : Addr
  d__law_tried : FuncData
  a__law_any : Addr
  d__law_any : FuncData
  a_law : Addr
  d_law : FuncData
  g_TillError : mg "TillError" = some (.ref c_TillError)
  x_TillError : PySem.W.excIn K c_TillError [.type "ValueError", .type "Exception", .type "BaseException", .type "object"] "ValueError.__new__" = true
  k_TillError : PySem.W.keepIn K (.ref c_TillError) = true
  b_TillError : PySem.W.subIn K (.ref c_TillError) (.type "BaseException") = some true
  t_TillError : PySem.W.typeIn K (.ref c_TillError) = some (.type "type")
  i_TillError : PySem.W.isClsIn K c_TillError = true
  g_NoTill : mg "NoTill" = some (.ref c_NoTill)
  x_NoTill : PySem.W.excIn K c_NoTill [.type "ValueError", .type "Exception", .type "BaseException", .type "object"] "ValueError.__new__" = true
  k_NoTill : PySem.W.keepIn K (.ref c_NoTill) = true
  b_NoTill : PySem.W.subIn K (.ref c_NoTill) (.type "BaseException") = some true
  t_NoTill : PySem.W.typeIn K (.ref c_NoTill) = some (.type "type")
  i_NoTill : PySem.W.isClsIn K c_NoTill = true
  g_NoKind : mg "NoKind" = some (.ref c_NoKind)
  x_NoKind : PySem.W.excIn K c_NoKind [.type "ValueError", .type "Exception", .type "BaseException", .type "object"] "ValueError.__new__" = true
  k_NoKind : PySem.W.keepIn K (.ref c_NoKind) = true
  b_NoKind : PySem.W.subIn K (.ref c_NoKind) (.type "BaseException") = some true
  t_NoKind : PySem.W.typeIn K (.ref c_NoKind) = some (.type "type")
  i_NoKind : PySem.W.isClsIn K c_NoKind = true
  g_Twice : mg "Twice" = some (.ref c_Twice)
  x_Twice : PySem.W.excIn K c_Twice [.type "ValueError", .type "Exception", .type "BaseException", .type "object"] "ValueError.__new__" = true
  k_Twice : PySem.W.keepIn K (.ref c_Twice) = true
  b_Twice : PySem.W.subIn K (.ref c_Twice) (.type "BaseException") = some true
  t_Twice : PySem.W.typeIn K (.ref c_Twice) = some (.type "type")
  i_Twice : PySem.W.isClsIn K c_Twice = true
  g_NoCount : mg "NoCount" = some (.ref c_NoCount)
  x_NoCount : PySem.W.excIn K c_NoCount [.type "ValueError", .type "Exception", .type "BaseException", .type "object"] "ValueError.__new__" = true
  k_NoCount : PySem.W.keepIn K (.ref c_NoCount) = true
  b_NoCount : PySem.W.subIn K (.ref c_NoCount) (.type "BaseException") = some true
  t_NoCount : PySem.W.typeIn K (.ref c_NoCount) = some (.type "type")
  i_NoCount : PySem.W.isClsIn K c_NoCount = true
  g_NoSum : mg "NoSum" = some (.ref c_NoSum)
  x_NoSum : PySem.W.excIn K c_NoSum [.type "ValueError", .type "Exception", .type "BaseException", .type "object"] "ValueError.__new__" = true
  k_NoSum : PySem.W.keepIn K (.ref c_NoSum) = true
  b_NoSum : PySem.W.subIn K (.ref c_NoSum) (.type "BaseException") = some true
  t_NoSum : PySem.W.typeIn K (.ref c_NoSum) = some (.type "type")
  i_NoSum : PySem.W.isClsIn K c_NoSum = true
  g_TooLittle : mg "TooLittle" = some (.ref c_TooLittle)
  x_TooLittle : PySem.W.excIn K c_TooLittle [.type "ValueError", .type "Exception", .type "BaseException", .type "object"] "ValueError.__new__" = true
  k_TooLittle : PySem.W.keepIn K (.ref c_TooLittle) = true
  b_TooLittle : PySem.W.subIn K (.ref c_TooLittle) (.type "BaseException") = some true
  t_TooLittle : PySem.W.typeIn K (.ref c_TooLittle) = some (.type "type")
  i_TooLittle : PySem.W.isClsIn K c_TooLittle = true
  g_NoChange : mg "NoChange" = some (.ref c_NoChange)
  x_NoChange : PySem.W.excIn K c_NoChange [.type "ValueError", .type "Exception", .type "BaseException", .type "object"] "ValueError.__new__" = true
  k_NoChange : PySem.W.keepIn K (.ref c_NoChange) = true
  b_NoChange : PySem.W.subIn K (.ref c_NoChange) (.type "BaseException") = some true
  t_NoChange : PySem.W.typeIn K (.ref c_NoChange) = some (.type "type")
  i_NoChange : PySem.W.isClsIn K c_NoChange = true
  g_TooFew : mg "TooFew" = some (.ref c_TooFew)
  x_TooFew : PySem.W.excIn K c_TooFew [.type "ValueError", .type "Exception", .type "BaseException", .type "object"] "ValueError.__new__" = true
  k_TooFew : PySem.W.keepIn K (.ref c_TooFew) = true
  b_TooFew : PySem.W.subIn K (.ref c_TooFew) (.type "BaseException") = some true
  t_TooFew : PySem.W.typeIn K (.ref c_TooFew) = some (.type "type")
  i_TooFew : PySem.W.isClsIn K c_TooFew = true
  g_StillHeld : mg "StillHeld" = some (.ref c_StillHeld)
  x_StillHeld : PySem.W.excIn K c_StillHeld [.type "ValueError", .type "Exception", .type "BaseException", .type "object"] "ValueError.__new__" = true
  k_StillHeld : PySem.W.keepIn K (.ref c_StillHeld) = true
  b_StillHeld : PySem.W.subIn K (.ref c_StillHeld) (.type "BaseException") = some true
  t_StillHeld : PySem.W.typeIn K (.ref c_StillHeld) = some (.type "type")
  i_StillHeld : PySem.W.isClsIn K c_StillHeld = true
  g_NoDeed : mg "NoDeed" = some (.ref c_NoDeed)
  x_NoDeed : PySem.W.excIn K c_NoDeed [.type "ValueError", .type "Exception", .type "BaseException", .type "object"] "ValueError.__new__" = true
  k_NoDeed : PySem.W.keepIn K (.ref c_NoDeed) = true
  b_NoDeed : PySem.W.subIn K (.ref c_NoDeed) (.type "BaseException") = some true
  t_NoDeed : PySem.W.typeIn K (.ref c_NoDeed) = some (.type "type")
  i_NoDeed : PySem.W.isClsIn K c_NoDeed = true
  u_NoKind_NoKind : PySem.W.subIn K (.ref c_NoKind) (.ref c_NoKind) = some true
  u_NoKind_NoCount : PySem.W.subIn K (.ref c_NoKind) (.ref c_NoCount) = some false
  u_NoKind_TooFew : PySem.W.subIn K (.ref c_NoKind) (.ref c_TooFew) = some false
  u_NoKind_Twice : PySem.W.subIn K (.ref c_NoKind) (.ref c_Twice) = some false
  u_NoKind_NoTill : PySem.W.subIn K (.ref c_NoKind) (.ref c_NoTill) = some false
  u_NoKind_StillHeld : PySem.W.subIn K (.ref c_NoKind) (.ref c_StillHeld) = some false
  u_NoKind_TillError : PySem.W.subIn K (.ref c_NoKind) (.ref c_TillError) = some true
  u_NoKind_NoChange : PySem.W.subIn K (.ref c_NoKind) (.ref c_NoChange) = some false
  u_NoKind_NoDeed : PySem.W.subIn K (.ref c_NoKind) (.ref c_NoDeed) = some false
  u_NoKind_NoSum : PySem.W.subIn K (.ref c_NoKind) (.ref c_NoSum) = some false
  u_NoKind_TooLittle : PySem.W.subIn K (.ref c_NoKind) (.ref c_TooLittle) = some false
  u_NoCount_NoKind : PySem.W.subIn K (.ref c_NoCount) (.ref c_NoKind) = some false
  u_NoCount_NoCount : PySem.W.subIn K (.ref c_NoCount) (.ref c_NoCount) = some true
  u_NoCount_TooFew : PySem.W.subIn K (.ref c_NoCount) (.ref c_TooFew) = some false
  u_NoCount_Twice : PySem.W.subIn K (.ref c_NoCount) (.ref c_Twice) = some false
  u_NoCount_NoTill : PySem.W.subIn K (.ref c_NoCount) (.ref c_NoTill) = some false
  u_NoCount_StillHeld : PySem.W.subIn K (.ref c_NoCount) (.ref c_StillHeld) = some false
  u_NoCount_TillError : PySem.W.subIn K (.ref c_NoCount) (.ref c_TillError) = some true
  u_NoCount_NoChange : PySem.W.subIn K (.ref c_NoCount) (.ref c_NoChange) = some false
  u_NoCount_NoDeed : PySem.W.subIn K (.ref c_NoCount) (.ref c_NoDeed) = some false
  u_NoCount_NoSum : PySem.W.subIn K (.ref c_NoCount) (.ref c_NoSum) = some false
  u_NoCount_TooLittle : PySem.W.subIn K (.ref c_NoCount) (.ref c_TooLittle) = some false
  u_TooFew_NoKind : PySem.W.subIn K (.ref c_TooFew) (.ref c_NoKind) = some false
  u_TooFew_NoCount : PySem.W.subIn K (.ref c_TooFew) (.ref c_NoCount) = some false
  u_TooFew_TooFew : PySem.W.subIn K (.ref c_TooFew) (.ref c_TooFew) = some true
  u_TooFew_Twice : PySem.W.subIn K (.ref c_TooFew) (.ref c_Twice) = some false
  u_TooFew_NoTill : PySem.W.subIn K (.ref c_TooFew) (.ref c_NoTill) = some false
  u_TooFew_StillHeld : PySem.W.subIn K (.ref c_TooFew) (.ref c_StillHeld) = some false
  u_TooFew_TillError : PySem.W.subIn K (.ref c_TooFew) (.ref c_TillError) = some true
  u_TooFew_NoChange : PySem.W.subIn K (.ref c_TooFew) (.ref c_NoChange) = some false
  u_TooFew_NoDeed : PySem.W.subIn K (.ref c_TooFew) (.ref c_NoDeed) = some false
  u_TooFew_NoSum : PySem.W.subIn K (.ref c_TooFew) (.ref c_NoSum) = some false
  u_TooFew_TooLittle : PySem.W.subIn K (.ref c_TooFew) (.ref c_TooLittle) = some false
  u_Twice_NoKind : PySem.W.subIn K (.ref c_Twice) (.ref c_NoKind) = some false
  u_Twice_NoCount : PySem.W.subIn K (.ref c_Twice) (.ref c_NoCount) = some false
  u_Twice_TooFew : PySem.W.subIn K (.ref c_Twice) (.ref c_TooFew) = some false
  u_Twice_Twice : PySem.W.subIn K (.ref c_Twice) (.ref c_Twice) = some true
  u_Twice_NoTill : PySem.W.subIn K (.ref c_Twice) (.ref c_NoTill) = some false
  u_Twice_StillHeld : PySem.W.subIn K (.ref c_Twice) (.ref c_StillHeld) = some false
  u_Twice_TillError : PySem.W.subIn K (.ref c_Twice) (.ref c_TillError) = some true
  u_Twice_NoChange : PySem.W.subIn K (.ref c_Twice) (.ref c_NoChange) = some false
  u_Twice_NoDeed : PySem.W.subIn K (.ref c_Twice) (.ref c_NoDeed) = some false
  u_Twice_NoSum : PySem.W.subIn K (.ref c_Twice) (.ref c_NoSum) = some false
  u_Twice_TooLittle : PySem.W.subIn K (.ref c_Twice) (.ref c_TooLittle) = some false
  u_NoTill_NoKind : PySem.W.subIn K (.ref c_NoTill) (.ref c_NoKind) = some false
  u_NoTill_NoCount : PySem.W.subIn K (.ref c_NoTill) (.ref c_NoCount) = some false
  u_NoTill_TooFew : PySem.W.subIn K (.ref c_NoTill) (.ref c_TooFew) = some false
  u_NoTill_Twice : PySem.W.subIn K (.ref c_NoTill) (.ref c_Twice) = some false
  u_NoTill_NoTill : PySem.W.subIn K (.ref c_NoTill) (.ref c_NoTill) = some true
  u_NoTill_StillHeld : PySem.W.subIn K (.ref c_NoTill) (.ref c_StillHeld) = some false
  u_NoTill_TillError : PySem.W.subIn K (.ref c_NoTill) (.ref c_TillError) = some true
  u_NoTill_NoChange : PySem.W.subIn K (.ref c_NoTill) (.ref c_NoChange) = some false
  u_NoTill_NoDeed : PySem.W.subIn K (.ref c_NoTill) (.ref c_NoDeed) = some false
  u_NoTill_NoSum : PySem.W.subIn K (.ref c_NoTill) (.ref c_NoSum) = some false
  u_NoTill_TooLittle : PySem.W.subIn K (.ref c_NoTill) (.ref c_TooLittle) = some false
  u_StillHeld_NoKind : PySem.W.subIn K (.ref c_StillHeld) (.ref c_NoKind) = some false
  u_StillHeld_NoCount : PySem.W.subIn K (.ref c_StillHeld) (.ref c_NoCount) = some false
  u_StillHeld_TooFew : PySem.W.subIn K (.ref c_StillHeld) (.ref c_TooFew) = some false
  u_StillHeld_Twice : PySem.W.subIn K (.ref c_StillHeld) (.ref c_Twice) = some false
  u_StillHeld_NoTill : PySem.W.subIn K (.ref c_StillHeld) (.ref c_NoTill) = some false
  u_StillHeld_StillHeld : PySem.W.subIn K (.ref c_StillHeld) (.ref c_StillHeld) = some true
  u_StillHeld_TillError : PySem.W.subIn K (.ref c_StillHeld) (.ref c_TillError) = some true
  u_StillHeld_NoChange : PySem.W.subIn K (.ref c_StillHeld) (.ref c_NoChange) = some false
  u_StillHeld_NoDeed : PySem.W.subIn K (.ref c_StillHeld) (.ref c_NoDeed) = some false
  u_StillHeld_NoSum : PySem.W.subIn K (.ref c_StillHeld) (.ref c_NoSum) = some false
  u_StillHeld_TooLittle : PySem.W.subIn K (.ref c_StillHeld) (.ref c_TooLittle) = some false
  e_NoKind : ExcC K c_NoKind
  z_NoKind : PySem.W.kitOne K (.ref c_NoKind) (.type "ValueError") = some true
  y_NoKind : PySem.W.kitAny K (.ref c_NoKind) [.ref c_NoChange, .ref c_NoDeed, .ref c_NoSum, .ref c_TooLittle] = some false
  e_NoCount : ExcC K c_NoCount
  z_NoCount : PySem.W.kitOne K (.ref c_NoCount) (.type "ValueError") = some true
  y_NoCount : PySem.W.kitAny K (.ref c_NoCount) [.ref c_NoChange, .ref c_NoDeed, .ref c_NoSum, .ref c_TooLittle] = some false
  e_TooFew : ExcC K c_TooFew
  z_TooFew : PySem.W.kitOne K (.ref c_TooFew) (.type "ValueError") = some true
  y_TooFew : PySem.W.kitAny K (.ref c_TooFew) [.ref c_NoChange, .ref c_NoDeed, .ref c_NoSum, .ref c_TooLittle] = some false
  e_Twice : ExcC K c_Twice
  z_Twice : PySem.W.kitOne K (.ref c_Twice) (.type "ValueError") = some true
  y_Twice : PySem.W.kitAny K (.ref c_Twice) [.ref c_NoChange, .ref c_NoDeed, .ref c_NoSum, .ref c_TooLittle] = some false
  e_NoTill : ExcC K c_NoTill
  z_NoTill : PySem.W.kitOne K (.ref c_NoTill) (.type "ValueError") = some true
  y_NoTill : PySem.W.kitAny K (.ref c_NoTill) [.ref c_NoChange, .ref c_NoDeed, .ref c_NoSum, .ref c_TooLittle] = some false
  e_StillHeld : ExcC K c_StillHeld
  z_StillHeld : PySem.W.kitOne K (.ref c_StillHeld) (.type "ValueError") = some true
  y_StillHeld : PySem.W.kitAny K (.ref c_StillHeld) [.ref c_NoChange, .ref c_NoDeed, .ref c_NoSum, .ref c_TooLittle] = some false
  f_check_value : Fun K "check_value" "check_value" s_check_value a_check_value d_check_value
  p_check_value : Binds K d_check_value P_check_value []
  g_check_value : mg "check_value" = some (.ref a_check_value)
  f_check_count : Fun K "check_count" "check_count" s_check_count a_check_count d_check_count
  p_check_count : Binds K d_check_count P_check_count []
  g_check_count : mg "check_count" = some (.ref a_check_count)
  f_count_of : Fun K "count_of" "count_of" s_count_of a_count_of d_count_of
  p_count_of : Binds K d_count_of P_count_of []
  g_count_of : mg "count_of" = some (.ref a_count_of)
  f_brought : Fun K "brought" "brought" s_brought a_brought d_brought
  p_brought : Binds K d_brought P_brought []
  g_brought : mg "brought" = some (.ref a_brought)
  f_fetched : Fun K "fetched" "fetched" s_fetched a_fetched d_fetched
  p_fetched : Binds K d_fetched P_fetched []
  g_fetched : mg "fetched" = some (.ref a_fetched)
  f_kind_in : Fun K "kind_in" "kind_in" s_kind_in a_kind_in d_kind_in
  p_kind_in : Binds K d_kind_in P_kind_in []
  g_kind_in : mg "kind_in" = some (.ref a_kind_in)
  f_kind_out : Fun K "kind_out" "kind_out" s_kind_out a_kind_out d_kind_out
  p_kind_out : Binds K d_kind_out P_kind_out []
  g_kind_out : mg "kind_out" = some (.ref a_kind_out)
  f__with_count : Fun K "_with_count" "_with_count" s__with_count a__with_count d__with_count
  p__with_count : Binds K d__with_count P__with_count []
  g__with_count : mg "_with_count" = some (.ref a__with_count)
  f__law_cell_at : Fun K "_law_cell_at" "_law_cell_at" s__law_cell_at a__law_cell_at d__law_cell_at
  p__law_cell_at : Binds K d__law_cell_at P__law_cell_at []
  g__law_cell_at : mg "_law_cell_at" = some (.ref a__law_cell_at)
  f__law_whole : Fun K "_law_whole" "_law_whole" s__law_whole a__law_whole d__law_whole
  p__law_whole : Binds K d__law_whole P__law_whole []
  g__law_whole : mg "_law_whole" = some (.ref a__law_whole)
  f__law_mixed : Fun K "_law_mixed" "_law_mixed" s__law_mixed a__law_mixed d__law_mixed
  p__law_mixed : Binds K d__law_mixed P__law_mixed []
  g__law_mixed : mg "_law_mixed" = some (.ref a__law_mixed)
  f__law_value : Fun K "_law_value" "_law_value" s__law_value a__law_value d__law_value
  p__law_value : Binds K d__law_value P__law_value []
  g__law_value : mg "_law_value" = some (.ref a__law_value)
  f__law_count : Fun K "_law_count" "_law_count" s__law_count a__law_count d__law_count
  p__law_count : Binds K d__law_count P__law_count []
  g__law_count : mg "_law_count" = some (.ref a__law_count)
  f__law_pairs : Fun K "_law_pairs" "_law_pairs" s__law_pairs a__law_pairs d__law_pairs
  p__law_pairs : Binds K d__law_pairs P__law_pairs []
  g__law_pairs : mg "_law_pairs" = some (.ref a__law_pairs)
  f__law_alike : Fun K "_law_alike" "_law_alike" s__law_alike a__law_alike d__law_alike
  p__law_alike : Binds K d__law_alike P__law_alike []
  g__law_alike : mg "_law_alike" = some (.ref a__law_alike)
  f__law_there : Fun K "_law_there" "_law_there" s__law_there a__law_there d__law_there
  p__law_there : Binds K d__law_there P__law_there []
  g__law_there : mg "_law_there" = some (.ref a__law_there)
  f__law_due : Fun K "_law_due" "_law_due" s__law_due a__law_due d__law_due
  p__law_due : Binds K d__law_due P__law_due []
  g__law_due : mg "_law_due" = some (.ref a__law_due)
  f__law_behind : Fun K "_law_behind" "_law_behind" s__law_behind a__law_behind d__law_behind
  p__law_behind : Binds K d__law_behind P__law_behind []
  g__law_behind : mg "_law_behind" = some (.ref a__law_behind)
  f__law_done : Fun K "_law_done" "_law_done" s__law_done a__law_done d__law_done
  p__law_done : Binds K d__law_done P__law_done []
  g__law_done : mg "_law_done" = some (.ref a__law_done)
  f__law_tried : Fun K "_law_tried" "_law_tried" s__law_tried a__law_tried d__law_tried
  p__law_tried : Binds K d__law_tried P__law_tried []
  g__law_tried : mg "_law_tried" = some (.ref a__law_tried)
  f__law_any : Fun K "_law_any" "_law_any" s__law_any a__law_any d__law_any
  p__law_any : Binds K d__law_any P__law_any []
  g__law_any : mg "_law_any" = some (.ref a__law_any)
  f_law : Fun K "law" "law" s_law a_law d_law
  p_law : Binds K d_law P_law []
  g_law : mg "law" = some (.ref a_law)
  w_MOST_KINDS : ∃ t, mg "MOST_KINDS" = some (.int 10 t)
  w_MOST_VALUE : ∃ t, mg "MOST_VALUE" = some (.int 1000 t)
  w_MOST_COUNT : ∃ t, mg "MOST_COUNT" = some (.int 1000000000 t)
  m_ValueError : mg "ValueError" = none
  m_bool : mg "bool" = none
  m_int : mg "int" = none
  m_isinstance : mg "isinstance" = none
  m_len : mg "len" = none
  m_list : mg "list" = none
  m_max : mg "max" = none
  m_range : mg "range" = none
  m_sorted : mg "sorted" = none
  m_tuple : mg "tuple" = none
section
variable {P : Program} {w : World} {K : PySem.W.Frag} {mg : Str → Option Value} {base : Heap}
/-! ### small things over the layer -/
abbrev CXR (P : Program) (w : World) : CXT := L2.CX P w
abbrev Ex := Evl.Ex
theorem Ex.rfl' {H : Hp} : Ex H H := fun _ _ h => h
theorem Ex.tr {H H1 H2 : Hp} (a : Ex H H1) (b : Ex H1 H2) : Ex H H2 := Evl.Ex.trans a b
theorem Ex.nw {H : Hp} {p : Addr} {o : HO} (h : H p = none) : Ex H (upd H p o) := Evl.Ex.new h
theorem Ex.seq {K : PySem.W.Frag} {H H' : Hp} {a : Addr} {xs : List V} (e : Ex H H') (h : SqL K H a xs) : SqL K H' a xs := Evl.ex_l e h
theorem ipR {X : Cx} {op : Operator} {r : R2} (ho : OpR X (inplaceOp op) r) : PIp X op r := fun pins s σ H x y v u Q I rx ry h => ho pins s σ H x y v u Q I rx ry h
theorem ip_mulR {X : Cx} : PIp X .Mult (rI CMul fun i j => .int (i * j)) := ipR iop_mul
/-- isinstance of the caught error: a class, a tuple of classes just laid; the error's class is told in the reading -/
def rIsE1 (K : PySem.W.Frag) (cls : Value) (d : Option Addr) (a : Addr) : List V → Hp → VK → Prop := fun xs H Q => ∃ (D : Addr) (c : V) (cv : Value) (b : Bool), cls = .ref D ∧ d = none ∧ ExcC K D ∧ xs = [.ref a, c] ∧ (∀ u, RelV c u → u = cv) ∧ PySem.W.kitOne K (.ref D) cv = some b ∧ Q (.bl b) H
theorem call_isE1 {X : Cx} {a : Addr} {cls : Value} {d : Option Addr} {oe : Obj} {pn : List (Addr × Obj)} (hz : Zc cls d oe) (hf : ∃ vs, oe.data = .fields vs) : CallR (X.suite a ((a, oe) :: pn)) (.builtin "isinstance") (rIsE1 X.K cls d a) := by
  intro pins s σ H xs us Q I r h
  obtain ⟨D, c, cv, b, rfl, rfl, C, rfl, hcv, e, q⟩ := h
  exact call_isE C hz hf pins s σ H _ us Q I r ⟨c, cv, b, rfl, hcv, e, q⟩
def rIsET (K : PySem.W.Frag) (cls : Value) (d : Option Addr) (a : Addr) : List V → Hp → VK → Prop := fun xs H Q => ∃ (D tp : Addr) (cs : List V) (us : List Value) (b : Bool), cls = .ref D ∧ d = none ∧ ExcC K D ∧ xs = [.ref a, .ref tp] ∧ H tp = some (.tup cs) ∧ Paired ClsV cs us ∧ PySem.W.kitAny K (.ref D) us = some b ∧ Q (.bl b) H
theorem call_isET {X : Cx} {a : Addr} {cls : Value} {d : Option Addr} {oe : Obj} {pn : List (Addr × Obj)} (hz : Zc cls d oe) (hf : ∃ fs, oe.data = .fields fs) : CallR (X.suite a ((a, oe) :: pn)) (.builtin "isinstance") (rIsET X.K cls d a) := by
  intro pins s σ H xs us Q I r h
  obtain ⟨D, tp, cs, ws, b, rfl, rfl, C, rfl, hT, k, e, q⟩ := h
  obtain ⟨w1, w2, rfl, p1, p2⟩ := vals2 r
  cases (show w2 = Value.ref tp from p2)
  cases (show w1 = Value.ref a from p1)
  obtain ⟨hgt, _⟩ := I.pin (a, oe) (List.mem_append.mpr (.inl List.mem_cons_self))
  obtain ⟨fs, hv⟩ := hf
  have J : PySem.W.InstAt s.heap a oe D none := by
    obtain ⟨oc, od, odt, oss⟩ := oe
    obtain ⟨k1, k2⟩ := hz
    dsimp only at k1 k2 hv
    subst k1 k2 hv
    exact ⟨hgt, rfl, rfl, trivial⟩
  obtain ⟨_, zs, rv, o, k1, k2, n, k3⟩ := (show ObjOk X.prog X.w H s.heap tp (.tup cs) from I.hok tp _ hT)
  have e3 := ClsV.all k rv
  subst e3
  obtain ⟨oc, od, dt, sl⟩ := o
  simp only at k2 k3
  subst k2 k3
  exact PySem.W.kia_tup (PySem.W.handS_kitx_exc C.hg C.hk C.hs C.hd C.ha C.hn C.ht C.hm) I.kIn J k1 e (fun z => nomatch z) fun tk => ⟨.bl b, H, I.tok tk, rfl, q⟩
/-- len, list(x), told by a K that is named -/
abbrev rLenK (K : PySem.W.Frag) : List V → Hp → VK → Prop := fun zs H Q => ∃ p ys, zs = [.ref p] ∧ (SqL K H p ys ∨ SqT K H p ys) ∧ Q (.int ys.length) H
abbrev rListK (K : PySem.W.Frag) : List V → Hp → VK → Prop := fun zs H Q => ∃ p ys, zs = [.ref p] ∧ (SqL K H p ys ∨ SqT K H p ys) ∧ ∀ l, H l = none → Q (.ref l) (upd H l (.lst ys))
/-- pairs of ints, each a tracked tuple -/
def Prs (H : Hp) : List V → List (Int × Int) → Prop := Paired fun x p => ∃ t, x = .ref t ∧ H t = some (.tup [.int p.1, .int p.2])
theorem Prs.ex {H H' : Hp} (e : Ex H H') : ∀ {xs : List V} {ps : List (Int × Int)}, Prs H xs ps → Prs H' xs ps
  | _, _, .nil => .nil
  | _, _, .cons ⟨t, h1, h2⟩ r => .cons ⟨t, h1, e _ _ h2⟩ (Prs.ex e r)
theorem Prs.len {H : Hp} {xs : List V} {ps : List (Int × Int)} (h : Prs H xs ps) : xs.length = ps.length := Paired.length h
theorem Prs.snoc {H : Hp} : ∀ {xs : List V} {ps : List (Int × Int)} {x : V} {p : Int × Int}, Prs H xs ps → (∃ t, x = .ref t ∧ H t = some (.tup [.int p.1, .int p.2])) → Prs H (xs ++ [x]) (ps ++ [p])
  | _, _, _, _, .nil, h => .cons h .nil
  | _, _, _, _, .cons a r, h => .cons a (Prs.snoc r h)
theorem Prs.get {H : Hp} : ∀ {xs : List V} {ps : List (Int × Int)} {i : Nat} {x : V}, Prs H xs ps → xs[i]? = some x → ∃ p t, ps[i]? = some p ∧ x = .ref t ∧ H t = some (.tup [.int p.1, .int p.2])
  | _, _, _, _, .nil, e => by simp at e
  | _, _, 0, _, .cons (b := p) ⟨t, h1, h2⟩ _, e => by simp at e; subst e; exact ⟨p, t, by simp, h1, h2⟩
  | _, _, i + 1, x, .cons _ r, e => by
    obtain ⟨p, t, h1, h2⟩ := Prs.get (i := i) (x := x) r (by simpa using e)
    exact ⟨p, t, by simpa using h1, h2⟩
theorem Prs.getL {H : Hp} : ∀ {xs : List V} {ps : List (Int × Int)} {i : Nat} {p : Int × Int}, Prs H xs ps → ps[i]? = some p → ∃ t, xs[i]? = some (.ref t) ∧ H t = some (.tup [.int p.1, .int p.2])
  | _, _, _, _, .nil, e => by simp at e
  | _, _, 0, _, .cons ⟨t, h1, h2⟩ _, e => by simp at e; subst e; exact ⟨t, by simpa using h1, h2⟩
  | _, _, i + 1, p, .cons _ r, e => by
    obtain ⟨t, h1, h2⟩ := Prs.getL (i := i) (p := p) r (by simpa using e)
    exact ⟨t, by simpa using h1, h2⟩
/-- a till (or purse): a list of such pairs -/
def Till (K : PySem.W.Frag) (H : Hp) (a : Addr) (ps : List (Int × Int)) : Prop := ∃ xs, SqL K H a xs ∧ Prs H xs ps
theorem Till.ex {K : PySem.W.Frag} {H H' : Hp} {a : Addr} {ps : List (Int × Int)} (e : Ex H H') (h : Till K H a ps) : Till K H' a ps :=
  let ⟨xs, h1, h2⟩ := h; ⟨xs, Ex.seq e h1, h2.ex e⟩
/-- what a def that gives no new list answers -/
def Ret (v : V) (H : Hp) (Q : VK) : Prop := ∀ H2, Ex H H2 → Q v H2
theorem Ret.at {v : V} {H H' : Hp} {Q : VK} (k : Ret v H Q) (e : Ex H H') : Q v H' := k H' e
theorem len63 {n : Nat} (h : n ≤ 1000000) : n ≤ sizeLine := Nat.le_trans h (by decide)
theorem len63' {n : Nat} (h : n < 1000000) : n < sizeLine := Nat.lt_of_lt_of_le h (by decide)
theorem iteD {c A B : Prop} [Decidable c] (h1 : c → A) (h2 : ¬ c → B) : if decide c = true then A else B := by
  by_cases h : c
  · rw [if_pos (decide_eq_true h)]; exact h1 h
  · rw [if_neg (by simpa using h)]; exact h2 h
theorem iteDN {c A B : Prop} [Decidable c] (h1 : ¬ c → A) (h2 : c → B) : if (!decide c) = true then A else B := by
  by_cases h : c
  · rw [if_neg (by simpa using h)]; exact h2 h
  · rw [if_pos (by simpa using h)]; exact h1 h
theorem iteVI {i j : Int} {A B : Prop} (h1 : i = j → A) (h2 : ¬ i = j → B) : if decide (V.int i = V.int j) = true then A else B :=
  iteD (fun e => h1 (V.int.inj e)) fun e => h2 fun z => e (congrArg V.int z)
theorem iteVN {i j : Int} {A B : Prop} (h1 : ¬ i = j → A) (h2 : i = j → B) : if (!decide (V.int i = V.int j)) = true then A else B :=
  iteDN (fun e => h1 fun z => e (congrArg V.int z)) fun e => h2 (V.int.inj e)
theorem iteB {b : Bool} {A B : Prop} (h1 : b = true → A) (h2 : b = false → B) : if b = true then A else B := by
  cases b with
  | true => exact iteT (h1 rfl)
  | false => exact iteF (h2 rfl)
/-- what «except D» says of an error of the class C -/
theorem exm_mk {K : PySem.W.Frag} {C D : Addr} {b : Bool} (h1 : PySem.W.subIn K (.ref D) (.type "BaseException") = some true) (h2 : PySem.W.isClsIn K D = true) (h3 : PySem.W.typeIn K (.ref D) = some (.type "type")) (h4 : PySem.W.subIn K (.ref C) (.ref D) = some b) :
    PySem.W.exmOne K (.ref C) (.ref D) = some b := by
  have e1 : (PySem.W.subIn K (.ref D) (.type "BaseException") == some true) = true := by rw [h1] <;> rfl
  have e2 : ((PySem.W.clsIn K D).isSome && PySem.W.typeIn K (.ref D) == some (.type "type")) = true := by
    have h2' : (PySem.W.clsIn K D).isSome = true := h2
    rw [h2', h3] <;> rfl
  show (if (PySem.W.subIn K (.ref D) (.type "BaseException") == some true) = true then (if ((PySem.W.clsIn K D).isSome && PySem.W.typeIn K (.ref D) == some (.type "type")) = true then PySem.W.subIn K (.ref C) (.ref D) else none) else none) = some b
  rw [if_pos e1, if_pos e2]
  exact h4
theorem Ex.mu {H H' : Hp} {p : Addr} {o : HO} (e : Ex H H') (h : H p = none) : Ex H (upd H' p o) := Evl.Ex.mut e h
theorem Prs.up {H : Hp} {f : Addr} {o : HO} (hf : ∀ ys, H f ≠ some (.tup ys)) : ∀ {xs : List V} {ps : List (Int × Int)}, Prs H xs ps → Prs (upd H f o) xs ps
  | _, _, .nil => .nil
  | _, _, .cons ⟨t, h1, h2⟩ r => .cons ⟨t, h1, by rw [upd_ne fun e => hf _ (e ▸ h2)]; exact h2⟩ (Prs.up hf r)
/-- the pair that stands at an address -/
def pairAt (H : Hp) : V → Int × Int
  | .ref t => match H t with
    | some (.tup [.int i, .int j]) => (i, j)
    | _ => (0, 0)
  | _ => (0, 0)
theorem pairAt_eq {H : Hp} {t : Addr} {i j : Int} (h : H t = some (.tup [.int i, .int j])) : pairAt H (.ref t) = (i, j) := by
  show (match H t with | some (.tup [.int i, .int j]) => (i, j) | _ => (0, 0)) = (i, j)
  rw [h]
theorem Prs.map {H : Hp} : ∀ {xs : List V} {ps : List (Int × Int)}, Prs H xs ps → ps = xs.map (pairAt H)
  | _, _, .nil => rfl
  | _, _, .cons ⟨t, h1, h2⟩ r => by rw [List.map_cons, ← Prs.map r, h1, pairAt_eq h2]
theorem Prs.all {H : Hp} {xs : List V} {ps : List (Int × Int)} (h : Prs H xs ps) : ∀ x ∈ xs, ∃ t, x = V.ref t ∧ H t = some (.tup [.int (pairAt H x).1, .int (pairAt H x).2]) := by
  intro x hx
  obtain ⟨i, hi, e⟩ := List.getElem_of_mem hx
  obtain ⟨p, t, h1, h2, h3⟩ := Prs.get h (by rw [List.getElem?_eq_getElem hi, e])
  refine ⟨t, h2, ?_⟩
  rw [h2, pairAt_eq h3]
  exact h3
theorem Prs.of {H : Hp} : ∀ {xs : List V}, (∀ x ∈ xs, ∃ t, x = V.ref t ∧ H t = some (.tup [.int (pairAt H x).1, .int (pairAt H x).2])) → Prs H xs (xs.map (pairAt H))
  | [], _ => .nil
  | x :: xs, h => .cons (h x List.mem_cons_self) (Prs.of fun y hy => h y (List.mem_cons_of_mem _ hy))
/-- the pairs rise by value and are apart -/
def Rising (ps : List (Int × Int)) : Prop := ps.Pairwise fun p q => p.1 < q.1
theorem rising_of {H : Hp} {ys : List V} (hs : SrtO.Srtd (ltP (pairAt H)) ys) (nd : ((ys.map (pairAt H)).map (·.1)).Nodup) : Rising (ys.map (pairAt H)) := by
  unfold Rising
  rw [List.pairwise_map]
  rw [List.map_map, List.Nodup, List.pairwise_map] at nd
  refine (hs.and nd).imp ?_
  intro a b h
  have h1 := SrtO.lexB_no.mp h.1
  have h2 : (pairAt H a).1 ≠ (pairAt H b).1 := h.2
  omega
/-- sorted of such pairs -/
theorem sorted_prs {H : Hp} {xs ys : List V} {ps : List (Int × Int)} (hp : Prs H xs ps) (nd : (ps.map (·.1)).Nodup) (h1 : SrtO.Srtd (ltP (pairAt H)) ys) (h2 : SrtO.Stb (ltP (pairAt H)) ys xs) :
    ∃ qs, Prs H ys qs ∧ qs.Perm ps ∧ Rising qs := by
  have hpm : (ys.map (pairAt H)).Perm ps := by
    rw [hp.map]
    exact h2.perm.map _
  exact ⟨ys.map (pairAt H), Prs.of fun y hy => hp.all y (h2.perm.mem_iff.mp hy), hpm, rising_of h1 ((hpm.map _).nodup_iff.mpr nd)⟩
/-- what a till drawn here is: 1 to 10 kinds, apart, in bounds -/
structure Drawn (ps : List (Int × Int)) : Prop where
  nd : (ps.map (·.1)).Nodup
  val : ∀ p ∈ ps, 1 ≤ p.1 ∧ p.1 ≤ 1000
  cnt : ∀ p ∈ ps, 0 ≤ p.2 ∧ p.2 ≤ 1000000000
theorem Drawn.perm {ps qs : List (Int × Int)} (d : Drawn ps) (h : qs.Perm ps) : Drawn qs :=
  ⟨(h.map _).nodup_iff.mpr d.nd, fun p hp => d.val p (h.mem_iff.mp hp), fun p hp => d.cnt p (h.mem_iff.mp hp)⟩
/-- a till as data -/
def dP (p : Int × Int) : PyData := .tuple [.int p.1, .int p.2]
theorem prs_dp {K : PySem.W.Frag} {H : Hp} : ∀ {xs : List V} {ps : List (Int × Int)}, Prs H xs ps → DpAll K H xs (ps.map dP)
  | _, _, .nil => .nil
  | _, _, .cons ⟨t, h1, h2⟩ r => .cons (h1 ▸ .tup (.of h2) (.cons (.int _) (.cons (.int _) .nil))) (prs_dp r)
theorem till_dp {K : PySem.W.Frag} {H : Hp} {a : Addr} {ps : List (Int × Int)} (h : Till K H a ps) : Dp K H (.ref a) (.list (ps.map dP)) :=
  let ⟨_, h1, h2⟩ := h; .lst h1 (prs_dp h2)
theorem canLay_dPs : ∀ ps : List (Int × Int), PyData.canLayAll0 (ps.map dP) = true
  | [] => rfl
  | p :: r => by
    rw [List.map_cons]
    show (PyData.canLay0 (dP p) && PyData.canLayAll0 (r.map dP)) = true
    rw [canLay_dPs r]
    rfl
theorem depth_dPs : ∀ ps : List (Int × Int), PyData.depthAll (ps.map dP) ≤ 3
  | [] => by decide
  | p :: r => by
    have h := depth_dPs r
    rw [List.map_cons]
    show max (PyData.depth (dP p)) (PyData.depthAll (r.map dP)) ≤ 3
    have : PyData.depth (dP p) ≤ 3 := by
      show PyData.depth (.tuple [.int p.1, .int p.2]) ≤ 3
      simp [PyData.depth, PyData.depthAll]
    omega
theorem shaped_till (ps : List (Int × Int)) : SeqAt.shaped (.list (ps.map dP)) = true := by
  unfold SeqAt.shaped
  have h1 : PyData.canLay0 (.list (ps.map dP)) = true := canLay_dPs ps
  have h2 : PyData.depth (.list (ps.map dP)) ≤ 64 := by
    have := depth_dPs ps
    simp only [PyData.depth]
    omega
  rw [h1, decide_eq_true h2]
  rfl
theorem eqv_of_shaped {d : PyData} (h : SeqAt.shaped d = true) : PyData.eqv d d = true := PySem.SeqAt.eqv_refl d (SeqAt.canLay_of_shaped h)
theorem t_yes {A B : Hp → Prop} {σ : L2.St} {H : Hp} (h : A H) : tYes σ H (fun b H3 => if b = true then A H3 else B H3) := by
  show if true = true then A H else B H
  rw [if_pos rfl]
  exact h
theorem canLay_ints : ∀ l : List Int, PyData.canLayAll0 (l.map PyData.int) = true
  | [] => rfl
  | p :: r => by
    rw [List.map_cons]
    show (PyData.canLay0 (.int p) && PyData.canLayAll0 (r.map PyData.int)) = true
    rw [canLay_ints r]
    rfl
theorem depth_ints : ∀ l : List Int, PyData.depthAll (l.map PyData.int) ≤ 3
  | [] => by decide
  | p :: r => by
    have h := depth_ints r
    rw [List.map_cons]
    show max (PyData.depth (.int p)) (PyData.depthAll (r.map PyData.int)) ≤ 3
    have : PyData.depth (.int p) ≤ 3 := by simp [PyData.depth]
    omega
theorem shaped_ints (l : List Int) : SeqAt.shaped (.list (l.map PyData.int)) = true := by
  unfold SeqAt.shaped
  have h1 : PyData.canLay0 (.list (l.map PyData.int)) = true := canLay_ints l
  have h2 : PyData.depth (.list (l.map PyData.int)) ≤ 64 := by
    have := depth_ints l
    simp only [PyData.depth]
    omega
  rw [h1, decide_eq_true h2]
  rfl
theorem kone_own {K : PySem.W.Frag} {D C : Addr} {b : Bool} (hn : D ≠ C) (h2 : PySem.W.isClsIn K C = true) (h3 : PySem.W.typeIn K (.ref C) = some (.type "type")) (h4 : PySem.W.subIn K (.ref D) (.ref C) = some b) : PySem.W.kitOne K (.ref D) (.ref C) = some b := by
  have e1 : ¬ (Value.ref D == Value.ref C) = true := fun z => hn (Value.ref.inj (beq_iff_eq.mp z))
  have e2 : ((PySem.W.clsIn K C).isSome && PySem.W.typeIn K (.ref C) == some (.type "type")) = true := by
    have h2' : (PySem.W.clsIn K C).isSome = true := h2
    rw [h2', h3] <;> rfl
  unfold PySem.W.kitOne
  rw [if_neg e1]
  show (if ((PySem.W.clsIn K C).isSome && PySem.W.typeIn K (.ref C) == some (.type "type")) = true then PySem.W.subIn K (.ref D) (.ref C) else none) = some b
  rw [if_pos e2]
  exact h4
theorem kone_self {K : PySem.W.Frag} {D : Addr} : PySem.W.kitOne K (.ref D) (.ref D) = some true := by
  unfold PySem.W.kitOne
  rw [if_pos (beq_self_eq_true _)]
theorem kone_ty {K : PySem.W.Frag} {D : Addr} (h : PySem.W.subIn K (.ref D) (.type "ValueError") = some true) : PySem.W.kitOne K (.ref D) (.type "ValueError") = some true := by
  have e1 : ¬ (Value.ref D == Value.type "ValueError") = true := fun z => by cases beq_iff_eq.mp z
  unfold PySem.W.kitOne
  rw [if_neg e1]
  show (if PySem.W.kitMeta "ValueError" = true then PySem.W.subIn K (.ref D) (.type "ValueError") else none) = some true
  rw [if_pos (by decide +kernel)]
  exact h
theorem kany_f {K : PySem.W.Frag} {t c : Value} {cs : List Value} {r : Bool} (h : PySem.W.kitOne K t c = some false) (hr : PySem.W.kitAny K t cs = some r) : PySem.W.kitAny K t (c :: cs) = some r :=
  kitAny_cons h (fun _ => hr) fun z => nomatch z
theorem kany_t {K : PySem.W.Frag} {t c : Value} {cs : List Value} (h : PySem.W.kitOne K t c = some true) : PySem.W.kitAny K t (c :: cs) = some true :=
  kitAny_cons h (fun z => nomatch z) fun _ => rfl
theorem take_snoc {α : Type} {l : List α} {i : Nat} {x : α} (h : l[i]? = some x) : l.take (i + 1) = l.take i ++ [x] := by
  rw [List.take_add_one, h]
  rfl
theorem drop_at {α : Type} {l : List α} {i : Nat} {x : α} (h : l[i]? = some x) : l.drop i = x :: l.drop (i + 1) := by
  obtain ⟨hi, e⟩ := List.getElem?_eq_some_iff.mp h
  rw [List.drop_eq_getElem_cons hi, e]
theorem none_back {H H' : Hp} {p : Addr} (ex : Ex H H') (h : H' p = none) : H p = none := by
  cases z : H p with
  | none => rfl
  | some o => rw [ex _ _ z] at h; cases h
theorem Prs.take {H : Hp} : ∀ {xs : List V} {ps : List (Int × Int)} (n : Nat), Prs H xs ps → Prs H (xs.take n) (ps.take n)
  | _, _, 0, _ => .nil
  | _, _, _ + 1, .nil => .nil
  | _, _, n + 1, .cons h r => .cons h (Prs.take n r)
theorem Prs.drop {H : Hp} : ∀ {xs : List V} {ps : List (Int × Int)} (n : Nat), Prs H xs ps → Prs H (xs.drop n) (ps.drop n)
  | _, _, 0, h => h
  | _, _, _ + 1, .nil => .nil
  | _, _, n + 1, .cons h r => Prs.drop n r
theorem Prs.app {H : Hp} : ∀ {xs ys : List V} {ps qs : List (Int × Int)}, Prs H xs ps → Prs H ys qs → Prs H (xs ++ ys) (ps ++ qs)
  | _, _, _, _, .nil, h => h
  | _, _, _, _, .cons a r, h => .cons a (Prs.app r h)
theorem cut_take (xs : List V) (k : Nat) (h : k ≤ xs.length) : cutV xs none (some (k : Int)) = xs.take k := by
  unfold cutV
  rw [HT.sIx_none, HT.sIx_nat, List.drop_zero, Nat.sub_zero, Nat.min_eq_left h]
theorem cut_drop (xs : List V) (k : Nat) (h : k ≤ xs.length) : cutV xs (some (k : Int)) none = xs.drop k := by
  unfold cutV
  rw [HT.sIx_none, HT.sIx_nat, Nat.min_eq_left h, List.take_of_length_le (by rw [List.length_drop]; exact Nat.le_refl _)]
theorem seq_at {i : Int} {n : Nat} (h0 : 0 ≤ i) (h1 : i < n) : seqIndex? i n = some i.toNat := by
  have h2 : ¬ i < 0 := by omega
  simp [seqIndex?, h2, h0, h1]
theorem nodup_at {α : Type} {l : List α} {i j : Nat} {x : α} (h : l.Nodup) (hi : l[i]? = some x) (hj : l[j]? = some x) : i = j := by
  obtain ⟨h1, e1⟩ := List.getElem?_eq_some_iff.mp hi
  obtain ⟨h2, e2⟩ := List.getElem?_eq_some_iff.mp hj
  rcases Nat.lt_trichotomy i j with z | z | z
  · exact absurd (e1.trans e2.symm) (List.pairwise_iff_getElem.mp h i j h1 h2 z)
  · exact z
  · exact absurd (e2.trans e1.symm) (List.pairwise_iff_getElem.mp h j i h2 h1 z)
theorem Prs.keep {H H' : Hp} : ∀ {xs : List V} {ps : List (Int × Int)}, Prs H xs ps → (∀ t zs, H t = some (.tup zs) → H' t = some (.tup zs)) → Prs H' xs ps
  | _, _, .nil, _ => .nil
  | _, _, .cons ⟨t, h1, h2⟩ r, k => .cons ⟨t, h1, k _ _ h2⟩ (Prs.keep r k)
theorem take_succ_map {α β : Type} {l : List α} {i : Nat} {x : α} (f : α → β) (h : l[i]? = some x) : (l.take (i + 1)).map f = (l.take i).map f ++ [f x] := by
  rw [List.take_add_one, h, List.map_append]
  rfl
theorem rising_nd {ps : List (Int × Int)} (h : Rising ps) : (ps.map (·.1)).Nodup := by
  rw [List.Nodup, List.pairwise_map]
  exact h.imp fun z e => by omega
/-! ### what the law draws -/
def cell (ns : List Int) (k : Nat) : Int := ns.getD k 0
def mixed (c k : Int) : Int := (c + 7919 * k) * 48271 % 2147483647
theorem mixed_nn (c k : Int) : 0 ≤ mixed c k := Int.emod_nonneg _ (by decide)
theorem mixed_lt (c k : Int) : mixed c k < 2147483647 := Int.emod_lt_of_pos _ (by decide)
def spCellAt (K : PySem.W.Frag) : Sp := fun vs H Q _ => ∃ (a : Addr) (ns : List Int) (k : Nat), vs = [.ref a, .int k] ∧ SqL K H a (ns.map V.int) ∧ Q (.int (cell ns k)) H
theorem ok_cell_at (T : Tx K mg) : FnOk P w K mg base CX0 1 T.a__law_cell_at T.d__law_cell_at P__law_cell_at (spCellAt K) := by
  refine T.f__law_cell_at.ok sc__law_cell_at (fun vs H Q E h => ?_) (fun cdv A outer s H vs Q E hr h => ?_)
  · obtain ⟨a, ns, k, rfl, _⟩ := h
    rfl
  · obtain ⟨a, ns, k, rfl, hS, q⟩ := h
    refine ⟨_, (pss_cons (ps_if (pt_cmpR op_lt (pv 1) (pe_callB call_len_seq (by rfl) T.m_len (by decide +kernel) (pa_cons (pv 0) pa_nil)) (nomark _))
      (pss_one (ps_ret (pe_ix ix_list (pv 0) (pv 1) (fun _ _ => rfl))))
      pss_nil)
    (pss_one (ps_ret pe_int))), ?_⟩
    refine ⟨_, rfl, _, rfl, a, _, rfl, .inl hS, _, _, rfl, rfl, _, rfl, ite2 (fun e => ?_) (fun e => ?_)⟩
    · have e1 : (k : Int) < ((ns.map V.int).length : Int) := of_decide_eq_true e
      rw [List.length_map] at e1
      have e2 : k < ns.length := by omega
      refine ⟨_, rfl, _, rfl, a, _, _, .int (cell ns k), rfl, rfl, hS, atI_nat ?_, q⟩
      rw [List.getElem?_map, List.getElem?_eq_getElem e2]
      show some (V.int ns[k]) = _
      unfold cell
      rw [List.getD_eq_getElem?_getD, List.getElem?_eq_getElem e2]
      rfl
    · have e1 : ¬ (k : Int) < ((ns.map V.int).length : Int) := fun z => e (decide_eq_true z)
      rw [List.length_map] at e1
      have e2 : cell ns k = 0 := by
        unfold cell
        rw [List.getD_eq_getElem?_getD, List.getElem?_eq_none (by omega)]
        rfl
      rw [e2] at q
      exact q
def spMixed : Sp := fun vs H Q _ => ∃ c k, vs = [.int c, .int k] ∧ (-(2 ^ 64) < k ∧ k < 2 ^ 64) ∧ Q (.int (mixed c k)) H
theorem ok_mixed (T : Tx K mg) : FnOk P w K mg base CX0 1 T.a__law_mixed T.d__law_mixed P__law_mixed spMixed := by
  refine T.f__law_mixed.ok sc__law_mixed (fun vs H Q E h => ?_) (fun cdv A outer s H vs Q E hr h => ?_)
  · obtain ⟨c, k, rfl, _⟩ := h
    rfl
  · obtain ⟨c, k, rfl, hk, q⟩ := h
    refine ⟨_, (pss_one (ps_ret (pe_op op_mod (pe_op op_mul (pe_op op_add (pv 0) (pe_op op_mul pe_int (pv 1))) pe_int) pe_int))), ?_⟩
    repeat (first | refine ⟨_, rfl, ?_⟩ | refine ⟨(by show (0 : Int) < _; decide), ?_⟩ | refine ⟨⟨by decide, by decide⟩, ?_⟩ | refine ⟨.inr ⟨by decide, by decide⟩, ?_⟩ | refine ⟨.inl ⟨by decide, by decide⟩, ?_⟩ | refine ⟨⟨by decide, by decide, by decide⟩, ?_⟩ | refine ⟨_, _, rfl, rfl, ?_⟩ | refine ⟨rfl, _, rfl, ?_⟩)
    exact q
def menu : List Int := [1, 2, 5, 10, 20, 50, 100, 200, 500, 1000]
theorem menu_in : ∀ i : Nat, i < 10 → 1 ≤ menu.getD i 0 ∧ menu.getD i 0 ≤ 1000 := by decide
theorem menu_at {ms : List Int} {i : Int} {n : Nat} (hl : ms.length = n) (h0 : 0 ≤ i) (h1 : i < n) : atI (ms.map V.int) i = some (.int (ms.getD i.toNat 0)) := by
  have hn : ((i.toNat : Nat) : Int) = i := Int.toNat_of_nonneg h0
  have hlt : i.toNat < ms.length := by omega
  refine at_of hn.symm ?_
  rw [List.getElem?_map, List.getElem?_eq_getElem hlt, List.getD_eq_getElem?_getD, List.getElem?_eq_getElem hlt]
  rfl
def value (c k : Int) : Int := if c % 3 = 0 then menu.getD (mixed c k % 10).toNat 0 else if c % 3 = 1 then 1 + mixed c k % 30 else 1 + mixed c k % 1000
theorem value_in (c k : Int) : 1 ≤ value c k ∧ value c k ≤ 1000 := by
  unfold value
  split
  · exact menu_in _ (by have := Int.emod_lt_of_pos (mixed c k) (by decide : (0 : Int) < 10); have := Int.emod_nonneg (mixed c k) (by decide : (10 : Int) ≠ 0); omega)
  · split <;> omega
def spValue : Sp := fun vs H Q _ => ∃ c k, vs = [.int c, .int k] ∧ (-(2 ^ 64) < k ∧ k < 2 ^ 64) ∧ Ret (.int (value c k)) H Q
theorem ok_value (T : Tx K mg) : FnOk P w K mg base CX0 2 T.a__law_value T.d__law_value P__law_value spValue := by
  have G__law_mixed := ok_mixed (P := P) (w := w) (base := base) T
  refine T.f__law_value.ok sc__law_value (fun vs H Q E h => ?_) (fun cdv A outer s H vs Q E hr h => ?_)
  · obtain ⟨c, k, rfl, _⟩ := h
    rfl
  · obtain ⟨c, k, rfl, hk, q⟩ := h
    refine ⟨_, (pss_cons (ps_set (i := 2) sc__law_value.nd rfl (.inl rfl) (pe_call G__law_mixed (hr.mono (by decide)) (by rfl) T.g__law_mixed T.f__law_mixed.kp T.p__law_mixed .nil pass0 (pa_cons (pv 0) (pa_cons (pv 1) pa_nil))))
    (pss_cons (ps_if (pt_cmpR op_eq (pe_op op_mod (pv 0) pe_int) pe_int (nomark _))
      (pss_one (ps_ret (pe_ix ix_list (pe_lst (pa_cons pe_int (pa_cons pe_int (pa_cons pe_int (pa_cons pe_int (pa_cons pe_int (pa_cons pe_int (pa_cons pe_int (pa_cons pe_int (pa_cons pe_int (pa_cons pe_int pa_nil))))))))))) (pe_op op_mod (pv 2) pe_int) (fun _ _ => rfl))))
      pss_nil)
    (pss_cons (ps_if (pt_cmpR op_eq (pe_op op_mod (pv 0) pe_int) pe_int (nomark _))
      (pss_one (ps_ret (pe_op op_add pe_int (pe_op op_mod (pv 2) pe_int))))
      pss_nil)
    (pss_one (ps_ret (pe_op op_add pe_int (pe_op op_mod (pv 2) pe_int))))))), ?_⟩
    unfold value at q
    repeat (first | refine ⟨_, rfl, ?_⟩ | refine ⟨(by show (0 : Int) < _; decide), ?_⟩ | refine ⟨⟨by decide, by decide⟩, ?_⟩ | refine ⟨.inr ⟨by decide, by decide⟩, ?_⟩ | refine ⟨.inl ⟨by decide, by decide⟩, ?_⟩ | refine ⟨⟨by decide, by decide, by decide⟩, ?_⟩ | refine ⟨_, _, rfl, rfl, ?_⟩ | refine ⟨rfl, _, rfl, ?_⟩)
    refine ⟨_, _, rfl, hk, ?_⟩
    repeat (first | refine ⟨_, rfl, ?_⟩ | refine ⟨(by show (0 : Int) < _; decide), ?_⟩ | refine ⟨⟨by decide, by decide⟩, ?_⟩ | refine ⟨.inr ⟨by decide, by decide⟩, ?_⟩ | refine ⟨.inl ⟨by decide, by decide⟩, ?_⟩ | refine ⟨⟨by decide, by decide, by decide⟩, ?_⟩ | refine ⟨_, _, rfl, rfl, ?_⟩ | refine ⟨rfl, _, rfl, ?_⟩)
    first | refine iteVI (fun e => ?_) (fun e => ?_) | refine iteVN (fun e => ?_) (fun e => ?_) | refine iteD (fun e => ?_) (fun e => ?_) | refine iteDN (fun e => ?_) (fun e => ?_) | refine iteB (fun e => ?_) (fun e => ?_)
    · rw [if_pos e] at q
      refine ⟨len63 (by decide), fun p hp => ?_⟩
      repeat (first | refine ⟨_, rfl, ?_⟩ | refine ⟨(by show (0 : Int) < _; decide), ?_⟩ | refine ⟨⟨by decide, by decide⟩, ?_⟩ | refine ⟨.inr ⟨by decide, by decide⟩, ?_⟩ | refine ⟨.inl ⟨by decide, by decide⟩, ?_⟩ | refine ⟨⟨by decide, by decide, by decide⟩, ?_⟩ | refine ⟨_, _, rfl, rfl, ?_⟩ | refine ⟨rfl, _, rfl, ?_⟩)
      exact ⟨p, menu.map V.int, _, _, rfl, rfl, .of upd_same, menu_at rfl (Int.emod_nonneg _ (by decide)) (Int.emod_lt_of_pos _ (by decide)), q _ (Ex.nw hp)⟩
    · rw [if_neg e] at q
      repeat (first | refine ⟨_, rfl, ?_⟩ | refine ⟨(by show (0 : Int) < _; decide), ?_⟩ | refine ⟨⟨by decide, by decide⟩, ?_⟩ | refine ⟨.inr ⟨by decide, by decide⟩, ?_⟩ | refine ⟨.inl ⟨by decide, by decide⟩, ?_⟩ | refine ⟨⟨by decide, by decide, by decide⟩, ?_⟩ | refine ⟨_, _, rfl, rfl, ?_⟩ | refine ⟨rfl, _, rfl, ?_⟩)
      first | refine iteVI (fun e => ?_) (fun e => ?_) | refine iteVN (fun e => ?_) (fun e => ?_) | refine iteD (fun e => ?_) (fun e => ?_) | refine iteDN (fun e => ?_) (fun e => ?_) | refine iteB (fun e => ?_) (fun e => ?_)
      · rw [if_pos e] at q
        repeat (first | refine ⟨_, rfl, ?_⟩ | refine ⟨(by show (0 : Int) < _; decide), ?_⟩ | refine ⟨⟨by decide, by decide⟩, ?_⟩ | refine ⟨.inr ⟨by decide, by decide⟩, ?_⟩ | refine ⟨.inl ⟨by decide, by decide⟩, ?_⟩ | refine ⟨⟨by decide, by decide, by decide⟩, ?_⟩ | refine ⟨_, _, rfl, rfl, ?_⟩ | refine ⟨rfl, _, rfl, ?_⟩)
        exact q _ Ex.rfl'
      · rw [if_neg e] at q
        repeat (first | refine ⟨_, rfl, ?_⟩ | refine ⟨(by show (0 : Int) < _; decide), ?_⟩ | refine ⟨⟨by decide, by decide⟩, ?_⟩ | refine ⟨.inr ⟨by decide, by decide⟩, ?_⟩ | refine ⟨.inl ⟨by decide, by decide⟩, ?_⟩ | refine ⟨⟨by decide, by decide, by decide⟩, ?_⟩ | refine ⟨_, _, rfl, rfl, ?_⟩ | refine ⟨rfl, _, rfl, ?_⟩)
        exact q _ Ex.rfl'
def count (c k : Int) : Int := if c / 3 % 4 = 1 then mixed c k % 61 else if c / 3 % 12 = 6 then mixed c k / 7 % 2 * (1000000000 - mixed c k % 50) else mixed c k % 5
theorem count_in (c k : Int) : 0 ≤ count c k ∧ count c k ≤ 1000000000 := by
  unfold count
  split
  · omega
  · split
    · rcases (by omega : mixed c k / 7 % 2 = 0 ∨ mixed c k / 7 % 2 = 1) with h | h <;> rw [h] <;> omega
    · omega
def spCount : Sp := fun vs H Q _ => ∃ c k, vs = [.int c, .int k] ∧ (-(2 ^ 64) < k ∧ k < 2 ^ 64) ∧ Q (.int (count c k)) H
theorem ok_count (T : Tx K mg) : FnOk P w K mg base CX0 2 T.a__law_count T.d__law_count P__law_count spCount := by
  have G__law_mixed := ok_mixed (P := P) (w := w) (base := base) T
  refine T.f__law_count.ok sc__law_count (fun vs H Q E h => ?_) (fun cdv A outer s H vs Q E hr h => ?_)
  · obtain ⟨c, k, rfl, _⟩ := h
    rfl
  · obtain ⟨c, k, rfl, hk, q⟩ := h
    refine ⟨_, (pss_cons (ps_set (i := 2) sc__law_count.nd rfl (.inl rfl) (pe_call G__law_mixed (hr.mono (by decide)) (by rfl) T.g__law_mixed T.f__law_mixed.kp T.p__law_mixed .nil pass0 (pa_cons (pv 0) (pa_cons (pv 1) pa_nil))))
    (pss_cons (ps_if (pt_cmpR op_eq (pe_op op_mod (pe_op op_fdiv (pv 0) pe_int) pe_int) pe_int (nomark _))
      (pss_one (ps_ret (pe_op op_mod (pv 2) pe_int)))
      pss_nil)
    (pss_cons (ps_if (pt_cmpR op_eq (pe_op op_mod (pe_op op_fdiv (pv 0) pe_int) pe_int) pe_int (nomark _))
      (pss_one (ps_ret (pe_op op_mul (pe_op op_mod (pe_op op_fdiv (pv 2) pe_int) pe_int) (pe_op op_sub (pe_op op_pow pe_int pe_int) (pe_op op_mod (pv 2) pe_int)))))
      pss_nil)
    (pss_one (ps_ret (pe_op op_mod (pv 2) pe_int)))))), ?_⟩
    unfold count at q
    repeat (first | refine ⟨_, rfl, ?_⟩ | refine ⟨(by show (0 : Int) < _; decide), ?_⟩ | refine ⟨⟨by decide, by decide⟩, ?_⟩ | refine ⟨.inr ⟨by decide, by decide⟩, ?_⟩ | refine ⟨.inl ⟨by decide, by decide⟩, ?_⟩ | refine ⟨⟨by decide, by decide, by decide⟩, ?_⟩ | refine ⟨_, _, rfl, rfl, ?_⟩ | refine ⟨rfl, _, rfl, ?_⟩)
    refine ⟨_, _, rfl, hk, ?_⟩
    repeat (first | refine ⟨_, rfl, ?_⟩ | refine ⟨(by show (0 : Int) < _; decide), ?_⟩ | refine ⟨⟨by decide, by decide⟩, ?_⟩ | refine ⟨.inr ⟨by decide, by decide⟩, ?_⟩ | refine ⟨.inl ⟨by decide, by decide⟩, ?_⟩ | refine ⟨⟨by decide, by decide, by decide⟩, ?_⟩ | refine ⟨_, _, rfl, rfl, ?_⟩ | refine ⟨rfl, _, rfl, ?_⟩)
    first | refine iteVI (fun e => ?_) (fun e => ?_) | refine iteVN (fun e => ?_) (fun e => ?_) | refine iteD (fun e => ?_) (fun e => ?_) | refine iteDN (fun e => ?_) (fun e => ?_) | refine iteB (fun e => ?_) (fun e => ?_)
    · rw [if_pos e] at q
      repeat (first | refine ⟨_, rfl, ?_⟩ | refine ⟨(by show (0 : Int) < _; decide), ?_⟩ | refine ⟨⟨by decide, by decide⟩, ?_⟩ | refine ⟨.inr ⟨by decide, by decide⟩, ?_⟩ | refine ⟨.inl ⟨by decide, by decide⟩, ?_⟩ | refine ⟨⟨by decide, by decide, by decide⟩, ?_⟩ | refine ⟨_, _, rfl, rfl, ?_⟩ | refine ⟨rfl, _, rfl, ?_⟩)
      exact q
    · rw [if_neg e] at q
      repeat (first | refine ⟨_, rfl, ?_⟩ | refine ⟨(by show (0 : Int) < _; decide), ?_⟩ | refine ⟨⟨by decide, by decide⟩, ?_⟩ | refine ⟨.inr ⟨by decide, by decide⟩, ?_⟩ | refine ⟨.inl ⟨by decide, by decide⟩, ?_⟩ | refine ⟨⟨by decide, by decide, by decide⟩, ?_⟩ | refine ⟨_, _, rfl, rfl, ?_⟩ | refine ⟨rfl, _, rfl, ?_⟩)
      first | refine iteVI (fun e => ?_) (fun e => ?_) | refine iteVN (fun e => ?_) (fun e => ?_) | refine iteD (fun e => ?_) (fun e => ?_) | refine iteDN (fun e => ?_) (fun e => ?_) | refine iteB (fun e => ?_) (fun e => ?_)
      · rw [if_pos e] at q
        have h1 := mixed_nn c k
        have h2 := mixed_lt c k
        repeat (first | refine ⟨_, rfl, ?_⟩ | refine ⟨(by show (0 : Int) < _; decide), ?_⟩ | refine ⟨⟨by decide, by decide⟩, ?_⟩ | refine ⟨.inr ⟨by decide, by decide⟩, ?_⟩ | refine ⟨.inl ⟨by decide, by decide⟩, ?_⟩ | refine ⟨⟨by decide, by decide, by decide⟩, ?_⟩ | refine ⟨_, _, rfl, rfl, ?_⟩ | refine ⟨rfl, _, rfl, ?_⟩)
        refine ⟨.inl ⟨by omega, by omega⟩, ?_⟩
        exact q
      · rw [if_neg e] at q
        repeat (first | refine ⟨_, rfl, ?_⟩ | refine ⟨(by show (0 : Int) < _; decide), ?_⟩ | refine ⟨⟨by decide, by decide⟩, ?_⟩ | refine ⟨.inr ⟨by decide, by decide⟩, ?_⟩ | refine ⟨.inl ⟨by decide, by decide⟩, ?_⟩ | refine ⟨⟨by decide, by decide, by decide⟩, ?_⟩ | refine ⟨_, _, rfl, rfl, ?_⟩ | refine ⟨rfl, _, rfl, ?_⟩)
        exact q
/-! the kinds: a value that stands already is moved on -/
def nxt (v : Int) : Int := v % 1000 + 1
def itn (v : Int) (j : Nat) : Int := (v - 1 + j) % 1000 + 1
theorem itn_zero {v : Int} (h1 : 1 ≤ v) (h2 : v ≤ 1000) : itn v 0 = v := by unfold itn; omega
theorem itn_succ (v : Int) (j : Nat) : itn v (j + 1) = nxt (itn v j) := by unfold itn nxt; omega
theorem itn_in (v : Int) (j : Nat) : 1 ≤ itn v j ∧ itn v j ≤ 1000 := by unfold itn; omega
theorem itn_inj {v : Int} {i j : Nat} (hi : i < 1000) (hj : j < 1000) (h : itn v i = itn v j) : i = j := by unfold itn at h; omega
theorem escape : ∀ (n : Nat) (ks : List Int) (f : Nat → Int), ks.length = n → (∀ i j, i ≤ n → j ≤ n → f i = f j → i = j) → ∃ j, j ≤ n ∧ f j ∉ ks
  | 0, ks, f, hl, _ => ⟨0, Nat.le_refl _, by rw [List.length_eq_zero_iff.mp hl]; simp⟩
  | n + 1, ks, f, hl, hf => by
    by_cases h : f 0 ∈ ks
    · obtain ⟨j, hj, hn⟩ := escape n (ks.erase (f 0)) (fun i => f (i + 1)) (by rw [List.length_erase_of_mem h]; omega) fun i j hi hj e => by
        have := hf (i + 1) (j + 1) (by omega) (by omega) e
        omega
      refine ⟨j + 1, by omega, fun z => hn ?_⟩
      refine (List.mem_erase_of_ne fun e => ?_).mpr z
      have := hf (j + 1) 0 (by omega) (by omega) e
      omega
    · exact ⟨0, Nat.zero_le _, h⟩
theorem free_at {ks : List Int} (v : Int) (h : ks.length < 1000) : ∃ j, itn v j ∉ ks := by
  obtain ⟨j, _, hn⟩ := escape ks.length ks (itn v) rfl fun i j hi hj e => itn_inj (by omega) (by omega) e
  exact ⟨j, hn⟩
theorem least {p : Nat → Prop} (h : ∃ j, p j) : ∃ j, p j ∧ ∀ i, i < j → ¬ p i := by
  obtain ⟨j, hj⟩ := h
  induction j using Nat.strongRecOn with
  | _ j ih =>
    by_cases z : ∃ i, i < j ∧ p i
    · obtain ⟨i, hi, hp⟩ := z
      exact ih i hi hp
    · exact ⟨j, hj, fun i hi hp => z ⟨i, hi, hp⟩⟩
def dkv (ks : List Int) : List (Key × V) := ks.map fun k => (Sum.inl k, V.bl true)
theorem dkv_none {ks : List Int} {k : Int} (h : k ∉ ks) : valV (dkv ks) (Sum.inl k) = none := by
  cases e : valV (dkv ks) (Sum.inl k) with
  | none => rfl
  | some v =>
    have := valV_in e
    unfold dkv at this
    rw [List.map_map] at this
    obtain ⟨x, hx, ex⟩ := List.mem_map.mp this
    cases ex
    exact absurd hx h
theorem dkv_some {ks : List Int} {k : Int} (h : k ∈ ks) : ∃ v, valV (dkv ks) (Sum.inl k) = some v := by
  cases e : valV (dkv ks) (Sum.inl k) with
  | some v => exact ⟨v, rfl⟩
  | none =>
    refine absurd ?_ (valV_not e)
    unfold dkv
    rw [List.map_map]
    exact List.mem_map.mpr ⟨k, h, rfl⟩
theorem dkv_put {ks : List Int} {k : Int} (h : k ∉ ks) : putK (dkv ks) (Sum.inl k) (V.bl true) = dkv (ks ++ [k]) := by
  rw [putK_new _ (dkv_none h)]
  unfold dkv
  rw [List.map_append]
  rfl
def spPairs (K : PySem.W.Frag) : Sp := fun vs H Q _ => ∃ (a : Addr) (ns : List Int), vs = [.ref a] ∧ SqL K H a (ns.map V.int) ∧
  ∀ p xs ps H2, Ex H H2 → H p = none → H2 p = some (.lst xs) → Prs H2 xs ps → Drawn ps → 1 ≤ ps.length → ps.length ≤ 10 → Q (.ref p) H2
theorem ok_pairs (T : Tx K mg) : FnOk P w K mg base CX0 3 T.a__law_pairs T.d__law_pairs P__law_pairs (spPairs K) := by
  have G__law_cell_at := ok_cell_at (P := P) (w := w) (base := base) T
  have G__law_value := ok_value (P := P) (w := w) (base := base) T
  have G__law_count := ok_count (P := P) (w := w) (base := base) T
  refine T.f__law_pairs.ok sc__law_pairs (fun vs H Q E h => ?_) (fun cdv A outer s H vs Q E hr h => ?_)
  · obtain ⟨a, ns, rfl, _⟩ := h
    rfl
  · obtain ⟨a, ns, rfl, hS, q⟩ := h
    refine ⟨_, (pss_cons (ps_set (i := 1) sc__law_pairs.nd rfl (.inl rfl) (pe_call G__law_cell_at (hr.mono (by decide)) (by rfl) T.g__law_cell_at T.f__law_cell_at.kp T.p__law_cell_at .nil pass0 (pa_cons (pv 0) (pa_cons pe_int pa_nil))))
    (pss_cons (ps_set (i := 2) sc__law_pairs.nd rfl (.inl rfl) (pe_op op_add pe_int (pe_op op_mod (pv 1) pe_int)))
    (Evl.pss_cut (ps_if (pt_cmpR op_eq (pe_op op_mod (pe_op op_fdiv (pv 1) pe_int) pe_int) pe_int (nomark _))
      (pss_one (ps_set (i := 2) sc__law_pairs.nd rfl (.inl rfl) (pe_op op_add pe_int (pe_op op_mod (pe_op op_fdiv (pv 1) pe_int) pe_int))))
      pss_nil)
    (pss_cons (ps_set (i := 3) sc__law_pairs.nd rfl (.inl rfl) (pe_lst pa_nil))
    (pss_cons (ps_set (i := 4) sc__law_pairs.nd rfl (.inl rfl) pe_dnewK)
    (pss_cons (ps_for PassesOwn.never rfl (pi_range1 (by rfl) T.m_range (pa_cons (pv 2) pa_nil)) (pg_name (i := 5) sc__law_pairs.nd rfl (.inl rfl))
      (pss_cons (ps_set (i := 6) sc__law_pairs.nd rfl (.inl rfl) (pe_call G__law_value (hr.mono (by decide)) (by rfl) T.g__law_value T.f__law_value.kp T.p__law_value .nil pass0 (pa_cons (pe_call G__law_cell_at (hr.mono (by decide)) (by rfl) T.g__law_cell_at T.f__law_cell_at.kp T.p__law_cell_at .nil pass0 (pa_cons (pv 0) (pa_cons pe_int pa_nil))) (pa_cons (pe_op op_add (pv 5) pe_int) pa_nil))))
      (pss_cons (ps_while PassesOwn.never (pt_cmp (pc_din (hu_of hr) (pv 6) (pv 4)))
        (pss_one (ps_set (i := 6) sc__law_pairs.nd rfl (.inl rfl) (pe_op op_add (pe_op op_mod (pv 6) pe_int) pe_int))))
      (pss_cons (ps_dput (hu_of hr) (pv 4) (pv 6) pe_bl rfl)
      (pss_one (ps_expr (pe_bm PySem.F.plainAttrs_list PySem.F.slot_list_append PySem.F.type_list_append mt_append (pv 3) (pa_cons (pe_tup (pa_cons (pv 6) (pa_cons (pe_call G__law_count (hr.mono (by decide)) (by rfl) T.g__law_count T.f__law_count.kp T.p__law_count .nil pass0 (pa_cons (pe_call G__law_cell_at (hr.mono (by decide)) (by rfl) T.g__law_cell_at T.f__law_cell_at.kp T.p__law_cell_at .nil pass0 (pa_cons (pv 0) (pa_cons pe_int pa_nil))) (pa_cons (pe_op op_add (pv 5) pe_int) pa_nil))) pa_nil))) pa_nil))))))))
    (pss_one (ps_ret (pv 3))))))))), ?_⟩
    refine ⟨_, rfl, a, ns, 0, rfl, hS, ?_⟩
    repeat (first | refine ⟨_, rfl, ?_⟩ | refine ⟨(by show (0 : Int) < _; decide), ?_⟩ | refine ⟨⟨by decide, by decide⟩, ?_⟩ | refine ⟨.inr ⟨by decide, by decide⟩, ?_⟩ | refine ⟨.inl ⟨by decide, by decide⟩, ?_⟩ | refine ⟨⟨by decide, by decide, by decide⟩, ?_⟩ | refine ⟨_, _, rfl, rfl, ?_⟩ | refine ⟨rfl, _, rfl, ?_⟩)
    refine ⟨fun σ' H' => ∃ m : Int, 1 ≤ m ∧ m ≤ 10 ∧ σ' = [some (.ref a), some (.int (cell ns 0)), some (.int m), none, none, none, none] ∧ H' = H, ?_, ?_⟩
    · repeat (first | refine ⟨_, rfl, ?_⟩ | refine ⟨(by show (0 : Int) < _; decide), ?_⟩ | refine ⟨⟨by decide, by decide⟩, ?_⟩ | refine ⟨.inr ⟨by decide, by decide⟩, ?_⟩ | refine ⟨.inl ⟨by decide, by decide⟩, ?_⟩ | refine ⟨⟨by decide, by decide, by decide⟩, ?_⟩ | refine ⟨_, _, rfl, rfl, ?_⟩ | refine ⟨rfl, _, rfl, ?_⟩)
      first | refine iteVI (fun e => ?_) (fun e => ?_) | refine iteVN (fun e => ?_) (fun e => ?_) | refine iteD (fun e => ?_) (fun e => ?_) | refine iteDN (fun e => ?_) (fun e => ?_) | refine iteB (fun e => ?_) (fun e => ?_)
      · repeat (first | refine ⟨_, rfl, ?_⟩ | refine ⟨(by show (0 : Int) < _; decide), ?_⟩ | refine ⟨⟨by decide, by decide⟩, ?_⟩ | refine ⟨.inr ⟨by decide, by decide⟩, ?_⟩ | refine ⟨.inl ⟨by decide, by decide⟩, ?_⟩ | refine ⟨⟨by decide, by decide, by decide⟩, ?_⟩ | refine ⟨_, _, rfl, rfl, ?_⟩ | refine ⟨rfl, _, rfl, ?_⟩)
        exact ⟨_, by omega, by omega, rfl, rfl⟩
      · exact ⟨_, by omega, by omega, rfl, rfl⟩
    rintro σ' H' ⟨m, hm1, hm2, rfl, rfl⟩
    refine ⟨Nat.zero_le _, fun f hf d hd => ?_⟩
    have nfd : d ≠ f := fun e => by rw [e, upd_same] at hd; cases hd
    have hd' : H' d = none := by rw [upd_ne nfd] at hd; exact hd
    refine ⟨_, rfl, m, rfl, by omega, by omega, ?_⟩
    refine for_range (fun i σ H => ∃ xs ps y5 y6, σ = [some (.ref a), some (.int (cell ns 0)), some (.int m), some (.ref f), some (.ref d), y5, y6] ∧ Ex H' H ∧ H f = some (.lst xs) ∧ H d = some (.dK (dkv (ps.map (·.1)))) ∧ Prs H xs ps ∧ Drawn ps ∧ ps.length = i)
      ⟨[], [], none, none, rfl, Ex.mu (Ex.nw hf) hd', by rw [upd_ne nfd.symm, upd_same], by rw [upd_same]; rfl, .nil, ⟨by simp, by simp, by simp⟩, rfl⟩ ?_ ?_
    · rintro i σ H hi ⟨xs, ps, y5, y6, rfl, ex, ef, ed, hp, dr, hlen⟩
      have hi' : i < 10 := by omega
      -- _law_value_here = _law_value(..)
      refine ⟨_, rfl, a, ns, 1, rfl, ex.seq hS, ?_⟩
      repeat (first | refine ⟨_, rfl, ?_⟩ | refine ⟨(by show (0 : Int) < _; decide), ?_⟩ | refine ⟨⟨by decide, by decide⟩, ?_⟩ | refine ⟨.inr ⟨by decide, by decide⟩, ?_⟩ | refine ⟨.inl ⟨by decide, by decide⟩, ?_⟩ | refine ⟨⟨by decide, by decide, by decide⟩, ?_⟩ | refine ⟨_, _, rfl, rfl, ?_⟩ | refine ⟨rfl, _, rfl, ?_⟩)
      refine ⟨_, _, rfl, ⟨by omega, by omega⟩, fun H2 e2 => ?_⟩
      have ex2 : Ex H' H2 := Ex.tr ex e2
      have ef2 := e2 _ _ ef
      have ed2 := e2 _ _ ed
      have hp2 : Prs H2 xs ps := hp.ex e2
      have hv := value_in (cell ns 1) (0 + (i : Int) + 1)
      generalize hvv : value (cell ns 1) (0 + (i : Int) + 1) = v0 at hv
      obtain ⟨j, hj, hmin⟩ := least (free_at (ks := ps.map (·.1)) v0 (by rw [List.length_map]; omega))
      -- the while
      refine ⟨fun n σ H => ∃ k, k + n = j ∧ σ = [some (.ref a), some (.int (cell ns 0)), some (.int m), some (.ref f), some (.ref d), some (.int (0 + (i : Int))), some (.int (itn v0 k))] ∧ H = H2,
        ⟨j, 0, by omega, by rw [itn_zero hv.1 hv.2]; rfl, rfl⟩, ?_⟩
      rintro n σ H3 ⟨k, hk, rfl, rfl⟩
      refine ⟨_, rfl, _, rfl, d, _, rfl, DGet.k (k := Sum.inl (itn v0 k)) ed2, _, rfl, ?_⟩
      by_cases hn : n = 0
      · -- it is free
        have hkj : k = j := by omega
        subst hkj
        rw [dkv_none hj]
        refine iteF ?_
        -- _law_seen[v] = True
        refine ⟨_, rfl, _, rfl, d, _, rfl, DPut.k (k := Sum.inl (itn v0 k)) ed2 ?_, ?_⟩
        · unfold dkv
          rw [List.length_map, List.length_map]
          exact len63' (by omega)
        rw [dkv_put hj]
        have ef3 : (upd H3 d (.dK (dkv (ps.map (·.1) ++ [itn v0 k])))) f = some (.lst xs) := by rw [upd_ne nfd.symm]; exact ef2
        have ex3 : Ex H' (upd H3 d (.dK (dkv (ps.map (·.1) ++ [itn v0 k])))) := Ex.mu ex2 hd'
        have hp3 : Prs (upd H3 d (.dK (dkv (ps.map (·.1) ++ [itn v0 k])))) xs ps := hp2.up (by intro ys z; rw [ed2] at z; cases z)
        -- _law_found.append((v, _law_count(..)))
        refine ⟨_, rfl, .inl ⟨rfl, xs, .of ef3⟩, ?_⟩
        refine ⟨_, rfl, _, rfl, a, ns, 2, rfl, ex3.seq hS, ?_⟩
        repeat (first | refine ⟨_, rfl, ?_⟩ | refine ⟨(by show (0 : Int) < _; decide), ?_⟩ | refine ⟨⟨by decide, by decide⟩, ?_⟩ | refine ⟨.inr ⟨by decide, by decide⟩, ?_⟩ | refine ⟨.inl ⟨by decide, by decide⟩, ?_⟩ | refine ⟨⟨by decide, by decide, by decide⟩, ?_⟩ | refine ⟨_, _, rfl, rfl, ?_⟩ | refine ⟨rfl, _, rfl, ?_⟩)
        refine ⟨_, _, rfl, ⟨by omega, by omega⟩, ?_⟩
        refine ⟨len63 (by show 2 ≤ _; decide), fun t ht => ?_⟩
        have ntf : f ≠ t := ne_of_none ef3 ht
        have ntd : d ≠ t := ne_of_none upd_same ht
        refine ⟨f, xs, _, rfl, rfl, by rw [upd_ne ntf]; exact ef3, len63' (by rw [hp3.len]; omega), ?_⟩
        refine ⟨xs ++ [.ref t], ps ++ [(itn v0 k, count (cell ns 2) (0 + (i : Int) + 1))], _, _, rfl, Ex.mu (ex3.tr (Ex.nw ht)) hf, upd_same, ?_, ?_, ?_, by rw [List.length_append, hlen]; rfl⟩
        · rw [upd_ne nfd, upd_ne ntd, upd_same, List.map_append]
          rfl
        · refine Prs.up (by intro ys z; rw [upd_ne ntf, ef3] at z; cases z) ?_
          exact Prs.snoc (hp3.ex (Ex.nw ht)) ⟨t, rfl, upd_same⟩
        · have hc := count_in (cell ns 2) (0 + (i : Int) + 1)
          refine ⟨?_, fun p hp => ?_, fun p hp => ?_⟩
          · rw [List.map_append]
            exact nd_snoc dr.nd hj
          · rcases List.mem_append.mp hp with h | h
            · exact dr.val p h
            · rw [List.mem_singleton.mp h]; exact itn_in v0 k
          · rcases List.mem_append.mp hp with h | h
            · exact dr.cnt p h
            · rw [List.mem_singleton.mp h]; exact hc
      · have hin : itn v0 k ∈ ps.map (·.1) := by
          by_cases z : itn v0 k ∈ ps.map (·.1)
          · exact z
          · exact absurd z (hmin k (by omega))
        obtain ⟨v, ev⟩ := dkv_some hin
        rw [ev]
        refine iteT ⟨fun σ' H'' => ∃ n', n' < n ∧ ∃ k', k' + n' = j ∧ σ' = [some (.ref a), some (.int (cell ns 0)), some (.int m), some (.ref f), some (.ref d), some (.int (0 + (i : Int))), some (.int (itn v0 k'))] ∧ H'' = H3, fun _ _ z => z, ?_⟩
        repeat (first | refine ⟨_, rfl, ?_⟩ | refine ⟨(by show (0 : Int) < _; decide), ?_⟩ | refine ⟨⟨by decide, by decide⟩, ?_⟩ | refine ⟨.inr ⟨by decide, by decide⟩, ?_⟩ | refine ⟨.inl ⟨by decide, by decide⟩, ?_⟩ | refine ⟨⟨by decide, by decide, by decide⟩, ?_⟩ | refine ⟨_, _, rfl, rfl, ?_⟩ | refine ⟨rfl, _, rfl, ?_⟩)
        exact ⟨n - 1, by omega, k + 1, by omega, by rw [itn_succ]; rfl, rfl⟩
    · rintro σ H ⟨xs, ps, y5, y6, rfl, ex, ef, ed, hp, dr, hlen⟩
      refine ⟨_, rfl, q f xs ps H ex hf ef hp dr (by omega) (by omega)⟩
/-! ### list.count of a truth value -/
theorem vals_bl : ∀ {bs : List Bool} {us : List Value}, Vals (bs.map V.bl) us → us = bs.map Value.bool
  | [], _, .nil => rfl
  | b :: bs, _, .cons h r => by
    have e := vals_bl r
    rw [List.map_cons, e, show _ = Value.bool b from h]
def isB (k : Bool) : Value → Bool := fun v => decide (v = .bool k)
theorem isB_count (k : Bool) : ∀ bs : List Bool, (bs.map Value.bool).countP (isB k) = bs.count k
  | [] => rfl
  | b :: bs => by
    have ih := isB_count k bs
    rw [List.map_cons, List.countP_cons, List.count_cons, ih]
    cases b <;> cases k <;> rfl
def rCntB (K : PySem.W.Frag) : V → List V → Hp → VK → Prop := fun x xs H Q => ∃ (p : Addr) (bs : List Bool) (k : Bool), x = .ref p ∧ xs = [.bl k] ∧ SqL K H p (bs.map V.bl) ∧ Q (.int (bs.count k : Nat)) H
theorem mt_bcount {X : Cx} : MtR X "list.count" (rCntB X.K) := by
  intro pins s σ H x xs v us Q I ra ras h
  obtain ⟨p, bs, k, rfl, rfl, hs, q⟩ := h
  cases ra
  obtain ⟨u, rfl, re⟩ := ras.one
  cases (show u = Value.bool k from re)
  obtain ⟨zs, rz, ⟨⟨c0, d0, da, s0⟩, n, ho, hc, hn, hd⟩, hz⟩ := I.list hs
  simp only at hc hd
  subst hc hd
  cases vals_bl rz
  refine call_meets PySem.F.slot_list_count ⟨_, ho, rfl⟩ PySem.F.entry_list_count (PySem.F.args_list_count_2 _ _)
    (SeqAt.list_countAt p (bs.map Value.bool).toArray n d0 s0 (.bool k) (isB k)) ⟨ho, fun y hy => ?_, ?_⟩
  · obtain ⟨b, _, rfl⟩ := List.mem_map.mp (by simpa using hy : y ∈ bs.map Value.bool)
    have e : isB k (.bool b) = (b == k) := by cases b <;> cases k <;> rfl
    rw [e]
    exact SeqAt.EqAt.bool_bool b k
  · refine ⟨.int (bs.count k : Nat), H, I.tok _, ⟨s.toks, ?_⟩, q⟩
    show Value.int (((bs.map Value.bool).countP (isB k) : Nat) : Int) s.toks = Value.int ((bs.count k : Nat) : Int) s.toks
    rw [isB_count]
/-- counted in an except's suite: told by the K outside -/
theorem pe_countS {X : Cx} {b : Addr} {pn : List (Addr × Obj)} {o e : Expr} {es : List Expr} {to : TE} {t : TA} {apos cpos : Pos} (ho : PE (X.suite b pn) o to) (ha : PA (X.suite b pn) (e :: es) t)
    (h1 : attributeBase o "count" (X.suite b pn).env (eval o (X.suite b pn).env) = eval o (X.suite b pn).env := by rfl)
    (h2 : ((backTo cpos (starEach (e :: es) (X.suite b pn).env)).all (fun x => !x.1) && (backToKw cpos (keywordEach [] (X.suite b pn).env)).all (fun x => x.1.isSome)
      && decide ((e :: es).length + ([] : List Keyword).length + (if ([] : List Keyword).isEmpty then 0 else 1) < 30)) = true := by rfl)
    (h3 : (apos.endLine == cpos.line) = true := by rfl) (h4 : starEach (e :: es) (X.suite b pn).env = (false, eval e (X.suite b pn).env) :: starEach es (X.suite b pn).env := by rfl)
    (h5 : (backTo cpos (starEach es (X.suite b pn).env)).any (·.1) = false := by rfl) :
    PE (X.suite b pn) (.Call (.Attribute o "count" apos) (e :: es) [] cpos) (tBM X.K "list" (rCntB X.K) to t) :=
  pe_bm PySem.F.plainAttrs_list PySem.F.slot_list_count PySem.F.type_list_count mt_bcount ho ha h1 h2 h3 h4 h5
/-! ### count_of -/
/-- the first count of a kind -/
def countIn (ps : List (Int × Int)) (v : Int) : Option Int := ps.lookup v
theorem countIn_cons (p : Int × Int) (ps : List (Int × Int)) (v : Int) : countIn (p :: ps) v = if p.1 = v then some p.2 else countIn ps v := by
  unfold countIn
  rw [List.lookup_cons]
  by_cases h : p.1 = v
  · rw [if_pos h, show (v == p.1) = true by simp [h]]
  · rw [if_neg h, show (v == p.1) = false by simpa using fun e => h (Eq.symm e)]
theorem countIn_mem {ps : List (Int × Int)} {v c : Int} (h : countIn ps v = some c) : (v, c) ∈ ps := by
  induction ps with
  | nil => cases h
  | cons p ps ih =>
    rw [countIn_cons] at h
    by_cases e : p.1 = v
    · rw [if_pos e] at h
      have : p = (v, c) := by rw [← e, ← Option.some.inj h]
      rw [this]
      exact List.mem_cons_self
    · rw [if_neg e] at h
      exact List.mem_cons_of_mem _ (ih h)
theorem countIn_nd {ps : List (Int × Int)} {p : Int × Int} (nd : (ps.map (·.1)).Nodup) (hp : p ∈ ps) : countIn ps p.1 = some p.2 := by
  induction ps with
  | nil => cases hp
  | cons q ps ih =>
    rw [List.map_cons, List.nodup_cons] at nd
    rw [countIn_cons]
    rcases List.mem_cons.mp hp with e | e
    · rw [e, if_pos rfl]
    · rw [if_neg fun z => nd.1 (by rw [z]; exact List.mem_map.mpr ⟨p, e, rfl⟩)]
      exact ih nd.2 e
def spCountOf (K : PySem.W.Frag) (cN : Addr) : Sp := fun vs H Q E => ∃ (a : Addr) (ps : List (Int × Int)) (v : Int), vs = [.ref a, .int v] ∧ Till K H a ps ∧ (∀ c, countIn ps v = some c → Q (.int c) H) ∧ (countIn ps v = none → E (.ref cN) none H)
theorem ok_count_of (T : Tx K mg) : FnOk P w K mg base (L2.CX P w) 1 T.a_count_of T.d_count_of P_count_of (spCountOf K T.c_NoKind) := by
  refine T.f_count_of.okX sc_count_of (fun vs H Q E h => ?_) (fun cdv A outer s H vs Q E hr h => ?_)
  · obtain ⟨a, ps, v, rfl, _⟩ := h
    rfl
  · obtain ⟨a, ps, v, rfl, ⟨xs, hS, hp⟩, q1, q2⟩ := h
    refine ⟨_, (pss_cons (ps_for (passes_of rfl) rfl (pi_list (pv 0)) (pg_tup rfl (pgs_cons (pg_name (i := 2) sc_count_of.nd rfl (.inl rfl)) (pgs_cons (pg_name (i := 3) sc_count_of.nd rfl (.inl rfl)) pgs_nil)))
      (pss_one (ps_if (pt_cmpR op_eq (pv 2) (pv 1) (nomark _))
        (pss_one (ps_ret (pv 3)))
        pss_nil)))
    (pss_one (ps_raise rfl (takes_of rfl rfl rfl rfl) (pmk_own PySem.F.excBase_ValueError T.x_NoKind T.g_NoKind T.k_NoKind (raises_own T.b_NoKind T.t_NoKind) rfl)))), ?_⟩
    refine ⟨_, rfl, a, rfl, ⟨xs, hS⟩, for_list (xs := xs) (fun i σ H' => ∃ y2 y3, σ = [some (.ref a), some (.int v), y2, y3] ∧ H' = H ∧ countIn ps v = countIn (ps.drop i) v) ⟨_, _, rfl, rfl, rfl⟩ (fun i σ H' _ h => by obtain ⟨_, _, _, rfl, _⟩ := h; exact hS) ?_ ?_⟩
    · rintro i x σ H' hx ⟨y2, y3, rfl, rfl, hc⟩
      obtain ⟨p, t, h1, rfl, h3⟩ := Prs.get hp hx
      have hd : ps.drop i = p :: ps.drop (i + 1) := by
        obtain ⟨hi, e⟩ := List.getElem?_eq_some_iff.mp h1
        rw [List.drop_eq_getElem_cons hi, e]
      rw [hd, countIn_cons] at hc
      refine ⟨t, _, rfl, .of h3, rfl, _, _, rfl, _, _, rfl, rfl, ?_⟩
      repeat (first | refine ⟨_, rfl, ?_⟩ | refine ⟨(by show (0 : Int) < _; decide), ?_⟩ | refine ⟨⟨by decide, by decide⟩, ?_⟩ | refine ⟨.inr ⟨by decide, by decide⟩, ?_⟩ | refine ⟨.inl ⟨by decide, by decide⟩, ?_⟩ | refine ⟨⟨by decide, by decide, by decide⟩, ?_⟩ | refine ⟨_, _, rfl, rfl, ?_⟩ | refine ⟨rfl, _, rfl, ?_⟩)
      first | refine iteVI (fun e => ?_) (fun e => ?_) | refine iteVN (fun e => ?_) (fun e => ?_) | refine iteD (fun e => ?_) (fun e => ?_) | refine iteDN (fun e => ?_) (fun e => ?_) | refine iteB (fun e => ?_) (fun e => ?_)
      · rw [if_pos e] at hc
        repeat (first | refine ⟨_, rfl, ?_⟩ | refine ⟨(by show (0 : Int) < _; decide), ?_⟩ | refine ⟨⟨by decide, by decide⟩, ?_⟩ | refine ⟨.inr ⟨by decide, by decide⟩, ?_⟩ | refine ⟨.inl ⟨by decide, by decide⟩, ?_⟩ | refine ⟨⟨by decide, by decide, by decide⟩, ?_⟩ | refine ⟨_, _, rfl, rfl, ?_⟩ | refine ⟨rfl, _, rfl, ?_⟩)
        exact q1 _ hc
      · rw [if_neg e] at hc
        exact ⟨_, _, rfl, rfl, hc⟩
    · rintro σ H' ⟨y2, y3, rfl, rfl, hc⟩
      rw [List.drop_of_length_le (by rw [hp.len]; exact Nat.le_refl _)] at hc
      exact q2 hc
/-! ### what a deed does, by itself -/
def there (ps : List (Int × Int)) (v : Int) : Int := (countIn ps v).getD (-1)
def addC (ps : List (Int × Int)) (v d : Int) : List (Int × Int) := ps.map fun p => if p.1 = v then (p.1, p.2 + d) else p
def dueK (ps : List (Int × Int)) (w v c : Int) : Str :=
  if w < 2 then (if there ps v < 0 then "kind" else if c < 0 ∨ c > 1000000000 ∨ (w = 0 ∧ there ps v + c > 1000000000) then "count" else if w = 1 ∧ c > there ps v then "few" else "")
  else if w = 2 then (if v < 1 ∨ v > 1000 then "kind" else if 0 ≤ there ps v then "twice" else if ps.length = 10 then "till" else "")
  else (if there ps v < 0 then "kind" else if there ps v > 0 then "held" else if ps.length = 1 then "till" else "")
/-- the till behind -/
def Behind (ps : List (Int × Int)) (w v c : Int) (qs : List (Int × Int)) : Prop :=
  (w = 0 ∧ qs = addC ps v c) ∨ (w = 1 ∧ qs = addC ps v (-c)) ∨ (w = 2 ∧ Rising qs ∧ qs.Perm (ps ++ [(v, 0)])) ∨ (w = 3 ∧ qs = ps.filter fun p => decide (p.1 ≠ v))
theorem rising_uniq : ∀ {ps qs : List (Int × Int)}, Rising ps → Rising qs → ps.Perm qs → ps = qs
  | [], qs, _, _, h => (h.symm.eq_nil).symm
  | p :: ps, [], _, _, h => absurd h.eq_nil (by simp)
  | p :: ps, q :: qs, h1, h2, h => by
    obtain ⟨a1, a2⟩ := List.pairwise_cons.mp h1
    obtain ⟨b1, b2⟩ := List.pairwise_cons.mp h2
    have e : p = q := by
      rcases List.mem_cons.mp (h.mem_iff.mp List.mem_cons_self) with e | e
      · exact e
      · rcases List.mem_cons.mp (h.mem_iff.mpr List.mem_cons_self) with e' | e'
        · exact e'.symm
        · have := b1 p e
          have := a1 q e'
          omega
    subst e
    rw [rising_uniq a2 b2 ((List.perm_cons _).mp h)]
theorem Behind.uniq {ps : List (Int × Int)} {w v c : Int} {qs rs : List (Int × Int)} (h : Behind ps w v c qs) (k : Behind ps w v c rs) : qs = rs := by
  rcases h with ⟨a, b⟩ | ⟨a, b⟩ | ⟨a, b, d⟩ | ⟨a, b⟩ <;> rcases k with ⟨a', b'⟩ | ⟨a', b'⟩ | ⟨a', b', d'⟩ | ⟨a', b'⟩ <;> first | (subst a; exact absurd a' (by decide)) | rw [b, b'] | exact rising_uniq b b' (d.trans d'.symm)
theorem setC_eq {ps : List (Int × Int)} {v t n : Int} (nd : (ps.map (·.1)).Nodup) (h : countIn ps v = some t) : ps.map (fun p => (p.1, if p.1 = v then n else p.2)) = addC ps v (n - t) := by
  unfold addC
  refine List.map_congr_left fun p hp => ?_
  by_cases e : p.1 = v
  · rw [if_pos e, if_pos e]
    have := countIn_nd nd hp
    rw [e, h] at this
    rw [← Option.some.inj this]
    congr 1
    omega
  · rw [if_neg e, if_neg e]
/-- a till that is one -/
structure Tl (ps : List (Int × Int)) : Prop where
  ris : Rising ps
  val : ∀ p ∈ ps, 1 ≤ p.1 ∧ p.1 ≤ 1000
  cnt : ∀ p ∈ ps, 0 ≤ p.2 ∧ p.2 ≤ 1000000000
  len : 1 ≤ ps.length ∧ ps.length ≤ 10
theorem Tl.nd {ps : List (Int × Int)} (h : Tl ps) : (ps.map (·.1)).Nodup := rising_nd h.ris
/-- what a deed gives, or the refusal due -/
def OutK (cK cC cF cT cL cH : Addr) (ps : List (Int × Int)) (w v c : Int) (H : Hp) (Q : VK) (E : XK) : Prop :=
  (dueK ps w v c = "" → ∀ p xs qs H2, Ex H H2 → H p = none → H2 p = some (.lst xs) → Prs H2 xs qs → Behind ps w v c qs → Q (.ref p) H2) ∧
  (dueK ps w v c = "kind" → ∀ H2, Ex H H2 → E (.ref cK) none H2) ∧ (dueK ps w v c = "count" → ∀ H2, Ex H H2 → E (.ref cC) none H2) ∧ (dueK ps w v c = "few" → ∀ H2, Ex H H2 → E (.ref cF) none H2) ∧
  (dueK ps w v c = "twice" → ∀ H2, Ex H H2 → E (.ref cT) none H2) ∧ (dueK ps w v c = "till" → ∀ H2, Ex H H2 → E (.ref cL) none H2) ∧ (dueK ps w v c = "held" → ∀ H2, Ex H H2 → E (.ref cH) none H2)
theorem there_some {ps : List (Int × Int)} {v t : Int} (h : countIn ps v = some t) : there ps v = t := by
  unfold there
  rw [h]
  rfl
theorem there_none {ps : List (Int × Int)} {v : Int} (h : countIn ps v = none) : there ps v = -1 := by
  unfold there
  rw [h]
  rfl
theorem Tl.there_nn {ps : List (Int × Int)} (h : Tl ps) {v t : Int} (ht : countIn ps v = some t) : 0 ≤ t ∧ t ≤ 1000000000 := h.cnt _ (countIn_mem ht)
theorem Behind.few {ps : List (Int × Int)} {w v c : Int} {qs : List (Int × Int)} (h : Behind ps w v c qs) (hl : ps.length ≤ 10) : qs.length ≤ 1000 := by
  rcases h with ⟨_, rfl⟩ | ⟨_, rfl⟩ | ⟨_, _, hp⟩ | ⟨_, rfl⟩
  · unfold addC
    rw [List.length_map]
    omega
  · unfold addC
    rw [List.length_map]
    omega
  · rw [hp.length_eq, List.length_append]
    show ps.length + 1 ≤ _
    omega
  · exact Nat.le_trans (List.length_filter_le ..) (by omega)
/-! ### a whole number -/
def spWhole : Sp := fun vs H Q _ => ∃ i : Int, vs = [.int i] ∧ Q (.bl true) H
theorem ok_whole (T : Tx K mg) : FnOk P w K mg base CX0 1 T.a__law_whole T.d__law_whole P__law_whole spWhole := by
  refine T.f__law_whole.ok sc__law_whole (fun vs H Q E h => ?_) (fun cdv A outer s H vs Q E hr h => ?_)
  · obtain ⟨i, rfl, _⟩ := h
    rfl
  · obtain ⟨i, rfl, q⟩ := h
    refine ⟨_, (pss_one (ps_ret (pe_and (pe_callB call_isi (by rfl) T.m_isinstance (by decide +kernel) (pa_cons (pv 0) (pa_cons (pe_bltn (v := .ty "int") (by rfl) T.m_int (by decide +kernel) rfl) pa_nil))) (pe_one (pe_not (pe_callB call_isi (by rfl) T.m_isinstance (by decide +kernel) (pa_cons (pv 0) (pa_cons (pe_bltn (v := .ty "bool") (by rfl) T.m_bool (by decide +kernel) rfl) pa_nil)))))))), ?_⟩
    refine ⟨_, rfl, _, _, _, _, true, rfl, .ty "int", .base (.int _), kit_ty (by decide +kernel), true, rfl, iteT ?_⟩
    exact ⟨_, rfl, _, _, _, _, false, rfl, .ty "bool", .base (.int _), kit_ty (by decide +kernel), false, rfl, q⟩
/-! ### a till, looked at -/
def spAlike (K : PySem.W.Frag) : Sp := fun vs H Q _ => ∃ (a b : Addr) (xs : List V) (ps : List (Int × Int)), vs = [.ref a, .ref b] ∧ H a = some (.lst xs) ∧ Prs H xs ps ∧ Till K H b ps ∧ Q (.bl true) H
theorem ok_alike (T : Tx K mg) : FnOk P w K mg base CX0 2 T.a__law_alike T.d__law_alike P__law_alike (spAlike K) := by
  have G__law_whole := ok_whole (P := P) (w := w) (base := base) T
  refine T.f__law_alike.ok sc__law_alike (fun vs H Q E h => ?_) (fun cdv A outer s H vs Q E hr h => ?_)
  · obtain ⟨a, b, xs, ps, rfl, _⟩ := h
    rfl
  · obtain ⟨a, b, xs, ps, rfl, ha, hp, hb, q⟩ := h
    refine ⟨_, (pss_cons (ps_if (PW.pt (pw_or (pt_not (pt_val (pe_callB call_isi (by rfl) T.m_isinstance (by decide +kernel) (pa_cons (pv 0) (pa_cons (pe_bltn (v := .ty "list") (by rfl) T.m_list (by decide +kernel) rfl) pa_nil))))) (pw_or1 (pt_cmpR (op_neD hr.units) (pv 0) (pv 1) (nomark _)))))
      (pss_one (ps_ret pe_bl))
      pss_nil)
    (pss_cons (ps_for PassesOwn.never rfl (pi_list (pv 0)) (pg_name (i := 2) sc__law_alike.nd rfl (.inl rfl))
      (pss_one (ps_if (PW.pt (pw_or (pt_not (pt_val (pe_callB call_isi (by rfl) T.m_isinstance (by decide +kernel) (pa_cons (pv 2) (pa_cons (pe_bltn (v := .ty "tuple") (by rfl) T.m_tuple (by decide +kernel) rfl) pa_nil))))) (pw_or (pt_not (pt_val (pe_call G__law_whole (hr.mono (by decide)) (by rfl) T.g__law_whole T.f__law_whole.kp T.p__law_whole .nil pass0 (pa_cons (pe_ix ix_tup (pv 2) pe_int (fun _ _ => rfl)) pa_nil)))) (pw_or1 (pt_not (pt_val (pe_call G__law_whole (hr.mono (by decide)) (by rfl) T.g__law_whole T.f__law_whole.kp T.p__law_whole .nil pass0 (pa_cons (pe_ix ix_tup (pv 2) pe_int (fun _ _ => rfl)) pa_nil))))))))
        (pss_one (ps_ret pe_bl))
        pss_nil)))
    (pss_one (ps_ret pe_bl)))), ?_⟩
    have hxl := hp.len
    refine ⟨_, rfl, _, _, _, _, true, rfl, .ty "list", .base (.lst ha), kit_ty (by decide +kernel), _, rfl, iteF ?_⟩
    refine ⟨_, rfl, _, rfl, _, _, till_dp (K := K) ⟨xs, .of ha, hp⟩, till_dp hb, shaped_till ps, shaped_till ps, ?_⟩
    rw [eqv_of_shaped (shaped_till ps)]
    refine ⟨_, rfl, iteF ?_⟩
    refine ⟨_, rfl, a, rfl, ⟨xs, .of ha⟩, for_list (xs := xs) (fun i σ H' => ∃ y2, σ = [some (.ref a), some (.ref b), y2] ∧ H' = H) ⟨_, rfl, rfl⟩ (fun i σ H' _ h => by obtain ⟨_, _, rfl⟩ := h; exact .of ha) ?_ ?_⟩
    · rintro i x σ H' hx ⟨y2, rfl, rfl⟩
      obtain ⟨p, t, h1, rfl, h3⟩ := Prs.get hp hx
      refine ⟨_, rfl, _, _, _, _, true, rfl, .ty "tuple", .base (.tup h3), kit_ty (by decide +kernel), _, rfl, iteF ?_⟩
      refine ⟨_, rfl, t, _, 0, .int p.1, rfl, rfl, .of h3, rfl, p.1, rfl, true, rfl, iteF ?_⟩
      refine ⟨_, rfl, t, _, 1, .int p.2, rfl, rfl, .of h3, rfl, p.2, rfl, true, rfl, iteF ?_⟩
      exact ⟨_, rfl, rfl⟩
    · rintro σ H' ⟨y2, rfl, rfl⟩
      exact q
/-! ### the law's own -/
def spThere (K : PySem.W.Frag) : Sp := fun vs H Q _ => ∃ (a : Addr) (ps : List (Int × Int)) (v : Int), vs = [.ref a, .int v] ∧ Till K H a ps ∧ Q (.int (there ps v)) H
theorem ok_there (T : Tx K mg) : FnOk P w K mg base CX0 1 T.a__law_there T.d__law_there P__law_there (spThere K) := by
  refine T.f__law_there.ok sc__law_there (fun vs H Q E h => ?_) (fun cdv A outer s H vs Q E hr h => ?_)
  · obtain ⟨a, ps, v, rfl, _⟩ := h
    rfl
  · obtain ⟨a, ps, v, rfl, ⟨xs, hS, hp⟩, q⟩ := h
    refine ⟨_, (pss_cons (ps_for PassesOwn.never rfl (pi_list (pv 0)) (pg_name (i := 2) sc__law_there.nd rfl (.inl rfl))
      (pss_one (ps_if (pt_cmpR op_eq (pe_ix ix_tup (pv 2) pe_int (fun _ _ => rfl)) (pv 1) (nomark _))
        (pss_one (ps_ret (pe_ix ix_tup (pv 2) pe_int (fun _ _ => rfl))))
        pss_nil)))
    (pss_one (ps_ret (pe_un un_neg pe_int)))), ?_⟩
    unfold there at q
    refine ⟨_, rfl, a, rfl, ⟨xs, hS⟩, for_list (xs := xs) (fun i σ H' => ∃ y2, σ = [some (.ref a), some (.int v), y2] ∧ H' = H ∧ countIn ps v = countIn (ps.drop i) v) ⟨_, rfl, rfl, rfl⟩ (fun i σ H' _ h => by obtain ⟨_, _, rfl, _⟩ := h; exact hS) ?_ ?_⟩
    · rintro i x σ H' hx ⟨y2, rfl, rfl, hc⟩
      obtain ⟨p, t, h1, rfl, h3⟩ := Prs.get hp hx
      rw [drop_at h1, countIn_cons] at hc
      refine ⟨_, rfl, t, _, 0, .int p.1, rfl, rfl, .of h3, rfl, _, rfl, rfl, _, rfl, iteVI (fun e => ?_) (fun e => ?_)⟩
      · rw [if_pos e] at hc
        rw [hc] at q
        exact ⟨_, rfl, t, _, 1, .int p.2, rfl, rfl, .of h3, rfl, q⟩
      · rw [if_neg e] at hc
        exact ⟨_, rfl, rfl, hc⟩
    · rintro σ H' ⟨y2, rfl, rfl, hc⟩
      rw [List.drop_of_length_le (by rw [hp.len]; exact Nat.le_refl _)] at hc
      rw [hc] at q
      exact ⟨_, rfl, q⟩
def spDueK (K : PySem.W.Frag) : Sp := fun vs H Q _ => ∃ (a : Addr) (ps : List (Int × Int)) (n v c : Int), vs = [.ref a, .int n, .int v, .int c] ∧ Till K H a ps ∧ (n = 0 ∨ n = 1 ∨ n = 2 ∨ n = 3) ∧ Q (.str (dueK ps n v c)) H
theorem ok_dueK (T : Tx K mg) : FnOk P w K mg base CX0 2 T.a__law_due T.d__law_due P__law_due (spDueK K) := by
  have G__law_there := ok_there (P := P) (w := w) (base := base) T
  refine T.f__law_due.ok sc__law_due (fun vs H Q E h => ?_) (fun cdv A outer s H vs Q E hr h => ?_)
  · obtain ⟨a, ps, n, v, c, rfl, _⟩ := h
    rfl
  · obtain ⟨a, ps, n, v, c, rfl, ⟨xs, hS, hp⟩, hn, q⟩ := h
    refine ⟨_, (pss_cons (ps_set (i := 4) sc__law_due.nd rfl (.inl rfl) (pe_call G__law_there (hr.mono (by decide)) (by rfl) T.g__law_there T.f__law_there.kp T.p__law_there .nil pass0 (pa_cons (pv 0) (pa_cons (pv 2) pa_nil))))
    (Evl.pss_cut (ps_if (PW.pt (pw_or (pt_cmpR op_lt (pv 1) pe_int (nomark _)) (pw_or1 (pt_cmpR op_eq (pv 1) pe_int (nomark _)))))
      (pss_one (ps_if (pt_cmpR op_lt (pv 4) pe_int (nomark _))
        (pss_one (ps_ret pe_str))
        pss_nil))
      pss_nil)
    (Evl.pss_cut (ps_if (pt_cmpR op_lt (pv 1) pe_int (nomark _))
      (pss_cons (ps_if (PW.pt (pw_or (pt_cmpR op_lt (pv 3) pe_int (nomark _)) (pw_or (pt_cmpR op_gt (pv 3) (pe_op op_pow pe_int pe_int) (nomark _)) (pw_or1 (PW.pt (pw_and (pt_cmpR op_eq (pv 1) pe_int (nomark _)) (pw_and1 (pt_cmpR op_gt (pe_op op_add (pv 4) (pv 3)) (pe_op op_pow pe_int pe_int) (nomark _)))))))))
        (pss_one (ps_ret pe_str))
        pss_nil)
      (pss_one (ps_if (PW.pt (pw_and (pt_cmpR op_eq (pv 1) pe_int (nomark _)) (pw_and1 (pt_cmpR op_gt (pv 3) (pv 4) (nomark _)))))
        (pss_one (ps_ret pe_str))
        pss_nil)))
      pss_nil)
    (Evl.pss_cut (ps_if (pt_cmpR op_eq (pv 1) pe_int (nomark _))
      (pss_cons (ps_if (PW.pt (pw_or (pt_cmpR op_lt (pv 2) pe_int (nomark _)) (pw_or1 (pt_cmpR op_gt (pv 2) pe_int (nomark _)))))
        (pss_one (ps_ret pe_str))
        pss_nil)
      (pss_cons (ps_if (pt_cmpR op_ge (pv 4) pe_int (nomark _))
        (pss_one (ps_ret pe_str))
        pss_nil)
      (pss_one (ps_if (pt_cmpR op_eq (pe_callB call_len_seq (by rfl) T.m_len (by decide +kernel) (pa_cons (pv 0) pa_nil)) pe_int (nomark _))
        (pss_one (ps_ret pe_str))
        pss_nil))))
      pss_nil)
    (Evl.pss_cut (ps_if (pt_cmpR op_eq (pv 1) pe_int (nomark _))
      (pss_cons (ps_if (pt_cmpR op_gt (pv 4) pe_int (nomark _))
        (pss_one (ps_ret pe_str))
        pss_nil)
      (pss_one (ps_if (pt_cmpR op_eq (pe_callB call_len_seq (by rfl) T.m_len (by decide +kernel) (pa_cons (pv 0) pa_nil)) pe_int (nomark _))
        (pss_one (ps_ret pe_str))
        pss_nil)))
      pss_nil)
    (pss_one (ps_ret pe_str))))))), ?_⟩
    have hpl := hp.len
    unfold dueK at q
    refine ⟨_, rfl, _, rfl, a, ps, v, rfl, ⟨xs, hS, hp⟩, ?_⟩
    generalize there ps v = th at q ⊢
    -- no such kind
    refine ⟨fun σ' H' => σ' = [some (.ref a), some (.int n), some (.int v), some (.int c), some (.int th)] ∧ H' = H ∧ ((n < 2 ∨ n = 3) → ¬ th < 0), ?_, ?_⟩
    · repeat (first | refine ⟨_, rfl, ?_⟩ | refine ⟨(by show (0 : Int) < _; decide), ?_⟩ | refine ⟨⟨by decide, by decide⟩, ?_⟩ | refine ⟨.inr ⟨by decide, by decide⟩, ?_⟩ | refine ⟨.inl ⟨by decide, by decide⟩, ?_⟩ | refine ⟨⟨by decide, by decide, by decide⟩, ?_⟩ | refine ⟨_, _, rfl, rfl, ?_⟩ | refine ⟨rfl, _, rfl, ?_⟩)
      first | refine iteVI (fun e => ?_) (fun e => ?_) | refine iteVN (fun e => ?_) (fun e => ?_) | refine iteD (fun e => ?_) (fun e => ?_) | refine iteDN (fun e => ?_) (fun e => ?_) | refine iteB (fun e => ?_) (fun e => ?_)
      · refine iteT ?_
        repeat (first | refine ⟨_, rfl, ?_⟩ | refine ⟨(by show (0 : Int) < _; decide), ?_⟩ | refine ⟨⟨by decide, by decide⟩, ?_⟩ | refine ⟨.inr ⟨by decide, by decide⟩, ?_⟩ | refine ⟨.inl ⟨by decide, by decide⟩, ?_⟩ | refine ⟨⟨by decide, by decide, by decide⟩, ?_⟩ | refine ⟨_, _, rfl, rfl, ?_⟩ | refine ⟨rfl, _, rfl, ?_⟩)
        first | refine iteVI (fun e2 => ?_) (fun e2 => ?_) | refine iteVN (fun e2 => ?_) (fun e2 => ?_) | refine iteD (fun e2 => ?_) (fun e2 => ?_) | refine iteDN (fun e2 => ?_) (fun e2 => ?_) | refine iteB (fun e2 => ?_) (fun e2 => ?_)
        · rw [if_pos e, if_pos e2] at q
          exact q
        · exact ⟨rfl, rfl, fun _ => e2⟩
      · repeat (first | refine ⟨_, rfl, ?_⟩ | refine ⟨(by show (0 : Int) < _; decide), ?_⟩ | refine ⟨⟨by decide, by decide⟩, ?_⟩ | refine ⟨.inr ⟨by decide, by decide⟩, ?_⟩ | refine ⟨.inl ⟨by decide, by decide⟩, ?_⟩ | refine ⟨⟨by decide, by decide, by decide⟩, ?_⟩ | refine ⟨_, _, rfl, rfl, ?_⟩ | refine ⟨rfl, _, rfl, ?_⟩)
        first | refine iteVI (fun e3 => ?_) (fun e3 => ?_) | refine iteVN (fun e3 => ?_) (fun e3 => ?_) | refine iteD (fun e3 => ?_) (fun e3 => ?_) | refine iteDN (fun e3 => ?_) (fun e3 => ?_) | refine iteB (fun e3 => ?_) (fun e3 => ?_)
        · repeat (first | refine ⟨_, rfl, ?_⟩ | refine ⟨(by show (0 : Int) < _; decide), ?_⟩ | refine ⟨⟨by decide, by decide⟩, ?_⟩ | refine ⟨.inr ⟨by decide, by decide⟩, ?_⟩ | refine ⟨.inl ⟨by decide, by decide⟩, ?_⟩ | refine ⟨⟨by decide, by decide, by decide⟩, ?_⟩ | refine ⟨_, _, rfl, rfl, ?_⟩ | refine ⟨rfl, _, rfl, ?_⟩)
          first | refine iteVI (fun e2 => ?_) (fun e2 => ?_) | refine iteVN (fun e2 => ?_) (fun e2 => ?_) | refine iteD (fun e2 => ?_) (fun e2 => ?_) | refine iteDN (fun e2 => ?_) (fun e2 => ?_) | refine iteB (fun e2 => ?_) (fun e2 => ?_)
          · rw [if_neg e, if_neg (by omega), if_pos e2] at q
            exact q
          · exact ⟨rfl, rfl, fun _ => e2⟩
        · exact ⟨rfl, rfl, fun z => absurd z (by omega)⟩
    rintro σ' H' ⟨rfl, rfl, hth⟩
    -- counts
    refine ⟨fun σ' H9 => σ' = [some (.ref a), some (.int n), some (.int v), some (.int c), some (.int th)] ∧ H9 = H' ∧ (n < 2 → Q (.str "") H'), ?_, ?_⟩
    · repeat (first | refine ⟨_, rfl, ?_⟩ | refine ⟨(by show (0 : Int) < _; decide), ?_⟩ | refine ⟨⟨by decide, by decide⟩, ?_⟩ | refine ⟨.inr ⟨by decide, by decide⟩, ?_⟩ | refine ⟨.inl ⟨by decide, by decide⟩, ?_⟩ | refine ⟨⟨by decide, by decide, by decide⟩, ?_⟩ | refine ⟨_, _, rfl, rfl, ?_⟩ | refine ⟨rfl, _, rfl, ?_⟩)
      first | refine iteVI (fun e => ?_) (fun e => ?_) | refine iteVN (fun e => ?_) (fun e => ?_) | refine iteD (fun e => ?_) (fun e => ?_) | refine iteDN (fun e => ?_) (fun e => ?_) | refine iteB (fun e => ?_) (fun e => ?_)
      · rw [if_pos e, if_neg (hth (.inl e))] at q
        repeat (first | refine ⟨_, rfl, ?_⟩ | refine ⟨(by show (0 : Int) < _; decide), ?_⟩ | refine ⟨⟨by decide, by decide⟩, ?_⟩ | refine ⟨.inr ⟨by decide, by decide⟩, ?_⟩ | refine ⟨.inl ⟨by decide, by decide⟩, ?_⟩ | refine ⟨⟨by decide, by decide, by decide⟩, ?_⟩ | refine ⟨_, _, rfl, rfl, ?_⟩ | refine ⟨rfl, _, rfl, ?_⟩)
        first | refine iteVI (fun e1 => ?_) (fun e1 => ?_) | refine iteVN (fun e1 => ?_) (fun e1 => ?_) | refine iteD (fun e1 => ?_) (fun e1 => ?_) | refine iteDN (fun e1 => ?_) (fun e1 => ?_) | refine iteB (fun e1 => ?_) (fun e1 => ?_)
        · rw [if_pos (.inl e1)] at q
          refine iteT ?_
          exact q
        repeat (first | refine ⟨_, rfl, ?_⟩ | refine ⟨(by show (0 : Int) < _; decide), ?_⟩ | refine ⟨⟨by decide, by decide⟩, ?_⟩ | refine ⟨.inr ⟨by decide, by decide⟩, ?_⟩ | refine ⟨.inl ⟨by decide, by decide⟩, ?_⟩ | refine ⟨⟨by decide, by decide, by decide⟩, ?_⟩ | refine ⟨_, _, rfl, rfl, ?_⟩ | refine ⟨rfl, _, rfl, ?_⟩)
        first | refine iteVI (fun e2 => ?_) (fun e2 => ?_) | refine iteVN (fun e2 => ?_) (fun e2 => ?_) | refine iteD (fun e2 => ?_) (fun e2 => ?_) | refine iteDN (fun e2 => ?_) (fun e2 => ?_) | refine iteB (fun e2 => ?_) (fun e2 => ?_)
        · rw [if_pos (.inr (.inl e2))] at q
          exact iteT q
        have e2' : ¬ c > 1000000000 := e2
        repeat (first | refine ⟨_, rfl, ?_⟩ | refine ⟨(by show (0 : Int) < _; decide), ?_⟩ | refine ⟨⟨by decide, by decide⟩, ?_⟩ | refine ⟨.inr ⟨by decide, by decide⟩, ?_⟩ | refine ⟨.inl ⟨by decide, by decide⟩, ?_⟩ | refine ⟨⟨by decide, by decide, by decide⟩, ?_⟩ | refine ⟨_, _, rfl, rfl, ?_⟩ | refine ⟨rfl, _, rfl, ?_⟩)
        first | refine iteVI (fun e3 => ?_) (fun e3 => ?_) | refine iteVN (fun e3 => ?_) (fun e3 => ?_) | refine iteD (fun e3 => ?_) (fun e3 => ?_) | refine iteDN (fun e3 => ?_) (fun e3 => ?_) | refine iteB (fun e3 => ?_) (fun e3 => ?_)
        · repeat (first | refine ⟨_, rfl, ?_⟩ | refine ⟨(by show (0 : Int) < _; decide), ?_⟩ | refine ⟨⟨by decide, by decide⟩, ?_⟩ | refine ⟨.inr ⟨by decide, by decide⟩, ?_⟩ | refine ⟨.inl ⟨by decide, by decide⟩, ?_⟩ | refine ⟨⟨by decide, by decide, by decide⟩, ?_⟩ | refine ⟨_, _, rfl, rfl, ?_⟩ | refine ⟨rfl, _, rfl, ?_⟩)
          first | refine iteVI (fun e4 => ?_) (fun e4 => ?_) | refine iteVN (fun e4 => ?_) (fun e4 => ?_) | refine iteD (fun e4 => ?_) (fun e4 => ?_) | refine iteDN (fun e4 => ?_) (fun e4 => ?_) | refine iteB (fun e4 => ?_) (fun e4 => ?_)
          · have e4' : th + c > 1000000000 := e4
            rw [if_pos (.inr (.inr ⟨e3, e4'⟩))] at q
            exact q
          · have e4' : ¬ th + c > 1000000000 := e4
            rw [if_neg (by omega), if_neg (by omega)] at q
            repeat (first | refine ⟨_, rfl, ?_⟩ | refine ⟨(by show (0 : Int) < _; decide), ?_⟩ | refine ⟨⟨by decide, by decide⟩, ?_⟩ | refine ⟨.inr ⟨by decide, by decide⟩, ?_⟩ | refine ⟨.inl ⟨by decide, by decide⟩, ?_⟩ | refine ⟨⟨by decide, by decide, by decide⟩, ?_⟩ | refine ⟨_, _, rfl, rfl, ?_⟩ | refine ⟨rfl, _, rfl, ?_⟩)
            first | refine iteVI (fun e5 => ?_) (fun e5 => ?_) | refine iteVN (fun e5 => ?_) (fun e5 => ?_) | refine iteD (fun e5 => ?_) (fun e5 => ?_) | refine iteDN (fun e5 => ?_) (fun e5 => ?_) | refine iteB (fun e5 => ?_) (fun e5 => ?_)
            · exact absurd e5 (by omega)
            · exact iteF ⟨rfl, rfl, fun _ => q⟩
        · rw [if_neg (by omega)] at q
          refine iteF ?_
          repeat (first | refine ⟨_, rfl, ?_⟩ | refine ⟨(by show (0 : Int) < _; decide), ?_⟩ | refine ⟨⟨by decide, by decide⟩, ?_⟩ | refine ⟨.inr ⟨by decide, by decide⟩, ?_⟩ | refine ⟨.inl ⟨by decide, by decide⟩, ?_⟩ | refine ⟨⟨by decide, by decide, by decide⟩, ?_⟩ | refine ⟨_, _, rfl, rfl, ?_⟩ | refine ⟨rfl, _, rfl, ?_⟩)
          first | refine iteVI (fun e5 => ?_) (fun e5 => ?_) | refine iteVN (fun e5 => ?_) (fun e5 => ?_) | refine iteD (fun e5 => ?_) (fun e5 => ?_) | refine iteDN (fun e5 => ?_) (fun e5 => ?_) | refine iteB (fun e5 => ?_) (fun e5 => ?_)
          · repeat (first | refine ⟨_, rfl, ?_⟩ | refine ⟨(by show (0 : Int) < _; decide), ?_⟩ | refine ⟨⟨by decide, by decide⟩, ?_⟩ | refine ⟨.inr ⟨by decide, by decide⟩, ?_⟩ | refine ⟨.inl ⟨by decide, by decide⟩, ?_⟩ | refine ⟨⟨by decide, by decide, by decide⟩, ?_⟩ | refine ⟨_, _, rfl, rfl, ?_⟩ | refine ⟨rfl, _, rfl, ?_⟩)
            first | refine iteVI (fun e6 => ?_) (fun e6 => ?_) | refine iteVN (fun e6 => ?_) (fun e6 => ?_) | refine iteD (fun e6 => ?_) (fun e6 => ?_) | refine iteDN (fun e6 => ?_) (fun e6 => ?_) | refine iteB (fun e6 => ?_) (fun e6 => ?_)
            · have e6' : c > th := e6
              rw [if_pos ⟨e5, e6'⟩] at q
              exact q
            · have e6' : ¬ c > th := e6
              rw [if_neg (by omega)] at q
              exact ⟨rfl, rfl, fun _ => q⟩
          · rw [if_neg (by omega)] at q
            exact iteF ⟨rfl, rfl, fun _ => q⟩
      · exact ⟨rfl, rfl, fun z => absurd z e⟩
    rintro σ' H9 ⟨rfl, rfl, h2⟩
    -- in
    refine ⟨fun σ' H' => σ' = [some (.ref a), some (.int n), some (.int v), some (.int c), some (.int th)] ∧ H' = H9 ∧ (n ≤ 2 → Q (.str "") H9), ?_, ?_⟩
    · repeat (first | refine ⟨_, rfl, ?_⟩ | refine ⟨(by show (0 : Int) < _; decide), ?_⟩ | refine ⟨⟨by decide, by decide⟩, ?_⟩ | refine ⟨.inr ⟨by decide, by decide⟩, ?_⟩ | refine ⟨.inl ⟨by decide, by decide⟩, ?_⟩ | refine ⟨⟨by decide, by decide, by decide⟩, ?_⟩ | refine ⟨_, _, rfl, rfl, ?_⟩ | refine ⟨rfl, _, rfl, ?_⟩)
      first | refine iteVI (fun e => ?_) (fun e => ?_) | refine iteVN (fun e => ?_) (fun e => ?_) | refine iteD (fun e => ?_) (fun e => ?_) | refine iteDN (fun e => ?_) (fun e => ?_) | refine iteB (fun e => ?_) (fun e => ?_)
      · rw [if_neg (by omega), if_pos e] at q
        repeat (first | refine ⟨_, rfl, ?_⟩ | refine ⟨(by show (0 : Int) < _; decide), ?_⟩ | refine ⟨⟨by decide, by decide⟩, ?_⟩ | refine ⟨.inr ⟨by decide, by decide⟩, ?_⟩ | refine ⟨.inl ⟨by decide, by decide⟩, ?_⟩ | refine ⟨⟨by decide, by decide, by decide⟩, ?_⟩ | refine ⟨_, _, rfl, rfl, ?_⟩ | refine ⟨rfl, _, rfl, ?_⟩)
        first | refine iteVI (fun e1 => ?_) (fun e1 => ?_) | refine iteVN (fun e1 => ?_) (fun e1 => ?_) | refine iteD (fun e1 => ?_) (fun e1 => ?_) | refine iteDN (fun e1 => ?_) (fun e1 => ?_) | refine iteB (fun e1 => ?_) (fun e1 => ?_)
        · rw [if_pos (.inl e1)] at q
          exact iteT q
        repeat (first | refine ⟨_, rfl, ?_⟩ | refine ⟨(by show (0 : Int) < _; decide), ?_⟩ | refine ⟨⟨by decide, by decide⟩, ?_⟩ | refine ⟨.inr ⟨by decide, by decide⟩, ?_⟩ | refine ⟨.inl ⟨by decide, by decide⟩, ?_⟩ | refine ⟨⟨by decide, by decide, by decide⟩, ?_⟩ | refine ⟨_, _, rfl, rfl, ?_⟩ | refine ⟨rfl, _, rfl, ?_⟩)
        first | refine iteVI (fun e2 => ?_) (fun e2 => ?_) | refine iteVN (fun e2 => ?_) (fun e2 => ?_) | refine iteD (fun e2 => ?_) (fun e2 => ?_) | refine iteDN (fun e2 => ?_) (fun e2 => ?_) | refine iteB (fun e2 => ?_) (fun e2 => ?_)
        · have e2' : v > 1000 := e2
          rw [if_pos (.inr e2')] at q
          exact q
        have e2' : ¬ v > 1000 := e2
        rw [if_neg (by omega)] at q
        repeat (first | refine ⟨_, rfl, ?_⟩ | refine ⟨(by show (0 : Int) < _; decide), ?_⟩ | refine ⟨⟨by decide, by decide⟩, ?_⟩ | refine ⟨.inr ⟨by decide, by decide⟩, ?_⟩ | refine ⟨.inl ⟨by decide, by decide⟩, ?_⟩ | refine ⟨⟨by decide, by decide, by decide⟩, ?_⟩ | refine ⟨_, _, rfl, rfl, ?_⟩ | refine ⟨rfl, _, rfl, ?_⟩)
        first | refine iteVI (fun e3 => ?_) (fun e3 => ?_) | refine iteVN (fun e3 => ?_) (fun e3 => ?_) | refine iteD (fun e3 => ?_) (fun e3 => ?_) | refine iteDN (fun e3 => ?_) (fun e3 => ?_) | refine iteB (fun e3 => ?_) (fun e3 => ?_)
        · rw [if_pos e3] at q
          exact q
        rw [if_neg e3] at q
        refine ⟨_, rfl, a, xs, rfl, .inl hS, ?_⟩
        repeat (first | refine ⟨_, rfl, ?_⟩ | refine ⟨(by show (0 : Int) < _; decide), ?_⟩ | refine ⟨⟨by decide, by decide⟩, ?_⟩ | refine ⟨.inr ⟨by decide, by decide⟩, ?_⟩ | refine ⟨.inl ⟨by decide, by decide⟩, ?_⟩ | refine ⟨⟨by decide, by decide, by decide⟩, ?_⟩ | refine ⟨_, _, rfl, rfl, ?_⟩ | refine ⟨rfl, _, rfl, ?_⟩)
        first | refine iteVI (fun e4 => ?_) (fun e4 => ?_) | refine iteVN (fun e4 => ?_) (fun e4 => ?_) | refine iteD (fun e4 => ?_) (fun e4 => ?_) | refine iteDN (fun e4 => ?_) (fun e4 => ?_) | refine iteB (fun e4 => ?_) (fun e4 => ?_)
        · rw [if_pos (by omega)] at q
          exact q
        · rw [if_neg (by omega)] at q
          exact ⟨rfl, rfl, fun _ => q⟩
      · exact ⟨rfl, rfl, fun z => h2 (by omega)⟩
    rintro σ' H' ⟨rfl, rfl, h3⟩
    -- out
    refine ⟨fun σ' H9 => H9 = H' ∧ Q (.str "") H', ?_, ?_⟩
    · repeat (first | refine ⟨_, rfl, ?_⟩ | refine ⟨(by show (0 : Int) < _; decide), ?_⟩ | refine ⟨⟨by decide, by decide⟩, ?_⟩ | refine ⟨.inr ⟨by decide, by decide⟩, ?_⟩ | refine ⟨.inl ⟨by decide, by decide⟩, ?_⟩ | refine ⟨⟨by decide, by decide, by decide⟩, ?_⟩ | refine ⟨_, _, rfl, rfl, ?_⟩ | refine ⟨rfl, _, rfl, ?_⟩)
      first | refine iteVI (fun e => ?_) (fun e => ?_) | refine iteVN (fun e => ?_) (fun e => ?_) | refine iteD (fun e => ?_) (fun e => ?_) | refine iteDN (fun e => ?_) (fun e => ?_) | refine iteB (fun e => ?_) (fun e => ?_)
      · rw [if_neg (by omega), if_neg (by omega), if_neg (hth (.inr e))] at q
        repeat (first | refine ⟨_, rfl, ?_⟩ | refine ⟨(by show (0 : Int) < _; decide), ?_⟩ | refine ⟨⟨by decide, by decide⟩, ?_⟩ | refine ⟨.inr ⟨by decide, by decide⟩, ?_⟩ | refine ⟨.inl ⟨by decide, by decide⟩, ?_⟩ | refine ⟨⟨by decide, by decide, by decide⟩, ?_⟩ | refine ⟨_, _, rfl, rfl, ?_⟩ | refine ⟨rfl, _, rfl, ?_⟩)
        first | refine iteVI (fun e1 => ?_) (fun e1 => ?_) | refine iteVN (fun e1 => ?_) (fun e1 => ?_) | refine iteD (fun e1 => ?_) (fun e1 => ?_) | refine iteDN (fun e1 => ?_) (fun e1 => ?_) | refine iteB (fun e1 => ?_) (fun e1 => ?_)
        · have e1' : th > 0 := e1
          rw [if_pos e1'] at q
          exact q
        have e1' : ¬ th > 0 := e1
        rw [if_neg e1'] at q
        refine ⟨_, rfl, a, xs, rfl, .inl hS, ?_⟩
        repeat (first | refine ⟨_, rfl, ?_⟩ | refine ⟨(by show (0 : Int) < _; decide), ?_⟩ | refine ⟨⟨by decide, by decide⟩, ?_⟩ | refine ⟨.inr ⟨by decide, by decide⟩, ?_⟩ | refine ⟨.inl ⟨by decide, by decide⟩, ?_⟩ | refine ⟨⟨by decide, by decide, by decide⟩, ?_⟩ | refine ⟨_, _, rfl, rfl, ?_⟩ | refine ⟨rfl, _, rfl, ?_⟩)
        first | refine iteVI (fun e4 => ?_) (fun e4 => ?_) | refine iteVN (fun e4 => ?_) (fun e4 => ?_) | refine iteD (fun e4 => ?_) (fun e4 => ?_) | refine iteDN (fun e4 => ?_) (fun e4 => ?_) | refine iteB (fun e4 => ?_) (fun e4 => ?_)
        · rw [if_pos (by omega)] at q
          exact q
        · rw [if_neg (by omega)] at q
          exact ⟨rfl, q⟩
      · exact ⟨rfl, h3 (by omega)⟩
    rintro σ' H9 ⟨rfl, q⟩
    exact q
def spNewT (H : Hp) (qs : List (Int × Int)) (Q : VK) : Prop := ∀ p xs H2, Ex H H2 → H p = none → H2 p = some (.lst xs) → Prs H2 xs qs → Q (.ref p) H2
def spBehind (K : PySem.W.Frag) : Sp := fun vs H Q _ => ∃ (a : Addr) (xs : List V) (ps : List (Int × Int)) (n v c : Int), vs = [.ref a, .int n, .int v, .int c] ∧ H a = some (.lst xs) ∧ Prs H xs ps ∧ Tl ps ∧ (n = 0 ∨ n = 1 ∨ n = 2 ∨ n = 3) ∧ dueK ps n v c = "" ∧
  ∀ p xs qs H2, Ex H H2 → H p = none → H2 p = some (.lst xs) → Prs H2 xs qs → Behind ps n v c qs → Q (.ref p) H2
theorem ok_behind (T : Tx K mg) : FnOk P w K mg base CX0 1 T.a__law_behind T.d__law_behind P__law_behind (spBehind K) := by
  refine T.f__law_behind.ok sc__law_behind (fun vs H Q E h => ?_) (fun cdv A outer s H vs Q E hr h => ?_)
  · obtain ⟨a, xs, ps, n, v, c, rfl, _⟩ := h
    rfl
  · obtain ⟨a, xs, ps, n, v, c, rfl, ha, hp, hT, hn, hd, q⟩ := h
    refine ⟨_, (pss_cons (ps_if (pt_cmpR op_eq (pv 1) pe_int (nomark _))
      (pss_one (ps_ret (pe_callB cr_sortedPO (by rfl) T.m_sorted (by decide +kernel) (pa_cons (pe_op op_cat (pv 0) (pe_lst (pa_cons (pe_tup (pa_cons (pv 2) (pa_cons pe_int pa_nil))) pa_nil))) pa_nil))))
      pss_nil)
    (pss_cons (ps_set (i := 4) sc__law_behind.nd rfl (.inl rfl) (pe_lst pa_nil))
    (pss_cons (ps_for PassesOwn.never rfl (pi_list (pv 0)) (pg_name (i := 5) sc__law_behind.nd rfl (.inl rfl))
      (pss_one (ps_if (pt_cmpR op_ne (pe_ix ix_tup (pv 5) pe_int (fun _ _ => rfl)) (pv 2) (nomark _))
        (pss_one (ps_expr (pe_bm PySem.F.plainAttrs_list PySem.F.slot_list_append PySem.F.type_list_append mt_append (pv 4) (pa_cons (pv 5) pa_nil))))
        (pss_one (ps_if (pt_cmpR op_lt (pv 1) pe_int (nomark _))
          (pss_one (ps_expr (pe_bm PySem.F.plainAttrs_list PySem.F.slot_list_append PySem.F.type_list_append mt_append (pv 4) (pa_cons (pe_tup (pa_cons (pv 2) (pa_cons (pe_op op_add (pe_ix ix_tup (pv 5) pe_int (fun _ _ => rfl)) (pe_ix ix_list (pe_lst (pa_cons (pv 3) (pa_cons (pe_op op_sub pe_int (pv 3)) pa_nil))) (pv 1) (fun _ _ => rfl))) pa_nil))) pa_nil))))
          pss_nil)))))
    (pss_one (ps_ret (pv 4)))))), ?_⟩
    have hpl := hp.len
    have hl10 := hT.len
    repeat (first | refine ⟨_, rfl, ?_⟩ | refine ⟨(by show (0 : Int) < _; decide), ?_⟩ | refine ⟨⟨by decide, by decide⟩, ?_⟩ | refine ⟨.inr ⟨by decide, by decide⟩, ?_⟩ | refine ⟨.inl ⟨by decide, by decide⟩, ?_⟩ | refine ⟨⟨by decide, by decide, by decide⟩, ?_⟩ | refine ⟨_, _, rfl, rfl, ?_⟩ | refine ⟨rfl, _, rfl, ?_⟩)
    first | refine iteVI (fun e => ?_) (fun e => ?_) | refine iteVN (fun e => ?_) (fun e => ?_) | refine iteD (fun e => ?_) (fun e => ?_) | refine iteDN (fun e => ?_) (fun e => ?_) | refine iteB (fun e => ?_) (fun e => ?_)
    · -- a kind more, sorted
      refine ⟨_, rfl, _, rfl, len63 (by show 2 ≤ _; decide), fun t1 ht1 => ?_⟩
      (generalize hh : upd H t1 _ = H1; have e1 : Ex H H1 := (by rw [← hh]; exact Ex.nw ht1); have c1 := (show H1 t1 = some _ by rw [← hh]; exact upd_same); clear hh)
      refine ⟨len63 (by show 1 ≤ _; decide), fun l1 hl1 => ?_⟩
      (generalize hh : upd H1 l1 _ = H2; have e2 : Ex H1 H2 := (by rw [← hh]; exact Ex.nw hl1); have c2 := (show H2 l1 = some _ by rw [← hh]; exact upd_same); clear hh)
      refine ⟨a, l1, _, _, rfl, rfl, e2 _ _ (e1 _ _ ha), c2, len63 (by show xs.length + 1 ≤ _; omega), fun l2 hl2 => ?_⟩
      (generalize hh : upd H2 l2 _ = H3; have e3 : Ex H2 H3 := (by rw [← hh]; exact Ex.nw hl2); have c3 := (show H3 l2 = some _ by rw [← hh]; exact upd_same); clear hh)
      have ex3 := (e1.tr e2).tr e3
      have hps : Prs H3 (xs ++ [.ref t1]) (ps ++ [(v, 0)]) := Prs.snoc (hp.ex ex3) ⟨t1, rfl, e3 _ _ (e2 _ _ c1)⟩
      refine ⟨l2, _, pairAt H3, rfl, .of c3, hps.all, fun ys t z1 z2 ht => ?_⟩
      have hnd : ((ps ++ [(v, 0)]).map fun p : Int × Int => p.1).Nodup := by
        rw [List.map_append]
        refine nd_snoc hT.nd fun hm => ?_
        obtain ⟨p, hp1, hp2⟩ := List.mem_map.mp hm
        have h1 := countIn_nd hT.nd hp1
        rw [show p.1 = v from hp2] at h1
        have h4 : 0 ≤ there ps v := by
          rw [there_some h1]
          exact (hT.cnt p hp1).1
        unfold dueK at hd
        rw [if_neg (by omega), if_pos e] at hd
        split at hd
        · exact absurd hd (by decide)
        · exact absurd hd (by decide)
      obtain ⟨qs, hq, hpm, hris⟩ := sorted_prs hps hnd z1 z2
      exact q t ys qs _ (ex3.tr (Ex.nw ht)) (none_back ex3 ht) upd_same (hq.ex (Ex.nw ht)) (.inr (.inr (.inl ⟨e, hris, hpm⟩)))
    · refine ⟨Nat.zero_le _, fun f hf => ?_⟩
      -- what stands in the list behind some pairs
      refine ⟨_, rfl, a, rfl, ⟨xs, .of ((Ex.nw hf) _ _ ha)⟩, for_list (xs := xs) (fun i σ H' => ∃ zs y5, σ = [some (.ref a), some (.int n), some (.int v), some (.int c), some (.ref f), y5] ∧ Ex H H' ∧ H' f = some (.lst zs) ∧ zs.length ≤ i ∧
          Prs H' zs (if n = 3 then (ps.take i).filter (fun p : Int × Int => decide (p.1 ≠ v)) else addC (ps.take i) v (if n = 0 then c else -c)))
        ⟨[], _, rfl, Ex.nw hf, upd_same, Nat.le_refl _, by split <;> exact .nil⟩ (fun i σ H' _ h => by
          obtain ⟨_, _, _, ex, _⟩ := h
          exact .of (ex _ _ ha)) ?_ ?_⟩
      · rintro i x σ H1 hx ⟨zs, y5, rfl, ex, ef, hzl, hz⟩
        obtain ⟨p, t, h1, rfl, h3⟩ := Prs.get hp hx
        have h3' := ex _ _ h3
        have hi : i < ps.length := (List.getElem?_eq_some_iff.mp h1).1
        have sA : ∀ d, addC (ps.take (i + 1)) v d = addC (ps.take i) v d ++ [if p.1 = v then (p.1, p.2 + d) else p] := fun d => by
          unfold addC
          rw [take_snoc h1, List.map_append]
          rfl
        have sF : (ps.take (i + 1)).filter (fun p : Int × Int => decide (p.1 ≠ v)) = (ps.take i).filter (fun p : Int × Int => decide (p.1 ≠ v)) ++ (if p.1 = v then [] else [p]) := by
          rw [take_snoc h1, List.filter_append]
          congr 1
          by_cases z : p.1 = v
          · rw [if_pos z]
            exact List.filter_cons_of_neg (by simp [z])
          · rw [if_neg z]
            exact List.filter_cons_of_pos (by simp [z])
        refine ⟨_, rfl, t, _, 0, .int p.1, rfl, rfl, .of h3', rfl, _, rfl, rfl, _, rfl, iteVN (fun ne => ?_) (fun eq => ?_)⟩
        · -- another kind: the pair itself
          refine ⟨_, rfl, .inl ⟨rfl, zs, .of ef⟩, _, rfl, f, zs, _, rfl, rfl, ef, len63' (by omega), zs ++ [.ref t], some (.ref t), rfl, Ex.mu ex hf, upd_same, by rw [List.length_append]; show _ + 1 ≤ _; omega, ?_⟩
          have hz' : Prs (upd H1 f (.lst (zs ++ [.ref t]))) (zs ++ [.ref t]) ((if n = 3 then (ps.take i).filter (fun p : Int × Int => decide (p.1 ≠ v)) else addC (ps.take i) v (if n = 0 then c else -c)) ++ [p]) :=
            (Prs.snoc hz ⟨t, rfl, h3'⟩).up (by intro bs z; rw [ef] at z; cases z)
          rw [sF, sA, if_neg ne, if_neg ne]
          by_cases n3 : n = 3
          · rw [if_pos n3] at hz' ⊢
            exact hz'
          · rw [if_neg n3] at hz' ⊢
            exact hz'
        · refine ⟨_, rfl, _, _, rfl, rfl, _, rfl, iteD (fun lt => ?_) (fun nlt => ?_)⟩
          · have h01 : n = 0 ∨ n = 1 := by omega
            refine ⟨_, rfl, .inl ⟨rfl, zs, .of ef⟩, _, rfl, _, rfl, t, _, 1, .int p.2, rfl, rfl, .of h3', rfl, ?_⟩
            refine ⟨_, rfl, _, rfl, _, _, rfl, rfl, len63 (by show 2 ≤ _; decide), fun l hl => ?_⟩
            have ia : atI [V.int c, V.int (0 - c)] n = some (.int (if n = 0 then c else -c)) := by
              rcases h01 with rfl | rfl
              · rfl
              · show some (V.int (0 - c)) = some (V.int (if (1 : Int) = 0 then c else -c))
                rw [if_neg (by decide), Int.zero_sub]
            refine ⟨_, rfl, l, _, _, _, rfl, rfl, .of upd_same, ia, _, _, rfl, rfl, ?_⟩
            generalize (if n = 0 then c else -c) = d at hz sA ⊢
            (generalize hh : upd H1 l _ = H2; have e2 : Ex H1 H2 := (by rw [← hh]; exact Ex.nw hl); have c2 := (show H2 l = some _ by rw [← hh]; exact upd_same); clear hh)
            have ef2 := e2 _ _ ef
            have hz2 := hz.ex e2
            refine ⟨len63 (by show 2 ≤ _; decide), fun t2 ht2 => ?_⟩
            have nft : f ≠ t2 := ne_of_none ef2 ht2
            have ef3 : (upd H2 t2 (.tup [.int v, .int (p.2 + d)])) f = some (.lst zs) := by rw [upd_ne nft]; exact ef2
            refine ⟨f, zs, _, rfl, rfl, ef3, len63' (by omega), zs ++ [.ref t2], some (.ref t), rfl, Ex.mu ((ex.tr e2).tr (Ex.nw ht2)) hf, upd_same, by rw [List.length_append]; show _ + 1 ≤ _; omega, ?_⟩
            rw [if_neg (show ¬ n = 3 by omega)] at hz2 ⊢
            rw [sA, if_pos eq, eq]
            refine Prs.up (by intro bs z; rw [ef3] at z; cases z) ?_
            exact Prs.snoc (hz2.ex (Ex.nw ht2)) ⟨t2, rfl, upd_same⟩
          · have n3 : n = 3 := by omega
            refine ⟨zs, some (.ref t), rfl, ex, ef, by omega, ?_⟩
            rw [if_pos n3] at hz ⊢
            rw [sF, if_pos eq, List.append_nil]
            exact hz
      · rintro σ H' ⟨zs, y5, rfl, ex, ef, hzl, hz⟩
        rw [List.take_of_length_le (by rw [hpl]; exact Nat.le_refl _)] at hz
        refine ⟨_, rfl, q f zs _ H' ex hf ef hz ?_⟩
        rcases hn with rfl | rfl | rfl | rfl
        · exact .inl ⟨rfl, rfl⟩
        · exact .inr (.inl ⟨rfl, rfl⟩)
        · exact absurd rfl e
        · exact .inr (.inr (.inr ⟨rfl, rfl⟩))
/-! ### the deeds of the program -/
def spCheck (lo hi : Int) (cN : Addr) : Sp := fun vs H Q E => ∃ v : Int, vs = [.int v] ∧ ((lo ≤ v ∧ v ≤ hi) → Q .non H) ∧ (¬ (lo ≤ v ∧ v ≤ hi) → E (.ref cN) none H)
theorem ok_check_value (T : Tx K mg) : FnOk P w K mg base (L2.CX P w) 1 T.a_check_value T.d_check_value P_check_value (spCheck 1 1000 T.c_NoKind) := by
  refine T.f_check_value.okX sc_check_value (fun vs H Q E h => ?_) (fun cdv A outer s H vs Q E hr h => ?_)
  · obtain ⟨v, rfl, _⟩ := h
    rfl
  · obtain ⟨v, rfl, q1, q2⟩ := h
    refine ⟨_, (pss_one (ps_if (pt_not (pt_chain op_le op_le pe_int (pv 0) (pe_glob (v := .int 1000) (by rfl) T.w_MOST_VALUE.choose_spec ⟨_, rfl⟩)))
      (pss_one (ps_raise rfl (takes_of rfl rfl rfl rfl) (pmk_own PySem.F.excBase_ValueError T.x_NoKind T.g_NoKind T.k_NoKind (raises_own T.b_NoKind T.t_NoKind) rfl)))
      pss_nil)), ?_⟩
    repeat (first | refine ⟨_, rfl, ?_⟩ | refine ⟨(by show (0 : Int) < _; decide), ?_⟩ | refine ⟨⟨by decide, by decide⟩, ?_⟩ | refine ⟨.inr ⟨by decide, by decide⟩, ?_⟩ | refine ⟨.inl ⟨by decide, by decide⟩, ?_⟩ | refine ⟨⟨by decide, by decide, by decide⟩, ?_⟩ | refine ⟨_, _, rfl, rfl, ?_⟩ | refine ⟨rfl, _, rfl, ?_⟩)
    first | refine iteVI (fun e => ?_) (fun e => ?_) | refine iteVN (fun e => ?_) (fun e => ?_) | refine iteD (fun e => ?_) (fun e => ?_) | refine iteDN (fun e => ?_) (fun e => ?_) | refine iteB (fun e => ?_) (fun e => ?_)
    · repeat (first | refine ⟨_, rfl, ?_⟩ | refine ⟨(by show (0 : Int) < _; decide), ?_⟩ | refine ⟨⟨by decide, by decide⟩, ?_⟩ | refine ⟨.inr ⟨by decide, by decide⟩, ?_⟩ | refine ⟨.inl ⟨by decide, by decide⟩, ?_⟩ | refine ⟨⟨by decide, by decide, by decide⟩, ?_⟩ | refine ⟨_, _, rfl, rfl, ?_⟩ | refine ⟨rfl, _, rfl, ?_⟩)
      first | refine iteVI (fun e' => ?_) (fun e' => ?_) | refine iteVN (fun e' => ?_) (fun e' => ?_) | refine iteD (fun e' => ?_) (fun e' => ?_) | refine iteDN (fun e' => ?_) (fun e' => ?_) | refine iteB (fun e' => ?_) (fun e' => ?_)
      · exact q2 fun z => e' z.2
      · exact q1 ⟨e, e'⟩
    · exact ⟨_, rfl, iteT (q2 fun z => e z.1)⟩
theorem ok_check_count (T : Tx K mg) : FnOk P w K mg base (L2.CX P w) 1 T.a_check_count T.d_check_count P_check_count (spCheck 0 1000000000 T.c_NoCount) := by
  refine T.f_check_count.okX sc_check_count (fun vs H Q E h => ?_) (fun cdv A outer s H vs Q E hr h => ?_)
  · obtain ⟨v, rfl, _⟩ := h
    rfl
  · obtain ⟨v, rfl, q1, q2⟩ := h
    refine ⟨_, (pss_one (ps_if (pt_not (pt_chain op_le op_le pe_int (pv 0) (pe_glob (v := .int 1000000000) (by rfl) T.w_MOST_COUNT.choose_spec ⟨_, rfl⟩)))
      (pss_one (ps_raise rfl (takes_of rfl rfl rfl rfl) (pmk_own PySem.F.excBase_ValueError T.x_NoCount T.g_NoCount T.k_NoCount (raises_own T.b_NoCount T.t_NoCount) rfl)))
      pss_nil)), ?_⟩
    repeat (first | refine ⟨_, rfl, ?_⟩ | refine ⟨(by show (0 : Int) < _; decide), ?_⟩ | refine ⟨⟨by decide, by decide⟩, ?_⟩ | refine ⟨.inr ⟨by decide, by decide⟩, ?_⟩ | refine ⟨.inl ⟨by decide, by decide⟩, ?_⟩ | refine ⟨⟨by decide, by decide, by decide⟩, ?_⟩ | refine ⟨_, _, rfl, rfl, ?_⟩ | refine ⟨rfl, _, rfl, ?_⟩)
    first | refine iteVI (fun e => ?_) (fun e => ?_) | refine iteVN (fun e => ?_) (fun e => ?_) | refine iteD (fun e => ?_) (fun e => ?_) | refine iteDN (fun e => ?_) (fun e => ?_) | refine iteB (fun e => ?_) (fun e => ?_)
    · repeat (first | refine ⟨_, rfl, ?_⟩ | refine ⟨(by show (0 : Int) < _; decide), ?_⟩ | refine ⟨⟨by decide, by decide⟩, ?_⟩ | refine ⟨.inr ⟨by decide, by decide⟩, ?_⟩ | refine ⟨.inl ⟨by decide, by decide⟩, ?_⟩ | refine ⟨⟨by decide, by decide, by decide⟩, ?_⟩ | refine ⟨_, _, rfl, rfl, ?_⟩ | refine ⟨rfl, _, rfl, ?_⟩)
      first | refine iteVI (fun e' => ?_) (fun e' => ?_) | refine iteVN (fun e' => ?_) (fun e' => ?_) | refine iteD (fun e' => ?_) (fun e' => ?_) | refine iteDN (fun e' => ?_) (fun e' => ?_) | refine iteB (fun e' => ?_) (fun e' => ?_)
      · exact q2 fun z => e' z.2
      · exact q1 ⟨e, e'⟩
    · exact ⟨_, rfl, iteT (q2 fun z => e z.1)⟩
def spWithCount (K : PySem.W.Frag) : Sp := fun vs H Q _ => ∃ (a : Addr) (ps : List (Int × Int)) (v n : Int), vs = [.ref a, .int v, .int n] ∧ Till K H a ps ∧ ps.length ≤ 1000 ∧ spNewT H (ps.map fun p => (p.1, if p.1 = v then n else p.2)) Q
theorem ok_with_count (T : Tx K mg) : FnOk P w K mg base CX0 1 T.a__with_count T.d__with_count P__with_count (spWithCount K) := by
  refine T.f__with_count.ok sc__with_count (fun vs H Q E h => ?_) (fun cdv A outer s H vs Q E hr h => ?_)
  · obtain ⟨a, ps, v, n, rfl, _⟩ := h
    rfl
  · obtain ⟨a, ps, v, n, rfl, ⟨xs, hS, hp⟩, hl, q⟩ := h
    refine ⟨_, (pss_one (ps_ret (pe_lc (own := [("held", 3), ("lies", 4)]) (g := gTup K 2 (gCons (gName 3) (gCons (gName 4) gNil))) rfl sc__with_count.nd (pi_list (pv 0)) (blkOk_by (own := [("held", 3), ("lies", 4)]) (N := N__with_count) (sc := defScope s__with_count) (by decide +kernel)) (fun _ _ _ _ _ => pg_tup rfl (pgs_cons (pg_name (i := 3) sc__with_count.nd rfl (.inl rfl) (.inr rfl)) (pgs_cons (pg_name (i := 4) sc__with_count.nd rfl (.inl rfl) (.inr rfl)) pgs_nil))) (fun _ _ _ _ _ => pts_nil) (fun _ _ _ _ _ => (pe_tup (pa_cons (pv 3) (pa_cons (pe_ifExp (pt_cmpR op_eq (pv 3) (pv 1) (nomark _)) (pv 2) (pv 4)) pa_nil))))))), ?_⟩
    refine ⟨_, rfl, a, rfl, ⟨xs, hS⟩, fun D hD => lc_list (xs := xs) (fun i H' => ∃ ys, Ex H H' ∧ H' D = some (.lst ys) ∧ ys.length = i ∧ Prs H' ys ((ps.take i).map fun p => (p.1, if p.1 = v then n else p.2))) ⟨[], Ex.nw hD, upd_same, rfl, .nil⟩ (fun i H' _ h => by
      obtain ⟨_, e, _⟩ := h
      exact e.seq hS) ?_ ?_⟩
    · rintro i x H' hx ⟨ys, ex, eD, hyl, hys⟩
      obtain ⟨p, t, h1, rfl, h3⟩ := Prs.get hp hx
      have hi : i < ps.length := (List.getElem?_eq_some_iff.mp h1).1
      refine ⟨t, _, rfl, .of (ex _ _ h3), rfl, _, _, rfl, _, _, rfl, rfl, rfl, ?_⟩
      refine t_yes ?_
      have fin : ∀ z : Int, z = (if p.1 = v then n else p.2) → ∀ t2, H' t2 = none → ∃ acc, (upd H' t2 (.tup [.int p.1, .int z])) D = some (.lst acc) ∧ acc.length < sizeLine ∧ ∃ zs, Ex H (upd (upd H' t2 (.tup [.int p.1, .int z])) D (.lst (acc ++ [.ref t2]))) ∧ (upd (upd H' t2 (.tup [.int p.1, .int z])) D (.lst (acc ++ [.ref t2]))) D = some (.lst zs) ∧ zs.length = i + 1 ∧ Prs (upd (upd H' t2 (.tup [.int p.1, .int z])) D (.lst (acc ++ [.ref t2]))) zs ((ps.take (i + 1)).map fun p => (p.1, if p.1 = v then n else p.2)) := by
        intro z hz t2 ht2
        have nDt : D ≠ t2 := ne_of_none eD ht2
        have eD' : (upd H' t2 (.tup [.int p.1, .int z])) D = some (.lst ys) := by rw [upd_ne nDt]; exact eD
        refine ⟨ys, eD', len63' (by omega), ys ++ [.ref t2], Ex.mu (ex.tr (Ex.nw ht2)) hD, upd_same, by rw [List.length_append, hyl]; rfl, ?_⟩
        rw [take_snoc h1, List.map_append]
        refine Prs.up (by intro bs y; rw [eD'] at y; cases y) ?_
        exact Prs.snoc (hys.ex (Ex.nw ht2)) ⟨t2, rfl, by rw [upd_same, hz]⟩
      refine ⟨_, rfl, ?_⟩
      refine ⟨_, rfl, _, rfl, rfl, _, rfl, iteVI (fun e => ?_) (fun e => ?_)⟩
      · exact ⟨_, rfl, len63 (by show 2 ≤ _; decide), fun t2 ht2 => fin _ (if_pos e).symm t2 ht2⟩
      · exact ⟨_, rfl, len63 (by show 2 ≤ _; decide), fun t2 ht2 => fin _ (if_neg e).symm t2 ht2⟩
    · rintro H' ⟨ys, ex, eD, hyl, hys⟩
      rw [List.take_of_length_le (by rw [hp.len]; exact Nat.le_refl _)] at hys
      exact q D ys H' ex hD eD hys
def spDeed (K : PySem.W.Frag) (cK cC cF cT cL cH : Addr) (n : Int) : Sp := fun vs H Q E => ∃ (a : Addr) (xs : List V) (ps : List (Int × Int)) (v c : Int), vs = (if n < 2 then [.ref a, .int v, .int c] else [.ref a, .int v]) ∧ H a = some (.lst xs) ∧ Prs H xs ps ∧ Tl ps ∧ OutK cK cC cF cT cL cH ps n v c H Q E
theorem ok_brought (T : Tx K mg) : FnOk P w K mg base (L2.CX P w) 2 T.a_brought T.d_brought P_brought (spDeed K T.c_NoKind T.c_NoCount T.c_TooFew T.c_Twice T.c_NoTill T.c_StillHeld 0) := by
  have G_count_of := ok_count_of (P := P) (w := w) (base := base) T
  have G_check_count := ok_check_count (P := P) (w := w) (base := base) T
  have G__with_count := ok_with_count (P := P) (w := w) (base := base) T
  refine T.f_brought.okX sc_brought (fun vs H Q E h => ?_) (fun cdv A outer s H vs Q E hr h => ?_)
  · obtain ⟨a, xs, ps, v, c, rfl, _⟩ := h
    rfl
  · obtain ⟨a, xs, ps, v, c, rfl, ha, hp, hT, q0, qk, qc, _⟩ := h
    refine ⟨_, (pss_cons (ps_set (i := 3) sc_brought.nd rfl (.inl rfl) (pe_call G_count_of (hr.mono (by decide)) (by rfl) T.g_count_of T.f_count_of.kp T.p_count_of .nil (passes_call (takes_of rfl rfl rfl rfl) fun _ _ _ _ h => h) (pa_cons (pv 0) (pa_cons (pv 1) pa_nil))))
    (pss_cons (ps_expr (pe_call G_check_count (hr.mono (by decide)) (by rfl) T.g_check_count T.f_check_count.kp T.p_check_count .nil (passes_call (takes_of rfl rfl rfl rfl) fun _ _ _ _ h => h) (pa_cons (pv 2) pa_nil)))
    (pss_cons (ps_expr (pe_call G_check_count (hr.mono (by decide)) (by rfl) T.g_check_count T.f_check_count.kp T.p_check_count .nil (passes_call (takes_of rfl rfl rfl rfl) fun _ _ _ _ h => h) (pa_cons (pe_op op_add (pv 3) (pv 2)) pa_nil)))
    (pss_one (ps_ret (pe_call G__with_count (hr.mono (by decide)) (by rfl) T.g__with_count T.f__with_count.kp T.p__with_count .nil pass0 (pa_cons (pv 0) (pa_cons (pv 1) (pa_cons (pe_op op_add (pv 3) (pv 2)) pa_nil))))))))), ?_⟩
    have hTl : Till K H a ps := ⟨xs, .of ha, hp⟩
    unfold dueK at q0 qk qc
    rw [if_pos (by decide)] at q0 qk qc
    refine ⟨_, rfl, _, rfl, a, ps, v, rfl, hTl, fun t ht => ?_, fun hn => ?_⟩
    · have hb := hT.there_nn ht
      rw [there_some ht, if_neg (by omega)] at q0 qk qc
      refine ⟨_, rfl, c, rfl, fun hc => ?_, fun hc => ?_⟩
      · refine ⟨_, rfl, _, rfl, _, _, rfl, rfl, t + c, rfl, fun hc2 => ?_, fun hc2 => ?_⟩
        · rw [if_neg (by omega), if_neg (by omega)] at q0
          refine ⟨_, rfl, _, rfl, _, rfl, _, rfl, _, _, rfl, rfl, a, ps, v, t + c, rfl, hTl, by have := hT.len; omega, fun p ys H2 ex hp2 ep hpr => ?_⟩
          refine q0 rfl p ys _ H2 ex hp2 ep hpr (.inl ⟨rfl, ?_⟩)
          rw [setC_eq hT.nd ht]
          congr 1
          omega
        · rw [if_pos (by omega)] at qc
          exact qc rfl _ Ex.rfl'
      · rw [if_pos (by omega)] at qc
        exact qc rfl _ Ex.rfl'
    · rw [there_none hn, if_pos (by decide)] at qk
      exact qk rfl _ Ex.rfl'
theorem ok_fetched (T : Tx K mg) : FnOk P w K mg base (L2.CX P w) 2 T.a_fetched T.d_fetched P_fetched (spDeed K T.c_NoKind T.c_NoCount T.c_TooFew T.c_Twice T.c_NoTill T.c_StillHeld 1) := by
  have G_count_of := ok_count_of (P := P) (w := w) (base := base) T
  have G_check_count := ok_check_count (P := P) (w := w) (base := base) T
  have G__with_count := ok_with_count (P := P) (w := w) (base := base) T
  refine T.f_fetched.okX sc_fetched (fun vs H Q E h => ?_) (fun cdv A outer s H vs Q E hr h => ?_)
  · obtain ⟨a, xs, ps, v, c, rfl, _⟩ := h
    rfl
  · obtain ⟨a, xs, ps, v, c, rfl, ha, hp, hT, q0, qk, qc, qf, _⟩ := h
    refine ⟨_, (pss_cons (ps_set (i := 3) sc_fetched.nd rfl (.inl rfl) (pe_call G_count_of (hr.mono (by decide)) (by rfl) T.g_count_of T.f_count_of.kp T.p_count_of .nil (passes_call (takes_of rfl rfl rfl rfl) fun _ _ _ _ h => h) (pa_cons (pv 0) (pa_cons (pv 1) pa_nil))))
    (pss_cons (ps_expr (pe_call G_check_count (hr.mono (by decide)) (by rfl) T.g_check_count T.f_check_count.kp T.p_check_count .nil (passes_call (takes_of rfl rfl rfl rfl) fun _ _ _ _ h => h) (pa_cons (pv 2) pa_nil)))
    (pss_cons (ps_if (pt_cmpR op_gt (pv 2) (pv 3) (nomark _))
      (pss_one (ps_raise rfl (takes_of rfl rfl rfl rfl) (pmk_own PySem.F.excBase_ValueError T.x_TooFew T.g_TooFew T.k_TooFew (raises_own T.b_TooFew T.t_TooFew) rfl)))
      pss_nil)
    (pss_one (ps_ret (pe_call G__with_count (hr.mono (by decide)) (by rfl) T.g__with_count T.f__with_count.kp T.p__with_count .nil pass0 (pa_cons (pv 0) (pa_cons (pv 1) (pa_cons (pe_op op_sub (pv 3) (pv 2)) pa_nil))))))))), ?_⟩
    have hTl : Till K H a ps := ⟨xs, .of ha, hp⟩
    unfold dueK at q0 qk qc qf
    rw [if_pos (by decide)] at q0 qk qc qf
    refine ⟨_, rfl, _, rfl, a, ps, v, rfl, hTl, fun t ht => ?_, fun hn => ?_⟩
    · have hb := hT.there_nn ht
      rw [there_some ht, if_neg (by omega)] at q0 qk qc qf
      refine ⟨_, rfl, c, rfl, fun hc => ?_, fun hc => ?_⟩
      · rw [if_neg (by omega)] at q0 qf
        refine ⟨_, rfl, _, rfl, _, _, rfl, rfl, _, rfl, iteD (fun e => ?_) (fun e => ?_)⟩
        · have e' : c > t := e
          rw [if_pos ⟨rfl, e'⟩] at qf
          exact qf rfl _ Ex.rfl'
        · have e' : ¬ c > t := e
          rw [if_neg (by omega)] at q0
          refine ⟨_, rfl, _, rfl, _, rfl, _, rfl, _, _, rfl, rfl, a, ps, v, t - c, rfl, hTl, by have := hT.len; omega, fun p ys H2 ex hp2 ep hpr => ?_⟩
          refine q0 rfl p ys _ H2 ex hp2 ep hpr (.inr (.inl ⟨rfl, ?_⟩))
          rw [setC_eq hT.nd ht]
          congr 1
          omega
      · rw [if_pos (by omega)] at qc
        exact qc rfl _ Ex.rfl'
    · rw [there_none hn, if_pos (by decide)] at qk
      exact qk rfl _ Ex.rfl'
theorem countIn_all {ps : List (Int × Int)} {v : Int} (h : ∀ p ∈ ps, p.1 ≠ v) : countIn ps v = none := by
  induction ps with
  | nil => rfl
  | cons p ps ih =>
    rw [countIn_cons, if_neg (h p List.mem_cons_self)]
    exact ih fun q hq => h q (List.mem_cons_of_mem _ hq)
theorem nd_more {ps : List (Int × Int)} {v : Int} (hT : Tl ps) (h : countIn ps v = none) : ((ps ++ [(v, 0)]).map fun p : Int × Int => p.1).Nodup := by
  rw [List.map_append]
  refine nd_snoc hT.nd fun hm => ?_
  obtain ⟨p, hp1, hp2⟩ := List.mem_map.mp hm
  have h1 := countIn_nd hT.nd hp1
  rw [show p.1 = v from hp2, h] at h1
  cases h1
/-! ### whether a number stands in a list -/
theorem flat_ints (l : List Int) : (l.map V.int).all flatV = true := by
  rw [List.all_eq_true]
  intro x hx
  obtain ⟨i, _, rfl⟩ := List.mem_map.mp hx
  rfl
theorem inV_int (z : Int) (l : List Int) : inV (.int z) (l.map V.int) = decide (z ∈ l) := by
  induction l with
  | nil => rfl
  | cons a l ih =>
    unfold inV at ih ⊢
    rw [List.map_cons, List.any_cons, ih]
    have h : eqV (.int a) (.int z) = decide (z = a) := by
      show (a == z) = decide (z = a)
      by_cases e : z = a
      · rw [e]
        simp
      · rw [decide_eq_false e]
        simpa using fun h => e (Eq.symm h)
    rw [h]
    by_cases e : z = a
    · simp [e]
    · simp [e]
theorem fst_ints (ps : List (Int × Int)) : (ps.map fun p => V.int p.1) = (ps.map fun p : Int × Int => p.1).map V.int := by
  rw [List.map_map]
  rfl
theorem ok_kind_in (T : Tx K mg) : FnOk P w K mg base (L2.CX P w) 2 T.a_kind_in T.d_kind_in P_kind_in (spDeed K T.c_NoKind T.c_NoCount T.c_TooFew T.c_Twice T.c_NoTill T.c_StillHeld 2) := by
  have G_check_value := ok_check_value (P := P) (w := w) (base := base) T
  refine T.f_kind_in.okX sc_kind_in (fun vs H Q E h => ?_) (fun cdv A outer s H vs Q E hr h => ?_)
  · obtain ⟨a, xs, ps, v, c, rfl, _⟩ := h
    rfl
  · obtain ⟨a, xs, ps, v, c, rfl, ha, hp, hT, q0, qk, qc, qf, qt, ql, _⟩ := h
    refine ⟨_, (pss_cons (ps_expr (pe_call G_check_value (hr.mono (by decide)) (by rfl) T.g_check_value T.f_check_value.kp T.p_check_value .nil (passes_call (takes_of rfl rfl rfl rfl) fun _ _ _ _ h => h) (pa_cons (pv 1) pa_nil)))
    (pss_cons (ps_if (pt_cmpR op_in_seq (pv 1) (pe_lc (own := [("held", 2), ("_", 3)]) (g := gTup K 2 (gCons (gName 2) (gCons (gName 3) gNil))) rfl sc_kind_in.nd (pi_list (pv 0)) (blkOk_by (own := [("held", 2), ("_", 3)]) (N := N_kind_in) (sc := defScope s_kind_in) (by decide +kernel)) (fun _ _ _ _ _ => pg_tup rfl (pgs_cons (pg_name (i := 2) sc_kind_in.nd rfl (.inl rfl) (.inr rfl)) (pgs_cons (pg_name (i := 3) sc_kind_in.nd rfl (.inl rfl) (.inr rfl)) pgs_nil))) (fun _ _ _ _ _ => pts_nil) (fun _ _ _ _ _ => (pv 2))) (by rfl))
      (pss_one (ps_raise rfl (takes_of rfl rfl rfl rfl) (pmk_own PySem.F.excBase_ValueError T.x_Twice T.g_Twice T.k_Twice (raises_own T.b_Twice T.t_Twice) rfl)))
      pss_nil)
    (pss_cons (ps_if (pt_cmpR op_ge (pe_callB call_len_seq (by rfl) T.m_len (by decide +kernel) (pa_cons (pv 0) pa_nil)) (pe_glob (v := .int 10) (by rfl) T.w_MOST_KINDS.choose_spec ⟨_, rfl⟩) (nomark _))
      (pss_one (ps_raise rfl (takes_of rfl rfl rfl rfl) (pmk_own PySem.F.excBase_ValueError T.x_NoTill T.g_NoTill T.k_NoTill (raises_own T.b_NoTill T.t_NoTill) rfl)))
      pss_nil)
    (pss_one (ps_ret (pe_callB cr_sortedPO (by rfl) T.m_sorted (by decide +kernel) (pa_cons (pe_op op_cat (pv 0) (pe_lst (pa_cons (pe_tup (pa_cons (pv 1) (pa_cons pe_int pa_nil))) pa_nil))) pa_nil))))))), ?_⟩
    have hpl := hp.len
    unfold dueK at q0 qk qt ql
    rw [if_neg (by decide), if_pos rfl] at q0 qk qt ql
    refine ⟨_, rfl, v, rfl, fun hv => ?_, fun hv => ?_⟩
    · rw [if_neg (by omega)] at q0 qt ql
      refine ⟨_, rfl, _, rfl, a, rfl, ⟨xs, .of ha⟩, fun D hD => lc_list (xs := xs) (fun i H' => Ex H H' ∧ H' D = some (.lst ((ps.take i).map fun p => V.int p.1))) ⟨Ex.nw hD, upd_same⟩ (fun i H' _ h => .of (h.1 _ _ ha)) ?_ ?_⟩
      · rintro i x H' hx ⟨ex, eD⟩
        obtain ⟨p, t, h1, rfl, h3⟩ := Prs.get hp hx
        refine ⟨t, _, rfl, .of (ex _ _ h3), rfl, _, _, rfl, _, _, rfl, rfl, rfl, t_yes ?_⟩
        refine ⟨_, rfl, _, eD, len63' (by rw [List.length_map, List.length_take]; have := hT.len; omega), Ex.mu ex hD, ?_⟩
        rw [upd_same, take_succ_map _ h1]
      · rintro H' ⟨ex, eD⟩
        rw [List.take_of_length_le (by omega), fst_ints] at eD
        refine ⟨D, _, rfl, .inl (.of eD), rfl, flat_ints _, _, rfl, ?_⟩
        rw [show (if false = true then !inV (.int v) ((ps.map fun p : Int × Int => p.1).map V.int) else inV (.int v) ((ps.map fun p : Int × Int => p.1).map V.int)) = decide (v ∈ ps.map fun p : Int × Int => p.1) by rw [if_neg (by decide), inV_int]]
        refine iteD (fun hin => ?_) (fun hno => ?_)
        · obtain ⟨p, hp1, hp2⟩ := List.mem_map.mp hin
          have h5 := countIn_nd hT.nd hp1
          rw [show p.1 = v from hp2] at h5
          rw [there_some h5, if_pos (hT.cnt p hp1).1] at qt
          exact qt rfl _ ex
        have hcn := countIn_all fun p hp z => hno (List.mem_map.mpr ⟨p, hp, z⟩)
        rw [there_none hcn, if_neg (by decide)] at q0 ql
        have ha' := ex _ _ ha
        refine ⟨_, rfl, a, xs, rfl, .inl (.of ha'), _, _, rfl, rfl, _, rfl, iteD (fun e => ?_) (fun e => ?_)⟩
        · have e' : (xs.length : Int) ≥ 10 := e
          have := hT.len
          rw [if_pos (by omega)] at ql
          exact ql rfl _ ex
        · have e' : ¬ (xs.length : Int) ≥ 10 := e
          rw [if_neg (by omega)] at q0
          refine ⟨_, rfl, _, rfl, len63 (by show 2 ≤ _; decide), fun t1 ht1 => ?_⟩
          (generalize hh : upd H' t1 _ = H1; have e1 : Ex H' H1 := (by rw [← hh]; exact Ex.nw ht1); have c1 := (show H1 t1 = some _ by rw [← hh]; exact upd_same); clear hh)
          refine ⟨len63 (by show 1 ≤ _; decide), fun l1 hl1 => ?_⟩
          (generalize hh : upd H1 l1 _ = H2; have e2 : Ex H1 H2 := (by rw [← hh]; exact Ex.nw hl1); have c2 := (show H2 l1 = some _ by rw [← hh]; exact upd_same); clear hh)
          refine ⟨a, l1, _, _, rfl, rfl, e2 _ _ (e1 _ _ ha'), c2, len63 (by show xs.length + 1 ≤ _; have := hT.len; omega), fun l2 hl2 => ?_⟩
          (generalize hh : upd H2 l2 _ = H3; have e3 : Ex H2 H3 := (by rw [← hh]; exact Ex.nw hl2); have c3 := (show H3 l2 = some _ by rw [← hh]; exact upd_same); clear hh)
          have ex3 := ((ex.tr e1).tr e2).tr e3
          have hps : Prs H3 (xs ++ [.ref t1]) (ps ++ [(v, 0)]) := Prs.snoc (hp.ex ex3) ⟨t1, rfl, e3 _ _ (e2 _ _ c1)⟩
          refine ⟨l2, _, pairAt H3, rfl, .of c3, hps.all, fun ys t z1 z2 ht => ?_⟩
          obtain ⟨qs, hq, hpm, hris⟩ := sorted_prs hps (nd_more hT hcn) z1 z2
          exact q0 rfl t ys qs _ (ex3.tr (Ex.nw ht)) (none_back ex3 ht) upd_same (hq.ex (Ex.nw ht)) (.inr (.inr (.inl ⟨rfl, hris, hpm⟩)))
    · rw [if_pos (by omega)] at qk
      exact qk rfl _ Ex.rfl'
theorem ok_kind_out (T : Tx K mg) : FnOk P w K mg base (L2.CX P w) 2 T.a_kind_out T.d_kind_out P_kind_out (spDeed K T.c_NoKind T.c_NoCount T.c_TooFew T.c_Twice T.c_NoTill T.c_StillHeld 3) := by
  have G_count_of := ok_count_of (P := P) (w := w) (base := base) T
  refine T.f_kind_out.okX sc_kind_out (fun vs H Q E h => ?_) (fun cdv A outer s H vs Q E hr h => ?_)
  · obtain ⟨a, xs, ps, v, c, rfl, _⟩ := h
    rfl
  · obtain ⟨a, xs, ps, v, c, rfl, ha, hp, hT, q0, qk, qc, qf, qt, ql, qh⟩ := h
    refine ⟨_, (pss_cons (ps_if (pt_cmpR op_gt (pe_call G_count_of (hr.mono (by decide)) (by rfl) T.g_count_of T.f_count_of.kp T.p_count_of .nil (passes_call (takes_of rfl rfl rfl rfl) fun _ _ _ _ h => h) (pa_cons (pv 0) (pa_cons (pv 1) pa_nil))) pe_int (nomark _))
      (pss_one (ps_raise rfl (takes_of rfl rfl rfl rfl) (pmk_own PySem.F.excBase_ValueError T.x_StillHeld T.g_StillHeld T.k_StillHeld (raises_own T.b_StillHeld T.t_StillHeld) rfl)))
      pss_nil)
    (pss_cons (ps_if (pt_cmpR op_eq (pe_callB call_len_seq (by rfl) T.m_len (by decide +kernel) (pa_cons (pv 0) pa_nil)) pe_int (nomark _))
      (pss_one (ps_raise rfl (takes_of rfl rfl rfl rfl) (pmk_own PySem.F.excBase_ValueError T.x_NoTill T.g_NoTill T.k_NoTill (raises_own T.b_NoTill T.t_NoTill) rfl)))
      pss_nil)
    (pss_one (ps_ret (pe_lc (own := [("held", 2), ("count", 3)]) (g := gTup K 2 (gCons (gName 2) (gCons (gName 3) gNil))) rfl sc_kind_out.nd (pi_list (pv 0)) (blkOk_by (own := [("held", 2), ("count", 3)]) (N := N_kind_out) (sc := defScope s_kind_out) (by decide +kernel)) (fun _ _ _ _ _ => pg_tup rfl (pgs_cons (pg_name (i := 2) sc_kind_out.nd rfl (.inl rfl) (.inr rfl)) (pgs_cons (pg_name (i := 3) sc_kind_out.nd rfl (.inl rfl) (.inr rfl)) pgs_nil))) (fun _ _ _ _ _ => (pts_one (pt_cmpR op_ne (pv 2) (pv 1) (nomark _)))) (fun _ _ _ _ _ => (pe_tup (pa_cons (pv 2) (pa_cons (pv 3) pa_nil))))))))), ?_⟩
    have hpl := hp.len
    have hl10 := hT.len
    unfold dueK at q0 qk ql qh
    rw [if_neg (by decide), if_neg (by decide)] at q0 qk ql qh
    refine ⟨_, rfl, _, rfl, a, ps, v, rfl, ⟨xs, .of ha, hp⟩, fun t ht => ?_, fun hn => ?_⟩
    · have hb := hT.there_nn ht
      rw [there_some ht, if_neg (by omega)] at q0 ql qh
      refine ⟨_, _, rfl, rfl, _, rfl, iteD (fun e => ?_) (fun e => ?_)⟩
      · have e' : t > 0 := e
        rw [if_pos e'] at qh
        exact qh rfl _ Ex.rfl'
      have e' : ¬ t > 0 := e
      rw [if_neg e'] at q0 ql
      refine ⟨_, rfl, a, xs, rfl, .inl (.of ha), rfl, _, rfl, iteVI (fun e2 => ?_) (fun e2 => ?_)⟩
      · rw [if_pos (by omega)] at ql
        exact ql rfl _ Ex.rfl'
      rw [if_neg (by omega)] at q0
      refine ⟨_, rfl, a, rfl, ⟨xs, .of ha⟩, fun D hD => lc_list (xs := xs) (fun i H' => ∃ ys, Ex H H' ∧ H' D = some (.lst ys) ∧ ys.length ≤ i ∧ Prs H' ys ((ps.take i).filter fun p : Int × Int => decide (p.1 ≠ v))) ⟨[], Ex.nw hD, upd_same, Nat.le_refl _, .nil⟩ (fun i H' _ h => by
        obtain ⟨_, e, _⟩ := h
        exact .of (e _ _ ha)) ?_ ?_⟩
      · rintro i x H' hx ⟨ys, ex, eD, hyl, hys⟩
        obtain ⟨p, t, h1, rfl, h3⟩ := Prs.get hp hx
        have hi : i < ps.length := (List.getElem?_eq_some_iff.mp h1).1
        refine ⟨t, _, rfl, .of (ex _ _ h3), rfl, _, _, rfl, _, _, rfl, rfl, rfl, ?_⟩
        refine ⟨_, rfl, _, rfl, rfl, _, rfl, iteVN (fun ne => ?_) (fun eq => ?_)⟩
        · refine ⟨_, rfl, _, rfl, len63 (by show 2 ≤ _; decide), fun t2 ht2 => ?_⟩
          have nDt : D ≠ t2 := ne_of_none eD ht2
          have eD' : (upd H' t2 (.tup [.int p.1, .int p.2])) D = some (.lst ys) := by rw [upd_ne nDt]; exact eD
          refine ⟨ys, eD', len63' (by omega), ys ++ [.ref t2], Ex.mu (ex.tr (Ex.nw ht2)) hD, upd_same, by rw [List.length_append]; show _ + 1 ≤ _; omega, ?_⟩
          rw [take_snoc h1, List.filter_append, show List.filter (fun p : Int × Int => decide (p.1 ≠ v)) [p] = [p] from List.filter_cons_of_pos (by simp [ne])]
          refine Prs.up (by intro bs y; rw [eD'] at y; cases y) ?_
          exact Prs.snoc (hys.ex (Ex.nw ht2)) ⟨t2, rfl, upd_same⟩
        · refine ⟨ys, ex, eD, by omega, ?_⟩
          rw [take_snoc h1, List.filter_append, show List.filter (fun p : Int × Int => decide (p.1 ≠ v)) [p] = [] from List.filter_cons_of_neg (by simp [eq]), List.append_nil]
          exact hys
      · rintro H' ⟨ys, ex, eD, hyl, hys⟩
        rw [List.take_of_length_le (by rw [hpl]; exact Nat.le_refl _)] at hys
        exact q0 rfl D ys _ H' ex hD eD hys (.inr (.inr (.inr ⟨rfl, rfl⟩)))
    · rw [there_none hn, if_pos (by decide)] at qk
      exact qk rfl _ Ex.rfl'
/-! ### done, tried, refused -/
def spDone (K : PySem.W.Frag) (cK cC cF cT cL cH : Addr) : Sp := fun vs H Q E => ∃ (a : Addr) (xs : List V) (ps : List (Int × Int)) (n v c : Int), vs = [.ref a, .int n, .int v, .int c] ∧ H a = some (.lst xs) ∧ Prs H xs ps ∧ Tl ps ∧ (n = 0 ∨ n = 1 ∨ n = 2 ∨ n = 3) ∧ OutK cK cC cF cT cL cH ps n v c H Q E
theorem ok_done (T : Tx K mg) : FnOk P w K mg base (L2.CX P w) 3 T.a__law_done T.d__law_done P__law_done (spDone K T.c_NoKind T.c_NoCount T.c_TooFew T.c_Twice T.c_NoTill T.c_StillHeld) := by
  have G_brought := ok_brought (P := P) (w := w) (base := base) T
  have G_fetched := ok_fetched (P := P) (w := w) (base := base) T
  have G_kind_in := ok_kind_in (P := P) (w := w) (base := base) T
  have G_kind_out := ok_kind_out (P := P) (w := w) (base := base) T
  refine T.f__law_done.okX sc__law_done (fun vs H Q E h => ?_) (fun cdv A outer s H vs Q E hr h => ?_)
  · obtain ⟨a, xs, ps, n, v, c, rfl, _⟩ := h
    rfl
  · obtain ⟨a, xs, ps, n, v, c, rfl, ha, hp, hT, hn, ho⟩ := h
    refine ⟨_, (pss_cons (ps_if (pt_cmpR op_eq (pv 1) pe_int (nomark _))
      (pss_one (ps_ret (pe_call G_brought (hr.mono (by decide)) (by rfl) T.g_brought T.f_brought.kp T.p_brought .nil (passes_call (takes_of rfl rfl rfl rfl) fun _ _ _ _ h => h) (pa_cons (pv 0) (pa_cons (pv 2) (pa_cons (pv 3) pa_nil))))))
      pss_nil)
    (pss_cons (ps_if (pt_cmpR op_eq (pv 1) pe_int (nomark _))
      (pss_one (ps_ret (pe_call G_fetched (hr.mono (by decide)) (by rfl) T.g_fetched T.f_fetched.kp T.p_fetched .nil (passes_call (takes_of rfl rfl rfl rfl) fun _ _ _ _ h => h) (pa_cons (pv 0) (pa_cons (pv 2) (pa_cons (pv 3) pa_nil))))))
      pss_nil)
    (pss_cons (ps_if (pt_cmpR op_eq (pv 1) pe_int (nomark _))
      (pss_one (ps_ret (pe_call G_kind_in (hr.mono (by decide)) (by rfl) T.g_kind_in T.f_kind_in.kp T.p_kind_in .nil (passes_call (takes_of rfl rfl rfl rfl) fun _ _ _ _ h => h) (pa_cons (pv 0) (pa_cons (pv 2) pa_nil)))))
      pss_nil)
    (pss_one (ps_ret (pe_call G_kind_out (hr.mono (by decide)) (by rfl) T.g_kind_out T.f_kind_out.kp T.p_kind_out .nil (passes_call (takes_of rfl rfl rfl rfl) fun _ _ _ _ h => h) (pa_cons (pv 0) (pa_cons (pv 2) pa_nil)))))))), ?_⟩
    repeat (first | refine ⟨_, rfl, ?_⟩ | refine ⟨(by show (0 : Int) < _; decide), ?_⟩ | refine ⟨⟨by decide, by decide⟩, ?_⟩ | refine ⟨.inr ⟨by decide, by decide⟩, ?_⟩ | refine ⟨.inl ⟨by decide, by decide⟩, ?_⟩ | refine ⟨⟨by decide, by decide, by decide⟩, ?_⟩ | refine ⟨_, _, rfl, rfl, ?_⟩ | refine ⟨rfl, _, rfl, ?_⟩)
    first | refine iteVI (fun e => ?_) (fun e => ?_) | refine iteVN (fun e => ?_) (fun e => ?_) | refine iteD (fun e => ?_) (fun e => ?_) | refine iteDN (fun e => ?_) (fun e => ?_) | refine iteB (fun e => ?_) (fun e => ?_)
    · subst e
      exact ⟨_, rfl, _, rfl, _, rfl, a, xs, ps, v, c, rfl, ha, hp, hT, ho⟩
    repeat (first | refine ⟨_, rfl, ?_⟩ | refine ⟨(by show (0 : Int) < _; decide), ?_⟩ | refine ⟨⟨by decide, by decide⟩, ?_⟩ | refine ⟨.inr ⟨by decide, by decide⟩, ?_⟩ | refine ⟨.inl ⟨by decide, by decide⟩, ?_⟩ | refine ⟨⟨by decide, by decide, by decide⟩, ?_⟩ | refine ⟨_, _, rfl, rfl, ?_⟩ | refine ⟨rfl, _, rfl, ?_⟩)
    first | refine iteVI (fun e => ?_) (fun e => ?_) | refine iteVN (fun e => ?_) (fun e => ?_) | refine iteD (fun e => ?_) (fun e => ?_) | refine iteDN (fun e => ?_) (fun e => ?_) | refine iteB (fun e => ?_) (fun e => ?_)
    · subst e
      exact ⟨_, rfl, _, rfl, _, rfl, a, xs, ps, v, c, rfl, ha, hp, hT, ho⟩
    repeat (first | refine ⟨_, rfl, ?_⟩ | refine ⟨(by show (0 : Int) < _; decide), ?_⟩ | refine ⟨⟨by decide, by decide⟩, ?_⟩ | refine ⟨.inr ⟨by decide, by decide⟩, ?_⟩ | refine ⟨.inl ⟨by decide, by decide⟩, ?_⟩ | refine ⟨⟨by decide, by decide, by decide⟩, ?_⟩ | refine ⟨_, _, rfl, rfl, ?_⟩ | refine ⟨rfl, _, rfl, ?_⟩)
    first | refine iteVI (fun e => ?_) (fun e => ?_) | refine iteVN (fun e => ?_) (fun e => ?_) | refine iteD (fun e => ?_) (fun e => ?_) | refine iteDN (fun e => ?_) (fun e => ?_) | refine iteB (fun e => ?_) (fun e => ?_)
    · subst e
      exact ⟨_, rfl, _, rfl, a, xs, ps, v, c, rfl, ha, hp, hT, ho⟩
    · obtain rfl : n = 3 := by omega
      exact ⟨_, rfl, _, rfl, a, xs, ps, v, c, rfl, ha, hp, hT, ho⟩
def spTried (K : PySem.W.Frag) : Sp := fun vs H Q _ => ∃ (a : Addr) (xs : List V) (ps : List (Int × Int)) (n v c : Int), vs = [.ref a, .int n, .int v, .int c] ∧ H a = some (.lst xs) ∧ Prs H xs ps ∧ Tl ps ∧ (n = 0 ∨ n = 1 ∨ n = 2 ∨ n = 3) ∧
  ∀ l e xs qs H2, Ex H H2 → H l = none → H e = none → l ≠ e → H2 l = some (.lst [.str (dueK ps n v c), .ref e]) → H2 e = some (.lst xs) → Prs H2 xs qs → (dueK ps n v c = "" → Behind ps n v c qs) → Q (.ref l) H2
theorem ok_tried (T : Tx K mg) : FnOk P w K mg base CX0 4 T.a__law_tried T.d__law_tried P__law_tried (spTried K) := by
  have G__law_done := ok_done (P := P) (w := w) (base := base) T
  refine T.f__law_tried.ok sc__law_tried (fun vs H Q E h => ?_) (fun cdv A outer s H vs Q E hr h => ?_)
  · obtain ⟨a, xs, ps, n, v, c, rfl, _⟩ := h
    rfl
  · obtain ⟨a, xs, ps, n, v, c, rfl, ha, hp, hT, hn, q⟩ := h
    refine ⟨_, (pss_one (ps_try_many rfl rfl takes0
      (fun W pn xe tk hp => (pss_one (ps_ret (pe_lst (pa_cons pe_str (pa_cons (pe_callS G__law_done (hr.mono (by decide)) rfl T.g__law_done T.f__law_done.kp T.p__law_done (fun σ => passAt tk σ) (pa_cons (pv 0) (pa_cons (pv 1) (pa_cons (pv 2) (pa_cons (pv 3) pa_nil))))) pa_nil))))))
      (.cons ⟨by rfl, by decide, .inl T.g_NoKind⟩ (fun a oe cls d pn hz hf => (pss_one (ps_ret (pe_lst (pa_cons pe_str (pa_cons (pe_lst pa_nil) pa_nil))))))
      (.cons ⟨by rfl, by decide, .inl T.g_NoCount⟩ (fun a oe cls d pn hz hf => (pss_one (ps_ret (pe_lst (pa_cons pe_str (pa_cons (pe_lst pa_nil) pa_nil))))))
      (.cons ⟨by rfl, by decide, .inl T.g_TooFew⟩ (fun a oe cls d pn hz hf => (pss_one (ps_ret (pe_lst (pa_cons pe_str (pa_cons (pe_lst pa_nil) pa_nil))))))
      (.cons ⟨by rfl, by decide, .inl T.g_Twice⟩ (fun a oe cls d pn hz hf => (pss_one (ps_ret (pe_lst (pa_cons pe_str (pa_cons (pe_lst pa_nil) pa_nil))))))
      (.cons ⟨by rfl, by decide, .inl T.g_NoTill⟩ (fun a oe cls d pn hz hf => (pss_one (ps_ret (pe_lst (pa_cons pe_str (pa_cons (pe_lst pa_nil) pa_nil))))))
      (.cons ⟨by rfl, by decide, .inl T.g_StillHeld⟩ (fun a oe cls d pn hz hf => (pss_one (ps_ret (pe_lst (pa_cons pe_str (pa_cons (pe_lst pa_nil) pa_nil))))))
      .nil)))))))), ?_⟩
    have sx : ∀ (z : Str) (H2 : Hp), dueK ps n v c = z → z ≠ "" → Ex H H2 → ∀ e, H2 e = none → ∀ l, (upd H2 e (.lst [])) l = none → Q (.ref l) (upd (upd H2 e (.lst [])) l (.lst [.str z, .ref e])) := by
      intro z H2 hz hz0 ex e he l hl'
      have nel : e ≠ l := ne_of_none upd_same hl'
      subst hz
      refine q l e [] [] _ ((ex.tr (Ex.nw he)).tr (Ex.nw hl')) ?_ (none_back ex he) nel.symm upd_same (by rw [upd_ne nel]; exact upd_same) .nil (fun y => absurd y hz0)
      exact none_back (ex.tr (Ex.nw he)) hl'
    refine ⟨_, rfl, _, rfl, _, rfl, _, rfl, a, xs, ps, n, v, c, rfl, ha, hp, hT, hn, fun hd p ys qs H2 ex hp2 ep hpr hb => ?_, fun hd H2 ex => ?_, fun hd H2 ex => ?_, fun hd H2 ex => ?_, fun hd H2 ex => ?_, fun hd H2 ex => ?_, fun hd H2 ex => ?_⟩
    · refine ⟨len63 (by show 2 ≤ _; decide), fun l hl' => ?_⟩
      have npl : p ≠ l := ne_of_none ep hl'
      refine q l p ys qs _ (ex.tr (Ex.nw hl')) (none_back ex hl') hp2 npl.symm ?_ ((Ex.nw hl') _ _ ep) (hpr.ex (Ex.nw hl')) (fun _ => hb)
      rw [hd]
      exact upd_same
    · refine ⟨true, exm_mk T.b_NoKind T.i_NoKind T.t_NoKind T.u_NoKind_NoKind, (fun _ x hx => ?_), fun z => nomatch z⟩
      exact ⟨Nat.zero_le _, fun e he => ⟨len63 (by show 2 ≤ _; decide), fun l hl => sx _ H2 hd (by decide) ex e he l hl⟩⟩
    · refine ⟨false, exm_mk T.b_NoKind T.i_NoKind T.t_NoKind T.u_NoCount_NoKind, (fun z => nomatch z), fun _ => ?_⟩
      refine ⟨true, exm_mk T.b_NoCount T.i_NoCount T.t_NoCount T.u_NoCount_NoCount, (fun _ x hx => ?_), fun z => nomatch z⟩
      exact ⟨Nat.zero_le _, fun e he => ⟨len63 (by show 2 ≤ _; decide), fun l hl => sx _ H2 hd (by decide) ex e he l hl⟩⟩
    · refine ⟨false, exm_mk T.b_NoKind T.i_NoKind T.t_NoKind T.u_TooFew_NoKind, (fun z => nomatch z), fun _ => ?_⟩
      refine ⟨false, exm_mk T.b_NoCount T.i_NoCount T.t_NoCount T.u_TooFew_NoCount, (fun z => nomatch z), fun _ => ?_⟩
      refine ⟨true, exm_mk T.b_TooFew T.i_TooFew T.t_TooFew T.u_TooFew_TooFew, (fun _ x hx => ?_), fun z => nomatch z⟩
      exact ⟨Nat.zero_le _, fun e he => ⟨len63 (by show 2 ≤ _; decide), fun l hl => sx _ H2 hd (by decide) ex e he l hl⟩⟩
    · refine ⟨false, exm_mk T.b_NoKind T.i_NoKind T.t_NoKind T.u_Twice_NoKind, (fun z => nomatch z), fun _ => ?_⟩
      refine ⟨false, exm_mk T.b_NoCount T.i_NoCount T.t_NoCount T.u_Twice_NoCount, (fun z => nomatch z), fun _ => ?_⟩
      refine ⟨false, exm_mk T.b_TooFew T.i_TooFew T.t_TooFew T.u_Twice_TooFew, (fun z => nomatch z), fun _ => ?_⟩
      refine ⟨true, exm_mk T.b_Twice T.i_Twice T.t_Twice T.u_Twice_Twice, (fun _ x hx => ?_), fun z => nomatch z⟩
      exact ⟨Nat.zero_le _, fun e he => ⟨len63 (by show 2 ≤ _; decide), fun l hl => sx _ H2 hd (by decide) ex e he l hl⟩⟩
    · refine ⟨false, exm_mk T.b_NoKind T.i_NoKind T.t_NoKind T.u_NoTill_NoKind, (fun z => nomatch z), fun _ => ?_⟩
      refine ⟨false, exm_mk T.b_NoCount T.i_NoCount T.t_NoCount T.u_NoTill_NoCount, (fun z => nomatch z), fun _ => ?_⟩
      refine ⟨false, exm_mk T.b_TooFew T.i_TooFew T.t_TooFew T.u_NoTill_TooFew, (fun z => nomatch z), fun _ => ?_⟩
      refine ⟨false, exm_mk T.b_Twice T.i_Twice T.t_Twice T.u_NoTill_Twice, (fun z => nomatch z), fun _ => ?_⟩
      refine ⟨true, exm_mk T.b_NoTill T.i_NoTill T.t_NoTill T.u_NoTill_NoTill, (fun _ x hx => ?_), fun z => nomatch z⟩
      exact ⟨Nat.zero_le _, fun e he => ⟨len63 (by show 2 ≤ _; decide), fun l hl => sx _ H2 hd (by decide) ex e he l hl⟩⟩
    · refine ⟨false, exm_mk T.b_NoKind T.i_NoKind T.t_NoKind T.u_StillHeld_NoKind, (fun z => nomatch z), fun _ => ?_⟩
      refine ⟨false, exm_mk T.b_NoCount T.i_NoCount T.t_NoCount T.u_StillHeld_NoCount, (fun z => nomatch z), fun _ => ?_⟩
      refine ⟨false, exm_mk T.b_TooFew T.i_TooFew T.t_TooFew T.u_StillHeld_TooFew, (fun z => nomatch z), fun _ => ?_⟩
      refine ⟨false, exm_mk T.b_Twice T.i_Twice T.t_Twice T.u_StillHeld_Twice, (fun z => nomatch z), fun _ => ?_⟩
      refine ⟨false, exm_mk T.b_NoTill T.i_NoTill T.t_NoTill T.u_StillHeld_NoTill, (fun z => nomatch z), fun _ => ?_⟩
      refine ⟨true, exm_mk T.b_StillHeld T.i_StillHeld T.t_StillHeld T.u_StillHeld_StillHeld, (fun _ x hx => ?_), fun z => nomatch z⟩
      exact ⟨Nat.zero_le _, fun e he => ⟨len63 (by show 2 ≤ _; decide), fun l hl => sx _ H2 hd (by decide) ex e he l hl⟩⟩
theorem ne_sub {K : PySem.W.Frag} {C D : Addr} (h1 : PySem.W.subIn K (.ref C) (.ref D) = some false) (h2 : PySem.W.subIn K (.ref C) (.ref C) = some true) : C ≠ D := by
  intro e
  rw [← e, h2] at h1
  cases h1
def spAny (K : PySem.W.Frag) : Sp := fun vs H Q _ => ∃ (a : Addr) (xs : List V) (ps : List (Int × Int)) (n v c : Int), vs = [.ref a, .int n, .int v, .int c] ∧ H a = some (.lst xs) ∧ Prs H xs ps ∧ Tl ps ∧ (n = 0 ∨ n = 1 ∨ n = 2 ∨ n = 3) ∧ Ret (.bl (!decide (dueK ps n v c = ""))) H Q
theorem ok_any (T : Tx K mg) : FnOk P w K mg base CX0 4 T.a__law_any T.d__law_any P__law_any (spAny K) := by
  have G__law_done := ok_done (P := P) (w := w) (base := base) T
  refine T.f__law_any.ok sc__law_any (fun vs H Q E h => ?_) (fun cdv A outer s H vs Q E hr h => ?_)
  · obtain ⟨a, xs, ps, n, v, c, rfl, _⟩ := h
    rfl
  · obtain ⟨a, xs, ps, n, v, c, rfl, ha, hp, hT, hn, q⟩ := h
    refine ⟨_, (pss_cons (ps_try_as (i := 4) rfl rfl sc__law_any.nd rfl rfl ⟨by rfl, by decide, .inl T.g_TillError⟩ takes0
      (fun W pn xe tk hp => (pss_one (ps_expr (pe_callS G__law_done (hr.mono (by decide)) rfl T.g__law_done T.f__law_done.kp T.p__law_done (fun σ => passAt tk σ) (pa_cons (pv 0) (pa_cons (pv 1) (pa_cons (pv 2) (pa_cons (pv 3) pa_nil))))))))
      (fun a oe cls d pn hz hf => (pss_cons (ps_set (i := 5) sc__law_any.nd rfl (.inl rfl) (pe_lst (pa_cons (pe_callB (call_isE1 hz hf) (by rfl) T.m_isinstance (by decide +kernel) (pa_cons (pv 4) (pa_cons (pe_glob (v := .ref T.c_NoTill) (by rfl) T.g_NoTill rfl) pa_nil))) (pa_cons (pe_callB (call_isE1 hz hf) (by rfl) T.m_isinstance (by decide +kernel) (pa_cons (pv 4) (pa_cons (pe_glob (v := .ref T.c_NoKind) (by rfl) T.g_NoKind rfl) pa_nil))) (pa_cons (pe_callB (call_isE1 hz hf) (by rfl) T.m_isinstance (by decide +kernel) (pa_cons (pv 4) (pa_cons (pe_glob (v := .ref T.c_Twice) (by rfl) T.g_Twice rfl) pa_nil))) (pa_cons (pe_callB (call_isE1 hz hf) (by rfl) T.m_isinstance (by decide +kernel) (pa_cons (pv 4) (pa_cons (pe_glob (v := .ref T.c_NoCount) (by rfl) T.g_NoCount rfl) pa_nil))) pa_nil))))))
      (pss_cons (ps_set (i := 5) sc__law_any.nd rfl (.inl rfl) (pe_op op_cat (pv 5) (pe_lst (pa_cons (pe_callB (call_isE1 hz hf) (by rfl) T.m_isinstance (by decide +kernel) (pa_cons (pv 4) (pa_cons (pe_glob (v := .ref T.c_TooFew) (by rfl) T.g_TooFew rfl) pa_nil))) (pa_cons (pe_callB (call_isE1 hz hf) (by rfl) T.m_isinstance (by decide +kernel) (pa_cons (pv 4) (pa_cons (pe_glob (v := .ref T.c_StillHeld) (by rfl) T.g_StillHeld rfl) pa_nil))) pa_nil)))))
      (pss_cons (ps_if (pt_val (pe_callB (call_isET hz hf) (by rfl) T.m_isinstance (by decide +kernel) (pa_cons (pv 4) (pa_cons (pe_tup (pa_cons (pe_glob (v := .ref T.c_NoChange) (by rfl) T.g_NoChange rfl) (pa_cons (pe_glob (v := .ref T.c_NoDeed) (by rfl) T.g_NoDeed rfl) (pa_cons (pe_glob (v := .ref T.c_NoSum) (by rfl) T.g_NoSum rfl) (pa_cons (pe_glob (v := .ref T.c_TooLittle) (by rfl) T.g_TooLittle rfl) pa_nil))))) pa_nil))))
        (pss_one (ps_ret pe_bl))
        pss_nil)
      (pss_one (ps_ret (pe_and (pe_callB (call_isE1 hz hf) (by rfl) T.m_isinstance (by decide +kernel) (pa_cons (pv 4) (pa_cons (pe_bltn (v := .ty "ValueError") (by rfl) T.m_ValueError (by decide +kernel) rfl) pa_nil))) (pe_one (pe_cmpR op_eq (pe_countS (pv 5) (pa_cons pe_bl pa_nil)) pe_int (nomark _)))))))))))
    (pss_one (ps_ret pe_bl))), ?_⟩
    refine ⟨_, rfl, _, rfl, _, rfl, _, rfl, a, xs, ps, n, v, c, rfl, ha, hp, hT, hn, fun hd p ys qs H2 ex hp2 ep hpr hb => ?_, fun hd H2 ex => ?_, fun hd H2 ex => ?_, fun hd H2 ex => ?_, fun hd H2 ex => ?_, fun hd H2 ex => ?_, fun hd H2 ex => ?_⟩
    · rw [hd, decide_eq_true rfl] at q
      exact q _ ex
    · refine ⟨true, exm_mk T.b_TillError T.i_TillError T.t_TillError T.u_NoKind_TillError, (fun _ x hx => ?_), fun z => nomatch z⟩
      refine ⟨_, rfl, _, _, _, false, rfl, rfl, T.e_NoKind, rfl, (fun u r => r), kone_own (ne_sub T.u_NoKind_NoTill T.u_NoKind_NoKind) T.i_NoTill T.t_NoTill T.u_NoKind_NoTill, ⟨_, rfl, _, _, _, true, rfl, rfl, T.e_NoKind, rfl, (fun u r => r), kone_self, ⟨_, rfl, _, _, _, false, rfl, rfl, T.e_NoKind, rfl, (fun u r => r), kone_own (ne_sub T.u_NoKind_Twice T.u_NoKind_NoKind) T.i_Twice T.t_Twice T.u_NoKind_Twice, ⟨_, rfl, _, _, _, false, rfl, rfl, T.e_NoKind, rfl, (fun u r => r), kone_own (ne_sub T.u_NoKind_NoCount T.u_NoKind_NoKind) T.i_NoCount T.t_NoCount T.u_NoKind_NoCount, ?_⟩⟩⟩⟩
      refine ⟨len63 (by show 4 ≤ _; decide), fun l1 hl1 => ?_⟩
      (generalize hh : upd H2 l1 _ = H3; have e3 : Ex H2 H3 := (by rw [← hh]; exact Ex.nw hl1); have c3 := (show H3 l1 = some _ by rw [← hh]; exact upd_same); clear hh)
      refine ⟨_, rfl, ?_⟩
      refine ⟨_, rfl, _, _, _, false, rfl, rfl, T.e_NoKind, rfl, (fun u r => r), kone_own (ne_sub T.u_NoKind_TooFew T.u_NoKind_NoKind) T.i_TooFew T.t_TooFew T.u_NoKind_TooFew, ⟨_, rfl, _, _, _, false, rfl, rfl, T.e_NoKind, rfl, (fun u r => r), kone_own (ne_sub T.u_NoKind_StillHeld T.u_NoKind_NoKind) T.i_StillHeld T.t_StillHeld T.u_NoKind_StillHeld, ?_⟩⟩
      refine ⟨len63 (by show 2 ≤ _; decide), fun l2 hl2 => ?_⟩
      (generalize hh : upd H3 l2 _ = H4; have e4 : Ex H3 H4 := (by rw [← hh]; exact Ex.nw hl2); have c4 := (show H4 l2 = some _ by rw [← hh]; exact upd_same); clear hh)
      refine ⟨l1, l2, _, _, rfl, rfl, e4 _ _ c3, c4, len63 (by show 4 + 2 ≤ _; decide), fun l3 hl3 => ?_⟩
      (generalize hh : upd H4 l3 _ = H5; have e5 : Ex H4 H5 := (by rw [← hh]; exact Ex.nw hl3); have c5 := (show H5 l3 = some _ by rw [← hh]; exact upd_same); clear hh)
      refine ⟨_, rfl, len63 (by show 4 ≤ _; decide), fun p hp => ?_⟩
      (generalize hh : upd H5 p _ = H6; have e6 : Ex H5 H6 := (by rw [← hh]; exact Ex.nw hp); have c6 := (show H6 p = some _ by rw [← hh]; exact upd_same); clear hh)
      refine ⟨_, p, _, _, false, rfl, rfl, T.e_NoKind, rfl, c6, ?_, T.y_NoKind, false, rfl, iteF ?_⟩
      · repeat (first | exact .nil | refine .cons (.own _) ?_)
      refine ⟨_, rfl, _, _, _, true, rfl, rfl, T.e_NoKind, rfl, (fun u r => r), T.z_NoKind, true, rfl, iteT ?_⟩
      refine ⟨_, rfl, .inl ⟨rfl, _, .of (e6 _ _ c5)⟩, l3, [false, true, false, false, false, false], true, rfl, rfl, .of (e6 _ _ c5), rfl, ?_⟩
      have qq := q _ ((((ex.tr e3).tr e4).tr e5).tr e6)
      rw [hd] at qq
      exact qq
    · refine ⟨true, exm_mk T.b_TillError T.i_TillError T.t_TillError T.u_NoCount_TillError, (fun _ x hx => ?_), fun z => nomatch z⟩
      refine ⟨_, rfl, _, _, _, false, rfl, rfl, T.e_NoCount, rfl, (fun u r => r), kone_own (ne_sub T.u_NoCount_NoTill T.u_NoCount_NoCount) T.i_NoTill T.t_NoTill T.u_NoCount_NoTill, ⟨_, rfl, _, _, _, false, rfl, rfl, T.e_NoCount, rfl, (fun u r => r), kone_own (ne_sub T.u_NoCount_NoKind T.u_NoCount_NoCount) T.i_NoKind T.t_NoKind T.u_NoCount_NoKind, ⟨_, rfl, _, _, _, false, rfl, rfl, T.e_NoCount, rfl, (fun u r => r), kone_own (ne_sub T.u_NoCount_Twice T.u_NoCount_NoCount) T.i_Twice T.t_Twice T.u_NoCount_Twice, ⟨_, rfl, _, _, _, true, rfl, rfl, T.e_NoCount, rfl, (fun u r => r), kone_self, ?_⟩⟩⟩⟩
      refine ⟨len63 (by show 4 ≤ _; decide), fun l1 hl1 => ?_⟩
      (generalize hh : upd H2 l1 _ = H3; have e3 : Ex H2 H3 := (by rw [← hh]; exact Ex.nw hl1); have c3 := (show H3 l1 = some _ by rw [← hh]; exact upd_same); clear hh)
      refine ⟨_, rfl, ?_⟩
      refine ⟨_, rfl, _, _, _, false, rfl, rfl, T.e_NoCount, rfl, (fun u r => r), kone_own (ne_sub T.u_NoCount_TooFew T.u_NoCount_NoCount) T.i_TooFew T.t_TooFew T.u_NoCount_TooFew, ⟨_, rfl, _, _, _, false, rfl, rfl, T.e_NoCount, rfl, (fun u r => r), kone_own (ne_sub T.u_NoCount_StillHeld T.u_NoCount_NoCount) T.i_StillHeld T.t_StillHeld T.u_NoCount_StillHeld, ?_⟩⟩
      refine ⟨len63 (by show 2 ≤ _; decide), fun l2 hl2 => ?_⟩
      (generalize hh : upd H3 l2 _ = H4; have e4 : Ex H3 H4 := (by rw [← hh]; exact Ex.nw hl2); have c4 := (show H4 l2 = some _ by rw [← hh]; exact upd_same); clear hh)
      refine ⟨l1, l2, _, _, rfl, rfl, e4 _ _ c3, c4, len63 (by show 4 + 2 ≤ _; decide), fun l3 hl3 => ?_⟩
      (generalize hh : upd H4 l3 _ = H5; have e5 : Ex H4 H5 := (by rw [← hh]; exact Ex.nw hl3); have c5 := (show H5 l3 = some _ by rw [← hh]; exact upd_same); clear hh)
      refine ⟨_, rfl, len63 (by show 4 ≤ _; decide), fun p hp => ?_⟩
      (generalize hh : upd H5 p _ = H6; have e6 : Ex H5 H6 := (by rw [← hh]; exact Ex.nw hp); have c6 := (show H6 p = some _ by rw [← hh]; exact upd_same); clear hh)
      refine ⟨_, p, _, _, false, rfl, rfl, T.e_NoCount, rfl, c6, ?_, T.y_NoCount, false, rfl, iteF ?_⟩
      · repeat (first | exact .nil | refine .cons (.own _) ?_)
      refine ⟨_, rfl, _, _, _, true, rfl, rfl, T.e_NoCount, rfl, (fun u r => r), T.z_NoCount, true, rfl, iteT ?_⟩
      refine ⟨_, rfl, .inl ⟨rfl, _, .of (e6 _ _ c5)⟩, l3, [false, false, false, true, false, false], true, rfl, rfl, .of (e6 _ _ c5), rfl, ?_⟩
      have qq := q _ ((((ex.tr e3).tr e4).tr e5).tr e6)
      rw [hd] at qq
      exact qq
    · refine ⟨true, exm_mk T.b_TillError T.i_TillError T.t_TillError T.u_TooFew_TillError, (fun _ x hx => ?_), fun z => nomatch z⟩
      refine ⟨_, rfl, _, _, _, false, rfl, rfl, T.e_TooFew, rfl, (fun u r => r), kone_own (ne_sub T.u_TooFew_NoTill T.u_TooFew_TooFew) T.i_NoTill T.t_NoTill T.u_TooFew_NoTill, ⟨_, rfl, _, _, _, false, rfl, rfl, T.e_TooFew, rfl, (fun u r => r), kone_own (ne_sub T.u_TooFew_NoKind T.u_TooFew_TooFew) T.i_NoKind T.t_NoKind T.u_TooFew_NoKind, ⟨_, rfl, _, _, _, false, rfl, rfl, T.e_TooFew, rfl, (fun u r => r), kone_own (ne_sub T.u_TooFew_Twice T.u_TooFew_TooFew) T.i_Twice T.t_Twice T.u_TooFew_Twice, ⟨_, rfl, _, _, _, false, rfl, rfl, T.e_TooFew, rfl, (fun u r => r), kone_own (ne_sub T.u_TooFew_NoCount T.u_TooFew_TooFew) T.i_NoCount T.t_NoCount T.u_TooFew_NoCount, ?_⟩⟩⟩⟩
      refine ⟨len63 (by show 4 ≤ _; decide), fun l1 hl1 => ?_⟩
      (generalize hh : upd H2 l1 _ = H3; have e3 : Ex H2 H3 := (by rw [← hh]; exact Ex.nw hl1); have c3 := (show H3 l1 = some _ by rw [← hh]; exact upd_same); clear hh)
      refine ⟨_, rfl, ?_⟩
      refine ⟨_, rfl, _, _, _, true, rfl, rfl, T.e_TooFew, rfl, (fun u r => r), kone_self, ⟨_, rfl, _, _, _, false, rfl, rfl, T.e_TooFew, rfl, (fun u r => r), kone_own (ne_sub T.u_TooFew_StillHeld T.u_TooFew_TooFew) T.i_StillHeld T.t_StillHeld T.u_TooFew_StillHeld, ?_⟩⟩
      refine ⟨len63 (by show 2 ≤ _; decide), fun l2 hl2 => ?_⟩
      (generalize hh : upd H3 l2 _ = H4; have e4 : Ex H3 H4 := (by rw [← hh]; exact Ex.nw hl2); have c4 := (show H4 l2 = some _ by rw [← hh]; exact upd_same); clear hh)
      refine ⟨l1, l2, _, _, rfl, rfl, e4 _ _ c3, c4, len63 (by show 4 + 2 ≤ _; decide), fun l3 hl3 => ?_⟩
      (generalize hh : upd H4 l3 _ = H5; have e5 : Ex H4 H5 := (by rw [← hh]; exact Ex.nw hl3); have c5 := (show H5 l3 = some _ by rw [← hh]; exact upd_same); clear hh)
      refine ⟨_, rfl, len63 (by show 4 ≤ _; decide), fun p hp => ?_⟩
      (generalize hh : upd H5 p _ = H6; have e6 : Ex H5 H6 := (by rw [← hh]; exact Ex.nw hp); have c6 := (show H6 p = some _ by rw [← hh]; exact upd_same); clear hh)
      refine ⟨_, p, _, _, false, rfl, rfl, T.e_TooFew, rfl, c6, ?_, T.y_TooFew, false, rfl, iteF ?_⟩
      · repeat (first | exact .nil | refine .cons (.own _) ?_)
      refine ⟨_, rfl, _, _, _, true, rfl, rfl, T.e_TooFew, rfl, (fun u r => r), T.z_TooFew, true, rfl, iteT ?_⟩
      refine ⟨_, rfl, .inl ⟨rfl, _, .of (e6 _ _ c5)⟩, l3, [false, false, false, false, true, false], true, rfl, rfl, .of (e6 _ _ c5), rfl, ?_⟩
      have qq := q _ ((((ex.tr e3).tr e4).tr e5).tr e6)
      rw [hd] at qq
      exact qq
    · refine ⟨true, exm_mk T.b_TillError T.i_TillError T.t_TillError T.u_Twice_TillError, (fun _ x hx => ?_), fun z => nomatch z⟩
      refine ⟨_, rfl, _, _, _, false, rfl, rfl, T.e_Twice, rfl, (fun u r => r), kone_own (ne_sub T.u_Twice_NoTill T.u_Twice_Twice) T.i_NoTill T.t_NoTill T.u_Twice_NoTill, ⟨_, rfl, _, _, _, false, rfl, rfl, T.e_Twice, rfl, (fun u r => r), kone_own (ne_sub T.u_Twice_NoKind T.u_Twice_Twice) T.i_NoKind T.t_NoKind T.u_Twice_NoKind, ⟨_, rfl, _, _, _, true, rfl, rfl, T.e_Twice, rfl, (fun u r => r), kone_self, ⟨_, rfl, _, _, _, false, rfl, rfl, T.e_Twice, rfl, (fun u r => r), kone_own (ne_sub T.u_Twice_NoCount T.u_Twice_Twice) T.i_NoCount T.t_NoCount T.u_Twice_NoCount, ?_⟩⟩⟩⟩
      refine ⟨len63 (by show 4 ≤ _; decide), fun l1 hl1 => ?_⟩
      (generalize hh : upd H2 l1 _ = H3; have e3 : Ex H2 H3 := (by rw [← hh]; exact Ex.nw hl1); have c3 := (show H3 l1 = some _ by rw [← hh]; exact upd_same); clear hh)
      refine ⟨_, rfl, ?_⟩
      refine ⟨_, rfl, _, _, _, false, rfl, rfl, T.e_Twice, rfl, (fun u r => r), kone_own (ne_sub T.u_Twice_TooFew T.u_Twice_Twice) T.i_TooFew T.t_TooFew T.u_Twice_TooFew, ⟨_, rfl, _, _, _, false, rfl, rfl, T.e_Twice, rfl, (fun u r => r), kone_own (ne_sub T.u_Twice_StillHeld T.u_Twice_Twice) T.i_StillHeld T.t_StillHeld T.u_Twice_StillHeld, ?_⟩⟩
      refine ⟨len63 (by show 2 ≤ _; decide), fun l2 hl2 => ?_⟩
      (generalize hh : upd H3 l2 _ = H4; have e4 : Ex H3 H4 := (by rw [← hh]; exact Ex.nw hl2); have c4 := (show H4 l2 = some _ by rw [← hh]; exact upd_same); clear hh)
      refine ⟨l1, l2, _, _, rfl, rfl, e4 _ _ c3, c4, len63 (by show 4 + 2 ≤ _; decide), fun l3 hl3 => ?_⟩
      (generalize hh : upd H4 l3 _ = H5; have e5 : Ex H4 H5 := (by rw [← hh]; exact Ex.nw hl3); have c5 := (show H5 l3 = some _ by rw [← hh]; exact upd_same); clear hh)
      refine ⟨_, rfl, len63 (by show 4 ≤ _; decide), fun p hp => ?_⟩
      (generalize hh : upd H5 p _ = H6; have e6 : Ex H5 H6 := (by rw [← hh]; exact Ex.nw hp); have c6 := (show H6 p = some _ by rw [← hh]; exact upd_same); clear hh)
      refine ⟨_, p, _, _, false, rfl, rfl, T.e_Twice, rfl, c6, ?_, T.y_Twice, false, rfl, iteF ?_⟩
      · repeat (first | exact .nil | refine .cons (.own _) ?_)
      refine ⟨_, rfl, _, _, _, true, rfl, rfl, T.e_Twice, rfl, (fun u r => r), T.z_Twice, true, rfl, iteT ?_⟩
      refine ⟨_, rfl, .inl ⟨rfl, _, .of (e6 _ _ c5)⟩, l3, [false, false, true, false, false, false], true, rfl, rfl, .of (e6 _ _ c5), rfl, ?_⟩
      have qq := q _ ((((ex.tr e3).tr e4).tr e5).tr e6)
      rw [hd] at qq
      exact qq
    · refine ⟨true, exm_mk T.b_TillError T.i_TillError T.t_TillError T.u_NoTill_TillError, (fun _ x hx => ?_), fun z => nomatch z⟩
      refine ⟨_, rfl, _, _, _, true, rfl, rfl, T.e_NoTill, rfl, (fun u r => r), kone_self, ⟨_, rfl, _, _, _, false, rfl, rfl, T.e_NoTill, rfl, (fun u r => r), kone_own (ne_sub T.u_NoTill_NoKind T.u_NoTill_NoTill) T.i_NoKind T.t_NoKind T.u_NoTill_NoKind, ⟨_, rfl, _, _, _, false, rfl, rfl, T.e_NoTill, rfl, (fun u r => r), kone_own (ne_sub T.u_NoTill_Twice T.u_NoTill_NoTill) T.i_Twice T.t_Twice T.u_NoTill_Twice, ⟨_, rfl, _, _, _, false, rfl, rfl, T.e_NoTill, rfl, (fun u r => r), kone_own (ne_sub T.u_NoTill_NoCount T.u_NoTill_NoTill) T.i_NoCount T.t_NoCount T.u_NoTill_NoCount, ?_⟩⟩⟩⟩
      refine ⟨len63 (by show 4 ≤ _; decide), fun l1 hl1 => ?_⟩
      (generalize hh : upd H2 l1 _ = H3; have e3 : Ex H2 H3 := (by rw [← hh]; exact Ex.nw hl1); have c3 := (show H3 l1 = some _ by rw [← hh]; exact upd_same); clear hh)
      refine ⟨_, rfl, ?_⟩
      refine ⟨_, rfl, _, _, _, false, rfl, rfl, T.e_NoTill, rfl, (fun u r => r), kone_own (ne_sub T.u_NoTill_TooFew T.u_NoTill_NoTill) T.i_TooFew T.t_TooFew T.u_NoTill_TooFew, ⟨_, rfl, _, _, _, false, rfl, rfl, T.e_NoTill, rfl, (fun u r => r), kone_own (ne_sub T.u_NoTill_StillHeld T.u_NoTill_NoTill) T.i_StillHeld T.t_StillHeld T.u_NoTill_StillHeld, ?_⟩⟩
      refine ⟨len63 (by show 2 ≤ _; decide), fun l2 hl2 => ?_⟩
      (generalize hh : upd H3 l2 _ = H4; have e4 : Ex H3 H4 := (by rw [← hh]; exact Ex.nw hl2); have c4 := (show H4 l2 = some _ by rw [← hh]; exact upd_same); clear hh)
      refine ⟨l1, l2, _, _, rfl, rfl, e4 _ _ c3, c4, len63 (by show 4 + 2 ≤ _; decide), fun l3 hl3 => ?_⟩
      (generalize hh : upd H4 l3 _ = H5; have e5 : Ex H4 H5 := (by rw [← hh]; exact Ex.nw hl3); have c5 := (show H5 l3 = some _ by rw [← hh]; exact upd_same); clear hh)
      refine ⟨_, rfl, len63 (by show 4 ≤ _; decide), fun p hp => ?_⟩
      (generalize hh : upd H5 p _ = H6; have e6 : Ex H5 H6 := (by rw [← hh]; exact Ex.nw hp); have c6 := (show H6 p = some _ by rw [← hh]; exact upd_same); clear hh)
      refine ⟨_, p, _, _, false, rfl, rfl, T.e_NoTill, rfl, c6, ?_, T.y_NoTill, false, rfl, iteF ?_⟩
      · repeat (first | exact .nil | refine .cons (.own _) ?_)
      refine ⟨_, rfl, _, _, _, true, rfl, rfl, T.e_NoTill, rfl, (fun u r => r), T.z_NoTill, true, rfl, iteT ?_⟩
      refine ⟨_, rfl, .inl ⟨rfl, _, .of (e6 _ _ c5)⟩, l3, [true, false, false, false, false, false], true, rfl, rfl, .of (e6 _ _ c5), rfl, ?_⟩
      have qq := q _ ((((ex.tr e3).tr e4).tr e5).tr e6)
      rw [hd] at qq
      exact qq
    · refine ⟨true, exm_mk T.b_TillError T.i_TillError T.t_TillError T.u_StillHeld_TillError, (fun _ x hx => ?_), fun z => nomatch z⟩
      refine ⟨_, rfl, _, _, _, false, rfl, rfl, T.e_StillHeld, rfl, (fun u r => r), kone_own (ne_sub T.u_StillHeld_NoTill T.u_StillHeld_StillHeld) T.i_NoTill T.t_NoTill T.u_StillHeld_NoTill, ⟨_, rfl, _, _, _, false, rfl, rfl, T.e_StillHeld, rfl, (fun u r => r), kone_own (ne_sub T.u_StillHeld_NoKind T.u_StillHeld_StillHeld) T.i_NoKind T.t_NoKind T.u_StillHeld_NoKind, ⟨_, rfl, _, _, _, false, rfl, rfl, T.e_StillHeld, rfl, (fun u r => r), kone_own (ne_sub T.u_StillHeld_Twice T.u_StillHeld_StillHeld) T.i_Twice T.t_Twice T.u_StillHeld_Twice, ⟨_, rfl, _, _, _, false, rfl, rfl, T.e_StillHeld, rfl, (fun u r => r), kone_own (ne_sub T.u_StillHeld_NoCount T.u_StillHeld_StillHeld) T.i_NoCount T.t_NoCount T.u_StillHeld_NoCount, ?_⟩⟩⟩⟩
      refine ⟨len63 (by show 4 ≤ _; decide), fun l1 hl1 => ?_⟩
      (generalize hh : upd H2 l1 _ = H3; have e3 : Ex H2 H3 := (by rw [← hh]; exact Ex.nw hl1); have c3 := (show H3 l1 = some _ by rw [← hh]; exact upd_same); clear hh)
      refine ⟨_, rfl, ?_⟩
      refine ⟨_, rfl, _, _, _, false, rfl, rfl, T.e_StillHeld, rfl, (fun u r => r), kone_own (ne_sub T.u_StillHeld_TooFew T.u_StillHeld_StillHeld) T.i_TooFew T.t_TooFew T.u_StillHeld_TooFew, ⟨_, rfl, _, _, _, true, rfl, rfl, T.e_StillHeld, rfl, (fun u r => r), kone_self, ?_⟩⟩
      refine ⟨len63 (by show 2 ≤ _; decide), fun l2 hl2 => ?_⟩
      (generalize hh : upd H3 l2 _ = H4; have e4 : Ex H3 H4 := (by rw [← hh]; exact Ex.nw hl2); have c4 := (show H4 l2 = some _ by rw [← hh]; exact upd_same); clear hh)
      refine ⟨l1, l2, _, _, rfl, rfl, e4 _ _ c3, c4, len63 (by show 4 + 2 ≤ _; decide), fun l3 hl3 => ?_⟩
      (generalize hh : upd H4 l3 _ = H5; have e5 : Ex H4 H5 := (by rw [← hh]; exact Ex.nw hl3); have c5 := (show H5 l3 = some _ by rw [← hh]; exact upd_same); clear hh)
      refine ⟨_, rfl, len63 (by show 4 ≤ _; decide), fun p hp => ?_⟩
      (generalize hh : upd H5 p _ = H6; have e6 : Ex H5 H6 := (by rw [← hh]; exact Ex.nw hp); have c6 := (show H6 p = some _ by rw [← hh]; exact upd_same); clear hh)
      refine ⟨_, p, _, _, false, rfl, rfl, T.e_StillHeld, rfl, c6, ?_, T.y_StillHeld, false, rfl, iteF ?_⟩
      · repeat (first | exact .nil | refine .cons (.own _) ?_)
      refine ⟨_, rfl, _, _, _, true, rfl, rfl, T.e_StillHeld, rfl, (fun u r => r), T.z_StillHeld, true, rfl, iteT ?_⟩
      refine ⟨_, rfl, .inl ⟨rfl, _, .of (e6 _ _ c5)⟩, l3, [false, false, false, false, false, true], true, rfl, rfl, .of (e6 _ _ c5), rfl, ?_⟩
      have qq := q _ ((((ex.tr e3).tr e4).tr e5).tr e6)
      rw [hd] at qq
      exact qq
def noneOf (v : Int) (p : Int × Int) : Int × Int := if p.1 = v then (p.1, 0) else p
theorem noneOf_fst (v : Int) (p : Int × Int) : (noneOf v p).1 = p.1 := by
  unfold noneOf
  split <;> rfl
theorem Tl.none {ps : List (Int × Int)} (h : Tl ps) (v : Int) : Tl (ps.map (noneOf v)) := by
  refine ⟨?_, fun p hp => ?_, fun p hp => ?_, by rw [List.length_map]; exact h.len⟩
  · unfold Rising
    rw [List.pairwise_map]
    exact h.ris.imp fun {a b} z => by rw [noneOf_fst, noneOf_fst]; exact z
  · obtain ⟨q, hq, rfl⟩ := List.mem_map.mp hp
    rw [noneOf_fst]
    exact h.val q hq
  · obtain ⟨q, hq, rfl⟩ := List.mem_map.mp hp
    unfold noneOf
    split
    · exact ⟨Int.le_refl _, by show (0 : Int) ≤ 1000000000; decide⟩
    · exact h.cnt q hq
def spLaw (K : PySem.W.Frag) : Sp := fun vs H Q _ => ∃ (a : Addr) (ns : List Int), vs = [.ref a] ∧ SqL K H a (ns.map V.int) ∧ ∀ H', Q (.bl true) H'
theorem ok_law (T : Tx K mg) : FnOk P w K mg base CX0 5 T.a_law T.d_law P_law (spLaw K) := by
  have G__law_cell_at := ok_cell_at (P := P) (w := w) (base := base) T
  have G__law_pairs := ok_pairs (P := P) (w := w) (base := base) T
  have G__law_there := ok_there (P := P) (w := w) (base := base) T
  have G__law_due := ok_dueK (P := P) (w := w) (base := base) T
  have G__law_tried := ok_tried (P := P) (w := w) (base := base) T
  have G__law_any := ok_any (P := P) (w := w) (base := base) T
  have G__law_behind := ok_behind (P := P) (w := w) (base := base) T
  have G__law_alike := ok_alike (P := P) (w := w) (base := base) T
  refine T.f_law.ok sc_law (fun vs H Q E h => ?_) (fun cdv A outer s H vs Q E hr h => ?_)
  · obtain ⟨a, ns, rfl, _⟩ := h
    rfl
  · obtain ⟨a, ns, rfl, hS, q⟩ := h
    refine ⟨_, (pss_cons (ps_set (i := 1) sc_law.nd rfl (.inl rfl) (pe_callB cr_sortedPO (by rfl) T.m_sorted (by decide +kernel) (pa_cons (pe_call G__law_pairs (hr.mono (by decide)) (by rfl) T.g__law_pairs T.f__law_pairs.kp T.p__law_pairs .nil pass0 (pa_cons (pv 0) pa_nil)) pa_nil)))
    (pss_cons (ps_set (i := 2) sc_law.nd rfl (.inl rfl) (pe_call G__law_cell_at (hr.mono (by decide)) (by rfl) T.g__law_cell_at T.f__law_cell_at.kp T.p__law_cell_at .nil pass0 (pa_cons (pv 0) (pa_cons pe_int pa_nil))))
    (pss_cons (ps_set (i := 3) sc_law.nd rfl (.inl rfl) (pe_ix ix_tup (pe_ix ix_list (pv 1) (pe_op op_mod (pe_op op_fdiv (pv 2) pe_int) (pe_callB call_len_seq (by rfl) T.m_len (by decide +kernel) (pa_cons (pv 1) pa_nil))) (fun _ _ => rfl)) pe_int (fun _ _ => rfl)))
    (pss_cons (ps_set (i := 4) sc_law.nd rfl (.inr rfl) (pe_ix ix_list (pe_lst (pa_cons (pe_op op_mod (pe_op op_fdiv (pv 2) pe_int) pe_int) (pa_cons (pv 3) (pa_cons (pv 3) (pa_cons (pe_op op_sub pe_int (pe_op op_mod (pe_op op_fdiv (pv 2) pe_int) (pe_op op_pow pe_int pe_int))) pa_nil))))) (pe_op op_mod (pv 2) pe_int) (fun _ _ => rfl)))
    (Evl.pss_cut (ps_if (pt_cmpR op_eq (pe_op op_mod (pv 2) pe_int) pe_int (nomark _))
      (pss_one (ps_set (i := 4) sc_law.nd rfl (.inr rfl) (pe_op op_add pe_int (pe_op op_mod (pe_op op_fdiv (pv 2) pe_int) (pe_op op_pow pe_int pe_int)))))
      pss_nil)
    (pss_cons (ps_set (i := 5) sc_law.nd rfl (.inl rfl) (pe_callB (call_max2 rfl) (by rfl) T.m_max (by decide +kernel) (pa_cons pe_int (pa_cons (pe_call G__law_there (hr.mono (by decide)) (by rfl) T.g__law_there T.f__law_there.kp T.p__law_there .nil pass0 (pa_cons (pv 1) (pa_cons (pv 4) pa_nil))) pa_nil))))
    (pss_cons (ps_set (i := 2) sc_law.nd rfl (.inl rfl) (pe_call G__law_cell_at (hr.mono (by decide)) (by rfl) T.g__law_cell_at T.f__law_cell_at.kp T.p__law_cell_at .nil pass0 (pa_cons (pv 0) (pa_cons pe_int pa_nil))))
    (pss_cons (ps_set (i := 6) sc_law.nd rfl (.inl rfl) (pe_op op_sub (pe_op op_pow pe_int pe_int) (pv 5)))
    (pss_cons (ps_set (i := 7) sc_law.nd rfl (.inl rfl) (pe_lst (pa_cons (pe_op op_mod (pe_op op_fdiv (pv 2) pe_int) pe_int) (pa_cons (pv 5) (pa_cons (pe_op op_add (pv 5) pe_int) (pa_cons (pv 6) (pa_cons (pe_op op_add (pv 6) pe_int) (pa_cons (pe_un un_neg pe_int) (pa_cons (pe_op op_mod (pe_op op_fdiv (pv 2) pe_int) (pe_op op_pow pe_int pe_int)) (pa_cons (pe_op op_sub pe_int (pe_op op_mod (pe_op op_fdiv (pv 2) pe_int) (pe_op op_pow pe_int pe_int))) pa_nil))))))))))
    (pss_cons (ps_set (i := 8) sc_law.nd rfl (.inl rfl) (pe_ix ix_list (pv 7) (pe_op op_mod (pv 2) pe_int) (fun _ _ => rfl)))
    (pss_cons (ps_set (i := 9) sc_law.nd rfl (.inl rfl) (pe_op op_mod (pe_call G__law_cell_at (hr.mono (by decide)) (by rfl) T.g__law_cell_at T.f__law_cell_at.kp T.p__law_cell_at .nil pass0 (pa_cons (pv 0) (pa_cons pe_int pa_nil))) pe_int))
    (Evl.pss_cut (ps_if (pt_cmpR op_eq (pe_op op_mod (pe_op op_fdiv (pe_call G__law_cell_at (hr.mono (by decide)) (by rfl) T.g__law_cell_at T.f__law_cell_at.kp T.p__law_cell_at .nil pass0 (pa_cons (pv 0) (pa_cons pe_int pa_nil))) pe_int) pe_int) pe_int (nomark _))
      (pss_one (ps_setLc (i := 1) (own := [("_law_pair", 16)]) (g := gName 16) rfl sc_law.nd rfl rfl (sw_true rfl rfl rfl (by decide +kernel)) (pi_list (pv 1)) (blkOk_by (own := [("_law_pair", 16)]) (N := N_law) (sc := defScope s_law) (by decide +kernel)) (fun _ _ _ _ _ => pg_name (i := 16) sc_law.nd rfl (.inl rfl) (.inr rfl)) (fun _ _ _ _ _ => pts_nil) (fun _ _ _ _ _ => (pe_ifExp (pt_cmpR op_eq (pe_ix (r := rIxT K) ix_tup (pv 16) pe_int (fun _ _ => rfl)) (pv 4) (nomark _)) (pe_tup (pa_cons (pe_ix (r := rIxT K) ix_tup (pv 16) pe_int (fun _ _ => rfl)) (pa_cons pe_int pa_nil))) (pv 16)))))
      pss_nil)
    (pss_cons (ps_set (i := 10) sc_law.nd rfl (.inl rfl) (pe_callTy call_list_of (by rfl) T.m_list (by decide +kernel) (pa_cons (pv 1) pa_nil)))
    (pss_cons (ps_set (i := 11) sc_law.nd rfl (.inl rfl) (pe_call G__law_due (hr.mono (by decide)) (by rfl) T.g__law_due T.f__law_due.kp T.p__law_due .nil pass0 (pa_cons (pv 1) (pa_cons (pv 9) (pa_cons (pv 4) (pa_cons (pv 8) pa_nil))))))
    (pss_cons (ps_set (i := 12) sc_law.nd rfl (.inl rfl) (pe_call G__law_tried (hr.mono (by decide)) (by rfl) T.g__law_tried T.f__law_tried.kp T.p__law_tried .nil pass0 (pa_cons (pv 10) (pa_cons (pv 9) (pa_cons (pv 4) (pa_cons (pv 8) pa_nil))))))
    (pss_cons (ps_if (PW.pt (pw_or (pt_cmpR op_ne (pe_ix ix_list (pv 12) pe_int (fun _ _ => rfl)) (pv 11) (nomark _)) (pw_or (pt_cmpR op_ne (pe_call G__law_any (hr.mono (by decide)) (by rfl) T.g__law_any T.f__law_any.kp T.p__law_any .nil pass0 (pa_cons (pv 10) (pa_cons (pv 9) (pa_cons (pv 4) (pa_cons (pv 8) pa_nil))))) (pe_cmpR op_ne (pv 11) pe_str (nomark _)) (nomark _)) (pw_or1 (pt_cmpR (op_neD hr.units) (pv 10) (pv 1) (nomark _))))))
      (pss_one (ps_ret pe_bl))
      pss_nil)
    (pss_cons (ps_if (pt_cmpR op_ne (pv 11) pe_str (nomark _))
      (pss_one (ps_ret pe_bl))
      pss_nil)
    (pss_cons (ps_expr (pe_bm PySem.F.plainAttrs_list PySem.F.slot_list_append PySem.F.type_list_append mt_append (pv 10) (pa_cons (pe_tup (pa_cons pe_int (pa_cons pe_int pa_nil))) pa_nil)))
    (pss_cons (ps_set (i := 13) sc_law.nd rfl (.inl rfl) (pe_call G__law_behind (hr.mono (by decide)) (by rfl) T.g__law_behind T.f__law_behind.kp T.p__law_behind .nil pass0 (pa_cons (pv 1) (pa_cons (pv 9) (pa_cons (pv 4) (pa_cons (pv 8) pa_nil))))))
    (pss_cons (ps_set (i := 14) sc_law.nd rfl (.inl rfl) (pe_call G__law_alike (hr.mono (by decide)) (by rfl) T.g__law_alike T.f__law_alike.kp T.p__law_alike .nil pass0 (pa_cons (pe_ix ix_list (pv 12) pe_int (fun _ _ => rfl)) (pa_cons (pv 13) pa_nil))))
    (pss_cons (ps_expr (pe_bm PySem.F.plainAttrs_list PySem.F.slot_list_append PySem.F.type_list_append mt_append (pe_ix ix_list (pv 12) pe_int (fun _ _ => rfl)) (pa_cons (pe_tup (pa_cons pe_int (pa_cons pe_int pa_nil))) pa_nil)))
    (pss_cons (ps_set (i := 15) sc_law.nd rfl (.inl rfl) (pe_call G__law_tried (hr.mono (by decide)) (by rfl) T.g__law_tried T.f__law_tried.kp T.p__law_tried .nil pass0 (pa_cons (pe_callTy call_list_of (by rfl) T.m_list (by decide +kernel) (pa_cons (pv 1) pa_nil)) (pa_cons (pv 9) (pa_cons (pv 4) (pa_cons (pv 8) pa_nil))))))
    (pss_one (ps_ret (pe_and (pv 14) (pe_and (pe_cmpR (op_eqD hr.units) (pv 10) (pe_op op_cat (pv 1) (pe_lst (pa_cons (pe_tup (pa_cons pe_int (pa_cons pe_int pa_nil))) pa_nil))) (nomark _)) (pe_one (pe_call G__law_alike (hr.mono (by decide)) (by rfl) T.g__law_alike T.f__law_alike.kp T.p__law_alike .nil pass0 (pa_cons (pe_ix ix_list (pv 15) pe_int (fun _ _ => rfl)) (pa_cons (pv 13) pa_nil)))))))))))))))))))))))))))))), ?_⟩
    refine ⟨_, rfl, a, ns, rfl, hS, fun p xs ps H2 e2 hp ep hpr dr h1 h10 => ?_⟩
    refine ⟨p, xs, pairAt H2, rfl, .of ep, hpr.all, fun ys t z1 z2 ht => ?_⟩
    obtain ⟨qs, hq0, hpm, hris⟩ := sorted_prs hpr dr.nd z1 z2
    have drq := dr.perm hpm
    have hTq : Tl qs := ⟨hris, drq.val, drq.cnt, by rw [hpm.length_eq]; exact ⟨h1, h10⟩⟩
    (generalize hh : upd H2 t _ = H3; have e3 : Ex H2 H3 := (by rw [← hh]; exact Ex.nw ht); have ct := (show H3 t = some _ by rw [← hh]; exact upd_same); clear hh)
    have ex3 := Ex.tr e2 e3
    have hq3 := hq0.ex e3
    have hyl := hq3.len
    have hl10 := hTq.len
    refine ⟨_, rfl, a, ns, 3, rfl, ex3.seq hS, ?_⟩
    -- a value that it has, or another
    have hpos : 0 < (ys.length : Int) := by omega
    have b1 : 0 ≤ cell ns 3 / 4 % (ys.length : Int) := Int.emod_nonneg _ (by omega)
    have b2 : cell ns 3 / 4 % (ys.length : Int) < ys.length := Int.emod_lt_of_pos _ hpos
    obtain ⟨k0, hk0⟩ : ∃ k : Nat, cell ns 3 / 4 % (ys.length : Int) = (k : Int) := ⟨_, (Int.toNat_of_nonneg b1).symm⟩
    have hk0l : k0 < ys.length := by omega
    obtain ⟨p0, t0, _, g2, g3⟩ := Prs.get hq3 (List.getElem?_eq_getElem hk0l)
    have it : atI ys (cell ns 3 / 4 % (ys.length : Int)) = some (.ref t0) := at_of hk0 (by rw [List.getElem?_eq_getElem hk0l, g2])
    refine ⟨_, rfl, _, rfl, _, _, rfl, rfl, ⟨by decide, by decide⟩, _, rfl, t, ys, rfl, .inl (.of ct), _, _, rfl, rfl, hpos, t, ys, _, _, rfl, rfl, .of ct, it, t0, _, 0, .int p0.1, rfl, rfl, .of g3, rfl, ?_⟩
    repeat (first | refine ⟨_, rfl, ?_⟩ | refine ⟨(by show (0 : Int) < _; decide), ?_⟩ | refine ⟨⟨by decide, by decide⟩, ?_⟩ | refine ⟨.inr ⟨by decide, by decide⟩, ?_⟩ | refine ⟨.inl ⟨by decide, by decide⟩, ?_⟩ | refine ⟨⟨by decide, by decide, by decide⟩, ?_⟩ | refine ⟨_, _, rfl, rfl, ?_⟩ | refine ⟨rfl, _, rfl, ?_⟩)
    refine ⟨len63 (by show 4 ≤ _; decide), fun m hm => ?_⟩
    have d1 : 0 ≤ cell ns 3 % 4 := Int.emod_nonneg _ (by decide)
    have d2 : cell ns 3 % 4 < 4 := Int.emod_lt_of_pos _ (by decide)
    repeat (first | refine ⟨_, rfl, ?_⟩ | refine ⟨(by show (0 : Int) < _; decide), ?_⟩ | refine ⟨⟨by decide, by decide⟩, ?_⟩ | refine ⟨.inr ⟨by decide, by decide⟩, ?_⟩ | refine ⟨.inl ⟨by decide, by decide⟩, ?_⟩ | refine ⟨⟨by decide, by decide, by decide⟩, ?_⟩ | refine ⟨_, _, rfl, rfl, ?_⟩ | refine ⟨rfl, _, rfl, ?_⟩)
    refine ⟨m, [cell ns 3 / 4 % 1002, p0.1, p0.1, 0 - cell ns 3 / 4 % 10 ^ (9 : Int).toNat].map V.int, _, _, rfl, rfl, .of upd_same, menu_at rfl d1 d2, ?_⟩
    generalize List.getD _ _ _ = v0
    (generalize hh : upd H3 m _ = H4; have e4 : Ex H3 H4 := (by rw [← hh]; exact Ex.nw hm); have c4 := (show H4 m = some _ by rw [← hh]; exact upd_same); clear hh)
    have ex4 := ex3.tr e4
    have ct4 := e4 _ _ ct
    have hq4 := hq3.ex e4
    refine ⟨fun σ' H' => ∃ v : Int, σ' = [some (.ref a), some (.ref t), some (.int (cell ns 3)), some (.int p0.1), some (.int v), none, none, none, none, none, none, none, none, none, none, none, none] ∧ H' = H4, ?_, ?_⟩
    · repeat (first | refine ⟨_, rfl, ?_⟩ | refine ⟨(by show (0 : Int) < _; decide), ?_⟩ | refine ⟨⟨by decide, by decide⟩, ?_⟩ | refine ⟨.inr ⟨by decide, by decide⟩, ?_⟩ | refine ⟨.inl ⟨by decide, by decide⟩, ?_⟩ | refine ⟨⟨by decide, by decide, by decide⟩, ?_⟩ | refine ⟨_, _, rfl, rfl, ?_⟩ | refine ⟨rfl, _, rfl, ?_⟩)
      first | refine iteVI (fun e => ?_) (fun e => ?_) | refine iteVN (fun e => ?_) (fun e => ?_) | refine iteD (fun e => ?_) (fun e => ?_) | refine iteDN (fun e => ?_) (fun e => ?_) | refine iteB (fun e => ?_) (fun e => ?_)
      · repeat (first | refine ⟨_, rfl, ?_⟩ | refine ⟨(by show (0 : Int) < _; decide), ?_⟩ | refine ⟨⟨by decide, by decide⟩, ?_⟩ | refine ⟨.inr ⟨by decide, by decide⟩, ?_⟩ | refine ⟨.inl ⟨by decide, by decide⟩, ?_⟩ | refine ⟨⟨by decide, by decide, by decide⟩, ?_⟩ | refine ⟨_, _, rfl, rfl, ?_⟩ | refine ⟨rfl, _, rfl, ?_⟩)
        exact rfl
      · exact ⟨_, rfl, rfl⟩
    rintro σ' H' ⟨v, rfl, rfl⟩
    refine ⟨_, rfl, _, rfl, t, qs, v, rfl, ⟨ys, .of ct4, hq4⟩, _, _, rfl, ?_⟩
    generalize (if there qs v > 0 then there qs v else 0) = th0
    refine ⟨_, rfl, a, ns, 4, rfl, ex4.seq hS, ?_⟩
    repeat (first | refine ⟨_, rfl, ?_⟩ | refine ⟨(by show (0 : Int) < _; decide), ?_⟩ | refine ⟨⟨by decide, by decide⟩, ?_⟩ | refine ⟨.inr ⟨by decide, by decide⟩, ?_⟩ | refine ⟨.inl ⟨by decide, by decide⟩, ?_⟩ | refine ⟨⟨by decide, by decide, by decide⟩, ?_⟩ | refine ⟨_, _, rfl, rfl, ?_⟩ | refine ⟨rfl, _, rfl, ?_⟩)
    refine ⟨len63 (by show 8 ≤ _; decide), fun m2 hm2 => ?_⟩
    have d3 : 0 ≤ cell ns 4 % 8 := Int.emod_nonneg _ (by decide)
    have d4 : cell ns 4 % 8 < 8 := Int.emod_lt_of_pos _ (by decide)
    repeat (first | refine ⟨_, rfl, ?_⟩ | refine ⟨(by show (0 : Int) < _; decide), ?_⟩ | refine ⟨⟨by decide, by decide⟩, ?_⟩ | refine ⟨.inr ⟨by decide, by decide⟩, ?_⟩ | refine ⟨.inl ⟨by decide, by decide⟩, ?_⟩ | refine ⟨⟨by decide, by decide, by decide⟩, ?_⟩ | refine ⟨_, _, rfl, rfl, ?_⟩ | refine ⟨rfl, _, rfl, ?_⟩)
    refine ⟨m2, [cell ns 4 / 8 % 10, th0, th0 + 1, 10 ^ (9 : Int).toNat - th0, 10 ^ (9 : Int).toNat - th0 + 1, -1, cell ns 4 / 8 % 10 ^ (10 : Int).toNat, 0 - cell ns 4 / 8 % 10 ^ (9 : Int).toNat].map V.int, _, _, rfl, rfl, .of upd_same, menu_at rfl d3 d4, ?_⟩
    generalize List.getD _ _ _ = c
    (generalize hh : upd H' m2 _ = H5; have e5 : Ex H' H5 := (by rw [← hh]; exact Ex.nw hm2); have c5 := (show H5 m2 = some _ by rw [← hh]; exact upd_same); clear hh)
    have ex5 := ex4.tr e5
    have ct5 := e5 _ _ ct4
    have hq5 := hq4.ex e5
    refine ⟨_, rfl, a, ns, 5, rfl, ex5.seq hS, _, _, rfl, rfl, by show (0 : Int) < 4; decide, ?_⟩
    have w1 : 0 ≤ cell ns 5 % 4 := Int.emod_nonneg _ (by decide)
    have w2 : cell ns 5 % 4 < 4 := Int.emod_lt_of_pos _ (by decide)
    have hn : cell ns 5 % 4 = 0 ∨ cell ns 5 % 4 = 1 ∨ cell ns 5 % 4 = 2 ∨ cell ns 5 % 4 = 3 := by omega
    -- none of that kind, in some
    refine ⟨fun σ' H' => ∃ (t : Addr) (ys : List V) (ps : List (Int × Int)) (n : Int), σ' = [some (.ref a), some (.ref t), some (.int (cell ns 4)), some (.int p0.1), some (.int v), some (.int th0), some (.int (10 ^ (9 : Int).toNat - th0)), some (.ref m2), some (.int c), some (.int n), none, none, none, none, none, none, none] ∧
      H' t = some (.lst ys) ∧ Prs H' ys ps ∧ Tl ps ∧ (n = 0 ∨ n = 1 ∨ n = 2 ∨ n = 3), ?_, ?_⟩
    · refine ⟨_, rfl, a, ns, 5, rfl, ex5.seq hS, ?_⟩
      repeat (first | refine ⟨_, rfl, ?_⟩ | refine ⟨(by show (0 : Int) < _; decide), ?_⟩ | refine ⟨⟨by decide, by decide⟩, ?_⟩ | refine ⟨.inr ⟨by decide, by decide⟩, ?_⟩ | refine ⟨.inl ⟨by decide, by decide⟩, ?_⟩ | refine ⟨⟨by decide, by decide, by decide⟩, ?_⟩ | refine ⟨_, _, rfl, rfl, ?_⟩ | refine ⟨rfl, _, rfl, ?_⟩)
      first | refine iteVI (fun e => ?_) (fun e => ?_) | refine iteVN (fun e => ?_) (fun e => ?_) | refine iteD (fun e => ?_) (fun e => ?_) | refine iteDN (fun e => ?_) (fun e => ?_) | refine iteB (fun e => ?_) (fun e => ?_)
      · refine ⟨_, rfl, t, rfl, ⟨ys, .of ct5⟩, fun D hD => lc_list (xs := ys) (fun i H' => ∃ zs, Ex H5 H' ∧ H' D = some (.lst zs) ∧ zs.length = i ∧ Prs H' zs ((qs.take i).map (noneOf v))) ⟨[], Ex.nw hD, upd_same, rfl, .nil⟩ (fun i H' _ h => by
          obtain ⟨_, e, _⟩ := h
          exact .of (e _ _ ct5)) ?_ ?_⟩
        · rintro i x H' hx ⟨zs, ex, eD, hzl, hz⟩
          obtain ⟨p, t1, h1, rfl, h3⟩ := Prs.get hq5 hx
          have hi : i < qs.length := (List.getElem?_eq_some_iff.mp h1).1
          refine ⟨rfl, t_yes ?_⟩
          refine ⟨_, rfl, t1, _, 0, .int p.1, rfl, rfl, .of (ex _ _ h3), rfl, _, rfl, rfl, _, rfl, iteVI (fun e => ?_) (fun e => ?_)⟩
          · refine ⟨_, rfl, t1, _, 0, .int p.1, rfl, rfl, .of (ex _ _ h3), rfl, len63 (by show 2 ≤ _; decide), fun t2 ht2 => ?_⟩
            have nDt : D ≠ t2 := ne_of_none eD ht2
            have eD' : (upd H' t2 (.tup [.int p.1, .int 0])) D = some (.lst zs) := by rw [upd_ne nDt]; exact eD
            refine ⟨zs, eD', len63' (by omega), zs ++ [.ref t2], Ex.mu (ex.tr (Ex.nw ht2)) hD, upd_same, by rw [List.length_append, hzl]; rfl, ?_⟩
            rw [take_snoc h1, List.map_append, show List.map (noneOf v) [p] = [(p.1, 0)] by show [noneOf v p] = _; unfold noneOf; rw [if_pos e]]
            refine Prs.up (by intro bs y; rw [eD'] at y; cases y) ?_
            exact Prs.snoc (hz.ex (Ex.nw ht2)) ⟨t2, rfl, upd_same⟩
          · refine ⟨_, rfl, zs, eD, len63' (by omega), zs ++ [.ref t1], Ex.mu ex hD, upd_same, by rw [List.length_append, hzl]; rfl, ?_⟩
            rw [take_snoc h1, List.map_append, show List.map (noneOf v) [p] = [p] by show [noneOf v p] = _; unfold noneOf; rw [if_neg e]]
            refine Prs.up (by intro bs y; rw [eD] at y; cases y) ?_
            exact Prs.snoc hz ⟨t1, rfl, ex _ _ h3⟩
        · rintro H' ⟨zs, ex, eD, hzl, hz⟩
          rw [List.take_of_length_le (by omega)] at hz
          exact ⟨D, zs, _, _, rfl, eD, hz, hTq.none v, hn⟩
      · exact ⟨t, ys, qs, _, rfl, ct5, hq5, hTq, hn⟩
    rintro σ' H6 ⟨tl, zs, ps6, n, rfl, ctl, hz, hTl, hn6⟩
    have hzl := hz.len
    have hl6 := hTl.len
    -- handed in
    refine ⟨_, rfl, tl, zs, rfl, .inl (.of ctl), fun hd hhd => ?_⟩
    have nth : tl ≠ hd := ne_of_none ctl hhd
    (generalize hh : upd H6 hd _ = H7; have e7 : Ex H6 H7 := (by rw [← hh]; exact Ex.nw hhd); have chd := (show H7 hd = some _ by rw [← hh]; exact upd_same); clear hh)
    have ctl7 := e7 _ _ ctl
    have hz7 := hz.ex e7
    refine ⟨_, rfl, _, rfl, _, rfl, _, rfl, tl, ps6, n, v, c, rfl, ⟨zs, .of ctl7, hz7⟩, hn6, ?_⟩
    refine ⟨_, rfl, _, rfl, _, rfl, _, rfl, hd, zs, ps6, n, v, c, rfl, chd, hz7, hTl, hn6, fun l eo fs gs H8 e8 hl he hle el ee hg hb => ?_⟩
    have ctl8 := e8 _ _ ctl7
    have chd8 := e8 _ _ chd
    have hz8 := hz7.ex e8
    generalize hdk : dueK ps6 n v c = dk at el hb ⊢
    refine ⟨_, rfl, l, _, _, _, rfl, rfl, .of el, rfl, _, rfl, rfl, _, rfl, iteDN (fun y => absurd rfl y) (fun _ => ?_)⟩
    refine ⟨_, rfl, _, rfl, _, rfl, _, rfl, hd, zs, ps6, n, v, c, rfl, chd8, hz8, hTl, hn6, fun H9 e9 => ?_⟩
    have ctl9 := e9 _ _ ctl8
    have chd9 := e9 _ _ chd8
    have el9 := e9 _ _ el
    have ee9 := e9 _ _ ee
    have hz9 := hz8.ex e9
    have hg9 := hg.ex e9
    have hAB : (!decide (dueK ps6 n v c = "")) = (!decide (V.str dk = V.str "")) := by
      rw [hdk]
      congr 1
      exact decide_eq_decide.mpr ⟨congrArg V.str, V.str.inj⟩
    refine ⟨_, rfl, rfl, rfl, _, rfl, iteDN (fun y => absurd (congrArg V.bl hAB) y) (fun _ => ?_)⟩
    refine ⟨_, rfl, _, rfl, _, _, till_dp (K := K) ⟨zs, .of chd9, hz9⟩, till_dp (K := K) ⟨zs, .of ctl9, hz9⟩, shaped_till ps6, shaped_till ps6, ?_⟩
    rw [eqv_of_shaped (shaped_till ps6)]
    refine ⟨_, rfl, iteF ?_⟩
    refine ⟨_, rfl, rfl, _, rfl, iteDN (fun _ => q _) (fun hz0 => ?_)⟩
    obtain rfl : dk = "" := V.str.inj hz0
    have hbe := hb rfl
    have nhl : hd ≠ l := ne_of_none chd hl
    have nhe : hd ≠ eo := ne_of_none chd he
    have ntl : tl ≠ l := ne_of_none ctl7 hl
    have nte : tl ≠ eo := ne_of_none ctl7 he
    -- what was handed in grows
    refine ⟨_, rfl, .inl ⟨rfl, zs, .of chd9⟩, len63 (by show 2 ≤ _; decide), fun t5 ht5 => ?_⟩
    have nh5 : hd ≠ t5 := ne_of_none chd9 ht5
    have chd10 : (upd H9 t5 (.tup [.int 5, .int 5])) hd = some (.lst zs) := by rw [upd_ne nh5]; exact chd9
    refine ⟨hd, zs, _, rfl, rfl, chd10, len63' (by omega), ?_⟩
    generalize hH11 : upd (upd H9 t5 (.tup [.int 5, .int 5])) hd (.lst (zs ++ [.ref t5])) = H11
    have chd11 : H11 hd = some (.lst (zs ++ [.ref t5])) := by rw [← hH11]; exact upd_same
    have ctl11 : H11 tl = some (.lst zs) := by rw [← hH11, upd_ne nth]; exact (Ex.nw ht5) _ _ ctl9
    have el11 : H11 l = some (.lst [.str "", .ref eo]) := by rw [← hH11, upd_ne nhl.symm]; exact (Ex.nw ht5) _ _ el9
    have ee11 : H11 eo = some (.lst fs) := by rw [← hH11, upd_ne nhe.symm]; exact (Ex.nw ht5) _ _ ee9
    have upP : ∀ {us : List V} {rs : List (Int × Int)}, Prs H9 us rs → Prs H11 us rs := fun h => hH11 ▸ (h.ex (Ex.nw ht5)).up (by intro bs y; rw [chd10] at y; cases y)
    have hz11 := upP hz9
    have hg11 := upP hg9
    have ct511 : H11 t5 = some (.tup [.int 5, .int 5]) := by rw [← hH11, upd_ne nh5.symm]; exact upd_same
    -- the till behind
    refine ⟨_, rfl, _, rfl, _, rfl, _, rfl, tl, zs, ps6, n, v, c, rfl, ctl11, hz11, hTl, hn6, hdk, fun p8 xs8 qs8 H12 e12 hp8 ep8 hpr8 hb8 => ?_⟩
    obtain rfl : qs8 = gs := hb8.uniq hbe
    have el12 := e12 _ _ el11
    have ee12 := e12 _ _ ee11
    have hg12 := hg11.ex e12
    refine ⟨_, rfl, l, _, _, .ref eo, rfl, rfl, .of el12, rfl, _, rfl, eo, p8, fs, qs8, rfl, ee12, hg12, ⟨xs8, .of ep8, hpr8⟩, ?_⟩
    have n8e : p8 ≠ eo := (ne_of_none ee11 hp8).symm
    -- it grows too
    refine ⟨_, rfl, l, _, _, .ref eo, rfl, rfl, .of el12, rfl, .inl ⟨rfl, fs, .of ee12⟩, len63 (by show 2 ≤ _; decide), fun t7 ht7 => ?_⟩
    have ne7 : eo ≠ t7 := ne_of_none ee12 ht7
    have ee13 : (upd H12 t7 (.tup [.int 7, .int 7])) eo = some (.lst fs) := by rw [upd_ne ne7]; exact ee12
    have hfl : fs.length ≤ 1000 := by
      rw [hg.len]
      exact hbe.few hl6.2
    refine ⟨eo, fs, _, rfl, rfl, ee13, len63' (by omega), ?_⟩
    generalize hH14 : upd (upd H12 t7 (.tup [.int 7, .int 7])) eo (.lst (fs ++ [.ref t7])) = H14
    have chd14 : H14 hd = some (.lst (zs ++ [.ref t5])) := by rw [← hH14, upd_ne nhe]; exact (Ex.nw ht7) _ _ (e12 _ _ chd11)
    have ctl14 : H14 tl = some (.lst zs) := by rw [← hH14, upd_ne nte]; exact (Ex.nw ht7) _ _ (e12 _ _ ctl11)
    have ep14 : H14 p8 = some (.lst xs8) := by rw [← hH14, upd_ne n8e]; exact (Ex.nw ht7) _ _ ep8
    have upQ : ∀ {us : List V} {rs : List (Int × Int)}, Prs H12 us rs → Prs H14 us rs := fun h => hH14 ▸ (h.ex (Ex.nw ht7)).up (by intro bs y; rw [ee13] at y; cases y)
    have hz14 := upQ (hz11.ex e12)
    have hpr14 := upQ hpr8
    have ct514 : H14 t5 = some (.tup [.int 5, .int 5]) := by
      have h12 := e12 _ _ ct511
      rw [← hH14, upd_ne fun y => by rw [y, ee12] at h12; cases h12]
      exact (Ex.nw ht7) _ _ h12
    -- once more
    refine ⟨_, rfl, tl, zs, rfl, .inl (.of ctl14), fun l2 hl2 => ?_⟩
    (generalize hh : upd H14 l2 _ = H15; have e15 : Ex H14 H15 := (by rw [← hh]; exact Ex.nw hl2); have c15 := (show H15 l2 = some _ by rw [← hh]; exact upd_same); clear hh)
    refine ⟨_, rfl, _, rfl, _, rfl, l2, zs, ps6, n, v, c, rfl, c15, hz14.ex e15, hTl, hn6, fun l3 eo3 fs3 gs3 H16 e16 hl3 he3 hle3 el3 ee3 hg3 hb3 => ?_⟩
    obtain rfl : gs3 = qs8 := (hb3 hdk).uniq hbe
    have ex16 := e15.tr e16
    have chd16 := ex16 _ _ chd14
    have ctl16 := ex16 _ _ ctl14
    refine ⟨_, rfl, true, rfl, iteT ?_⟩
    refine ⟨_, rfl, _, rfl, len63 (by show 2 ≤ _; decide), fun t9 ht9 => ?_⟩
    (generalize hh : upd H16 t9 _ = H17; have e17 : Ex H16 H17 := (by rw [← hh]; exact Ex.nw ht9); have c17 := (show H17 t9 = some _ by rw [← hh]; exact upd_same); clear hh)
    refine ⟨len63 (by show 1 ≤ _; decide), fun l9 hl9 => ?_⟩
    (generalize hh : upd H17 l9 _ = H18; have e18 : Ex H17 H18 := (by rw [← hh]; exact Ex.nw hl9); have c18 := (show H18 l9 = some _ by rw [← hh]; exact upd_same); clear hh)
    refine ⟨tl, l9, _, _, rfl, rfl, e18 _ _ (e17 _ _ ctl16), c18, len63 (by show zs.length + 1 ≤ _; omega), fun l10 hl10 => ?_⟩
    (generalize hh : upd H18 l10 _ = H19; have e19 : Ex H18 H19 := (by rw [← hh]; exact Ex.nw hl10); have c19 := (show H19 l10 = some _ by rw [← hh]; exact upd_same); clear hh)
    have ex19 := (ex16.tr e17).tr (e18.tr e19)
    have hd1 : Till K H19 hd (ps6 ++ [(5, 5)]) := ⟨_, .of (ex19 _ _ chd14), Prs.snoc (hz14.ex ex19) ⟨t5, rfl, ex19 _ _ ct514⟩⟩
    have hd2 : Till K H19 l10 (ps6 ++ [(5, 5)]) := ⟨_, .of c19, Prs.snoc (hz14.ex ex19) ⟨t9, rfl, e19 _ _ (e18 _ _ c17)⟩⟩
    refine ⟨_, _, till_dp hd1, till_dp hd2, shaped_till _, shaped_till _, ?_⟩
    rw [eqv_of_shaped (shaped_till _)]
    refine ⟨true, rfl, iteT ?_⟩
    have e169 := (e17.tr e18).tr e19
    exact ⟨_, rfl, l3, _, _, .ref eo3, rfl, rfl, .of (e169 _ _ el3), rfl, _, rfl, eo3, p8, fs3, gs3, rfl, e169 _ _ ee3, hg3.ex e169, ⟨xs8, .of (ex19 _ _ ep14), hpr14.ex ex19⟩, q _⟩
theorem law_start {K : PySem.W.Frag} {H : Hp} {a : Addr} {ns : List Int} (hl : ns.length ≤ 63) (hO : Only H) (hS : SqL K H a (ns.map V.int)) : spLaw K [.ref a] H (fun v _ => v = .bl true) fun _ _ _ => False :=
  ⟨a, ns, rfl, hS, fun _ => rfl⟩
end
theorem tx_mk {K : PySem.W.Frag} {h : Heap} {mg : Str → Option Value} (X : K.In h) (G : h.Ns mainGlobals mg) {c_TillError : Addr} {c_NoTill : Addr} {c_NoKind : Addr} {c_Twice : Addr} {c_NoCount : Addr} {c_NoSum : Addr} {c_TooLittle : Addr} {c_NoChange : Addr} {c_TooFew : Addr} {c_StillHeld : Addr} {c_NoDeed : Addr} {a_check_value : Addr} {od_0 an_0 : Option Addr} {sl_0 : Array (Option Value)} {oc_0 kV_0 dc_0 pm_0 cd_0 ct_0 : Value} {a_check_count : Addr} {od_1 an_1 : Option Addr} {sl_1 : Array (Option Value)} {oc_1 kV_1 dc_1 pm_1 cd_1 ct_1 : Value} {a_count_of : Addr} {od_2 an_2 : Option Addr} {sl_2 : Array (Option Value)} {oc_2 kV_2 dc_2 pm_2 cd_2 ct_2 : Value} {a_brought : Addr} {od_3 an_3 : Option Addr} {sl_3 : Array (Option Value)} {oc_3 kV_3 dc_3 pm_3 cd_3 ct_3 : Value} {a_fetched : Addr} {od_4 an_4 : Option Addr} {sl_4 : Array (Option Value)} {oc_4 kV_4 dc_4 pm_4 cd_4 ct_4 : Value} {a_kind_in : Addr} {od_5 an_5 : Option Addr} {sl_5 : Array (Option Value)} {oc_5 kV_5 dc_5 pm_5 cd_5 ct_5 : Value} {a_kind_out : Addr} {od_6 an_6 : Option Addr} {sl_6 : Array (Option Value)} {oc_6 kV_6 dc_6 pm_6 cd_6 ct_6 : Value} {a__with_count : Addr} {od_7 an_7 : Option Addr} {sl_7 : Array (Option Value)} {oc_7 kV_7 dc_7 pm_7 cd_7 ct_7 : Value} {a__law_cell_at : Addr} {od_8 an_8 : Option Addr} {sl_8 : Array (Option Value)} {oc_8 kV_8 dc_8 pm_8 cd_8 ct_8 : Value} {a__law_whole : Addr} {od_9 an_9 : Option Addr} {sl_9 : Array (Option Value)} {oc_9 kV_9 dc_9 pm_9 cd_9 ct_9 : Value} {a__law_mixed : Addr} {od_10 an_10 : Option Addr} {sl_10 : Array (Option Value)} {oc_10 kV_10 dc_10 pm_10 cd_10 ct_10 : Value} {a__law_value : Addr} {od_11 an_11 : Option Addr} {sl_11 : Array (Option Value)} {oc_11 kV_11 dc_11 pm_11 cd_11 ct_11 : Value} {a__law_count : Addr} {od_12 an_12 : Option Addr} {sl_12 : Array (Option Value)} {oc_12 kV_12 dc_12 pm_12 cd_12 ct_12 : Value} {a__law_pairs : Addr} {od_13 an_13 : Option Addr} {sl_13 : Array (Option Value)} {oc_13 kV_13 dc_13 pm_13 cd_13 ct_13 : Value} {a__law_alike : Addr} {od_14 an_14 : Option Addr} {sl_14 : Array (Option Value)} {oc_14 kV_14 dc_14 pm_14 cd_14 ct_14 : Value} {a__law_there : Addr} {od_15 an_15 : Option Addr} {sl_15 : Array (Option Value)} {oc_15 kV_15 dc_15 pm_15 cd_15 ct_15 : Value} {a__law_due : Addr} {od_16 an_16 : Option Addr} {sl_16 : Array (Option Value)} {oc_16 kV_16 dc_16 pm_16 cd_16 ct_16 : Value} {a__law_behind : Addr} {od_17 an_17 : Option Addr} {sl_17 : Array (Option Value)} {oc_17 kV_17 dc_17 pm_17 cd_17 ct_17 : Value} {a__law_done : Addr} {od_18 an_18 : Option Addr} {sl_18 : Array (Option Value)} {oc_18 kV_18 dc_18 pm_18 cd_18 ct_18 : Value} {a__law_tried : Addr} {od_19 an_19 : Option Addr} {sl_19 : Array (Option Value)} {oc_19 kV_19 dc_19 pm_19 cd_19 ct_19 : Value} {a__law_any : Addr} {od_20 an_20 : Option Addr} {sl_20 : Array (Option Value)} {oc_20 kV_20 dc_20 pm_20 cd_20 ct_20 : Value} {a_law : Addr} {od_21 an_21 : Option Addr} {sl_21 : Array (Option Value)} {oc_21 kV_21 dc_21 pm_21 cd_21 ct_21 : Value} {tk_MOST_KINDS : Tok} {tk_MOST_VALUE : Tok} {tk_MOST_COUNT : Tok}
    (g_TillError : PySem.W.nsIn K mainGlobals "TillError" = some (some (.ref c_TillError)))
    (x_TillError : PySem.W.excIn K c_TillError [.type "ValueError", .type "Exception", .type "BaseException", .type "object"] "ValueError.__new__" = true)
    (k_TillError : PySem.W.keepIn K (.ref c_TillError) = true)
    (b_TillError : PySem.W.subIn K (.ref c_TillError) (.type "BaseException") = some true)
    (t_TillError : PySem.W.typeIn K (.ref c_TillError) = some (.type "type"))
    (i_TillError : PySem.W.isClsIn K c_TillError = true)
    (g_NoTill : PySem.W.nsIn K mainGlobals "NoTill" = some (some (.ref c_NoTill)))
    (x_NoTill : PySem.W.excIn K c_NoTill [.type "ValueError", .type "Exception", .type "BaseException", .type "object"] "ValueError.__new__" = true)
    (k_NoTill : PySem.W.keepIn K (.ref c_NoTill) = true)
    (b_NoTill : PySem.W.subIn K (.ref c_NoTill) (.type "BaseException") = some true)
    (t_NoTill : PySem.W.typeIn K (.ref c_NoTill) = some (.type "type"))
    (i_NoTill : PySem.W.isClsIn K c_NoTill = true)
    (g_NoKind : PySem.W.nsIn K mainGlobals "NoKind" = some (some (.ref c_NoKind)))
    (x_NoKind : PySem.W.excIn K c_NoKind [.type "ValueError", .type "Exception", .type "BaseException", .type "object"] "ValueError.__new__" = true)
    (k_NoKind : PySem.W.keepIn K (.ref c_NoKind) = true)
    (b_NoKind : PySem.W.subIn K (.ref c_NoKind) (.type "BaseException") = some true)
    (t_NoKind : PySem.W.typeIn K (.ref c_NoKind) = some (.type "type"))
    (i_NoKind : PySem.W.isClsIn K c_NoKind = true)
    (g_Twice : PySem.W.nsIn K mainGlobals "Twice" = some (some (.ref c_Twice)))
    (x_Twice : PySem.W.excIn K c_Twice [.type "ValueError", .type "Exception", .type "BaseException", .type "object"] "ValueError.__new__" = true)
    (k_Twice : PySem.W.keepIn K (.ref c_Twice) = true)
    (b_Twice : PySem.W.subIn K (.ref c_Twice) (.type "BaseException") = some true)
    (t_Twice : PySem.W.typeIn K (.ref c_Twice) = some (.type "type"))
    (i_Twice : PySem.W.isClsIn K c_Twice = true)
    (g_NoCount : PySem.W.nsIn K mainGlobals "NoCount" = some (some (.ref c_NoCount)))
    (x_NoCount : PySem.W.excIn K c_NoCount [.type "ValueError", .type "Exception", .type "BaseException", .type "object"] "ValueError.__new__" = true)
    (k_NoCount : PySem.W.keepIn K (.ref c_NoCount) = true)
    (b_NoCount : PySem.W.subIn K (.ref c_NoCount) (.type "BaseException") = some true)
    (t_NoCount : PySem.W.typeIn K (.ref c_NoCount) = some (.type "type"))
    (i_NoCount : PySem.W.isClsIn K c_NoCount = true)
    (g_NoSum : PySem.W.nsIn K mainGlobals "NoSum" = some (some (.ref c_NoSum)))
    (x_NoSum : PySem.W.excIn K c_NoSum [.type "ValueError", .type "Exception", .type "BaseException", .type "object"] "ValueError.__new__" = true)
    (k_NoSum : PySem.W.keepIn K (.ref c_NoSum) = true)
    (b_NoSum : PySem.W.subIn K (.ref c_NoSum) (.type "BaseException") = some true)
    (t_NoSum : PySem.W.typeIn K (.ref c_NoSum) = some (.type "type"))
    (i_NoSum : PySem.W.isClsIn K c_NoSum = true)
    (g_TooLittle : PySem.W.nsIn K mainGlobals "TooLittle" = some (some (.ref c_TooLittle)))
    (x_TooLittle : PySem.W.excIn K c_TooLittle [.type "ValueError", .type "Exception", .type "BaseException", .type "object"] "ValueError.__new__" = true)
    (k_TooLittle : PySem.W.keepIn K (.ref c_TooLittle) = true)
    (b_TooLittle : PySem.W.subIn K (.ref c_TooLittle) (.type "BaseException") = some true)
    (t_TooLittle : PySem.W.typeIn K (.ref c_TooLittle) = some (.type "type"))
    (i_TooLittle : PySem.W.isClsIn K c_TooLittle = true)
    (g_NoChange : PySem.W.nsIn K mainGlobals "NoChange" = some (some (.ref c_NoChange)))
    (x_NoChange : PySem.W.excIn K c_NoChange [.type "ValueError", .type "Exception", .type "BaseException", .type "object"] "ValueError.__new__" = true)
    (k_NoChange : PySem.W.keepIn K (.ref c_NoChange) = true)
    (b_NoChange : PySem.W.subIn K (.ref c_NoChange) (.type "BaseException") = some true)
    (t_NoChange : PySem.W.typeIn K (.ref c_NoChange) = some (.type "type"))
    (i_NoChange : PySem.W.isClsIn K c_NoChange = true)
    (g_TooFew : PySem.W.nsIn K mainGlobals "TooFew" = some (some (.ref c_TooFew)))
    (x_TooFew : PySem.W.excIn K c_TooFew [.type "ValueError", .type "Exception", .type "BaseException", .type "object"] "ValueError.__new__" = true)
    (k_TooFew : PySem.W.keepIn K (.ref c_TooFew) = true)
    (b_TooFew : PySem.W.subIn K (.ref c_TooFew) (.type "BaseException") = some true)
    (t_TooFew : PySem.W.typeIn K (.ref c_TooFew) = some (.type "type"))
    (i_TooFew : PySem.W.isClsIn K c_TooFew = true)
    (g_StillHeld : PySem.W.nsIn K mainGlobals "StillHeld" = some (some (.ref c_StillHeld)))
    (x_StillHeld : PySem.W.excIn K c_StillHeld [.type "ValueError", .type "Exception", .type "BaseException", .type "object"] "ValueError.__new__" = true)
    (k_StillHeld : PySem.W.keepIn K (.ref c_StillHeld) = true)
    (b_StillHeld : PySem.W.subIn K (.ref c_StillHeld) (.type "BaseException") = some true)
    (t_StillHeld : PySem.W.typeIn K (.ref c_StillHeld) = some (.type "type"))
    (i_StillHeld : PySem.W.isClsIn K c_StillHeld = true)
    (g_NoDeed : PySem.W.nsIn K mainGlobals "NoDeed" = some (some (.ref c_NoDeed)))
    (x_NoDeed : PySem.W.excIn K c_NoDeed [.type "ValueError", .type "Exception", .type "BaseException", .type "object"] "ValueError.__new__" = true)
    (k_NoDeed : PySem.W.keepIn K (.ref c_NoDeed) = true)
    (b_NoDeed : PySem.W.subIn K (.ref c_NoDeed) (.type "BaseException") = some true)
    (t_NoDeed : PySem.W.typeIn K (.ref c_NoDeed) = some (.type "type"))
    (i_NoDeed : PySem.W.isClsIn K c_NoDeed = true)
    (u_NoKind_NoKind : PySem.W.subIn K (.ref c_NoKind) (.ref c_NoKind) = some true)
    (u_NoKind_NoCount : PySem.W.subIn K (.ref c_NoKind) (.ref c_NoCount) = some false)
    (u_NoKind_TooFew : PySem.W.subIn K (.ref c_NoKind) (.ref c_TooFew) = some false)
    (u_NoKind_Twice : PySem.W.subIn K (.ref c_NoKind) (.ref c_Twice) = some false)
    (u_NoKind_NoTill : PySem.W.subIn K (.ref c_NoKind) (.ref c_NoTill) = some false)
    (u_NoKind_StillHeld : PySem.W.subIn K (.ref c_NoKind) (.ref c_StillHeld) = some false)
    (u_NoKind_TillError : PySem.W.subIn K (.ref c_NoKind) (.ref c_TillError) = some true)
    (u_NoKind_NoChange : PySem.W.subIn K (.ref c_NoKind) (.ref c_NoChange) = some false)
    (u_NoKind_NoDeed : PySem.W.subIn K (.ref c_NoKind) (.ref c_NoDeed) = some false)
    (u_NoKind_NoSum : PySem.W.subIn K (.ref c_NoKind) (.ref c_NoSum) = some false)
    (u_NoKind_TooLittle : PySem.W.subIn K (.ref c_NoKind) (.ref c_TooLittle) = some false)
    (u_NoCount_NoKind : PySem.W.subIn K (.ref c_NoCount) (.ref c_NoKind) = some false)
    (u_NoCount_NoCount : PySem.W.subIn K (.ref c_NoCount) (.ref c_NoCount) = some true)
    (u_NoCount_TooFew : PySem.W.subIn K (.ref c_NoCount) (.ref c_TooFew) = some false)
    (u_NoCount_Twice : PySem.W.subIn K (.ref c_NoCount) (.ref c_Twice) = some false)
    (u_NoCount_NoTill : PySem.W.subIn K (.ref c_NoCount) (.ref c_NoTill) = some false)
    (u_NoCount_StillHeld : PySem.W.subIn K (.ref c_NoCount) (.ref c_StillHeld) = some false)
    (u_NoCount_TillError : PySem.W.subIn K (.ref c_NoCount) (.ref c_TillError) = some true)
    (u_NoCount_NoChange : PySem.W.subIn K (.ref c_NoCount) (.ref c_NoChange) = some false)
    (u_NoCount_NoDeed : PySem.W.subIn K (.ref c_NoCount) (.ref c_NoDeed) = some false)
    (u_NoCount_NoSum : PySem.W.subIn K (.ref c_NoCount) (.ref c_NoSum) = some false)
    (u_NoCount_TooLittle : PySem.W.subIn K (.ref c_NoCount) (.ref c_TooLittle) = some false)
    (u_TooFew_NoKind : PySem.W.subIn K (.ref c_TooFew) (.ref c_NoKind) = some false)
    (u_TooFew_NoCount : PySem.W.subIn K (.ref c_TooFew) (.ref c_NoCount) = some false)
    (u_TooFew_TooFew : PySem.W.subIn K (.ref c_TooFew) (.ref c_TooFew) = some true)
    (u_TooFew_Twice : PySem.W.subIn K (.ref c_TooFew) (.ref c_Twice) = some false)
    (u_TooFew_NoTill : PySem.W.subIn K (.ref c_TooFew) (.ref c_NoTill) = some false)
    (u_TooFew_StillHeld : PySem.W.subIn K (.ref c_TooFew) (.ref c_StillHeld) = some false)
    (u_TooFew_TillError : PySem.W.subIn K (.ref c_TooFew) (.ref c_TillError) = some true)
    (u_TooFew_NoChange : PySem.W.subIn K (.ref c_TooFew) (.ref c_NoChange) = some false)
    (u_TooFew_NoDeed : PySem.W.subIn K (.ref c_TooFew) (.ref c_NoDeed) = some false)
    (u_TooFew_NoSum : PySem.W.subIn K (.ref c_TooFew) (.ref c_NoSum) = some false)
    (u_TooFew_TooLittle : PySem.W.subIn K (.ref c_TooFew) (.ref c_TooLittle) = some false)
    (u_Twice_NoKind : PySem.W.subIn K (.ref c_Twice) (.ref c_NoKind) = some false)
    (u_Twice_NoCount : PySem.W.subIn K (.ref c_Twice) (.ref c_NoCount) = some false)
    (u_Twice_TooFew : PySem.W.subIn K (.ref c_Twice) (.ref c_TooFew) = some false)
    (u_Twice_Twice : PySem.W.subIn K (.ref c_Twice) (.ref c_Twice) = some true)
    (u_Twice_NoTill : PySem.W.subIn K (.ref c_Twice) (.ref c_NoTill) = some false)
    (u_Twice_StillHeld : PySem.W.subIn K (.ref c_Twice) (.ref c_StillHeld) = some false)
    (u_Twice_TillError : PySem.W.subIn K (.ref c_Twice) (.ref c_TillError) = some true)
    (u_Twice_NoChange : PySem.W.subIn K (.ref c_Twice) (.ref c_NoChange) = some false)
    (u_Twice_NoDeed : PySem.W.subIn K (.ref c_Twice) (.ref c_NoDeed) = some false)
    (u_Twice_NoSum : PySem.W.subIn K (.ref c_Twice) (.ref c_NoSum) = some false)
    (u_Twice_TooLittle : PySem.W.subIn K (.ref c_Twice) (.ref c_TooLittle) = some false)
    (u_NoTill_NoKind : PySem.W.subIn K (.ref c_NoTill) (.ref c_NoKind) = some false)
    (u_NoTill_NoCount : PySem.W.subIn K (.ref c_NoTill) (.ref c_NoCount) = some false)
    (u_NoTill_TooFew : PySem.W.subIn K (.ref c_NoTill) (.ref c_TooFew) = some false)
    (u_NoTill_Twice : PySem.W.subIn K (.ref c_NoTill) (.ref c_Twice) = some false)
    (u_NoTill_NoTill : PySem.W.subIn K (.ref c_NoTill) (.ref c_NoTill) = some true)
    (u_NoTill_StillHeld : PySem.W.subIn K (.ref c_NoTill) (.ref c_StillHeld) = some false)
    (u_NoTill_TillError : PySem.W.subIn K (.ref c_NoTill) (.ref c_TillError) = some true)
    (u_NoTill_NoChange : PySem.W.subIn K (.ref c_NoTill) (.ref c_NoChange) = some false)
    (u_NoTill_NoDeed : PySem.W.subIn K (.ref c_NoTill) (.ref c_NoDeed) = some false)
    (u_NoTill_NoSum : PySem.W.subIn K (.ref c_NoTill) (.ref c_NoSum) = some false)
    (u_NoTill_TooLittle : PySem.W.subIn K (.ref c_NoTill) (.ref c_TooLittle) = some false)
    (u_StillHeld_NoKind : PySem.W.subIn K (.ref c_StillHeld) (.ref c_NoKind) = some false)
    (u_StillHeld_NoCount : PySem.W.subIn K (.ref c_StillHeld) (.ref c_NoCount) = some false)
    (u_StillHeld_TooFew : PySem.W.subIn K (.ref c_StillHeld) (.ref c_TooFew) = some false)
    (u_StillHeld_Twice : PySem.W.subIn K (.ref c_StillHeld) (.ref c_Twice) = some false)
    (u_StillHeld_NoTill : PySem.W.subIn K (.ref c_StillHeld) (.ref c_NoTill) = some false)
    (u_StillHeld_StillHeld : PySem.W.subIn K (.ref c_StillHeld) (.ref c_StillHeld) = some true)
    (u_StillHeld_TillError : PySem.W.subIn K (.ref c_StillHeld) (.ref c_TillError) = some true)
    (u_StillHeld_NoChange : PySem.W.subIn K (.ref c_StillHeld) (.ref c_NoChange) = some false)
    (u_StillHeld_NoDeed : PySem.W.subIn K (.ref c_StillHeld) (.ref c_NoDeed) = some false)
    (u_StillHeld_NoSum : PySem.W.subIn K (.ref c_StillHeld) (.ref c_NoSum) = some false)
    (u_StillHeld_TooLittle : PySem.W.subIn K (.ref c_StillHeld) (.ref c_TooLittle) = some false)
    (hg_NoKind : PySem.W.findIn K (.ref c_NoKind) "__getattribute__" = some (some (.builtin "BaseException.__getattribute__")))
    (hk_NoKind : PySem.W.findIn K (.ref c_NoKind) "__getattr__" = some none)
    (hd_NoKind : PySem.W.hasDictIn K c_NoKind = true)
    (ha_NoKind : PySem.W.findIn K (.ref c_NoKind) "__class__" = some (some (.builtin "object.__class__")))
    (hm_NoKind : PySem.W.mroIn K c_NoKind (.type "object") = some true)
    (z_NoKind : PySem.W.subIn K (.ref c_NoKind) (.type "ValueError") = some true)
    (n_NoKind_NoChange : c_NoKind ≠ c_NoChange)
    (n_NoKind_NoDeed : c_NoKind ≠ c_NoDeed)
    (n_NoKind_NoSum : c_NoKind ≠ c_NoSum)
    (n_NoKind_TooLittle : c_NoKind ≠ c_TooLittle)
    (hg_NoCount : PySem.W.findIn K (.ref c_NoCount) "__getattribute__" = some (some (.builtin "BaseException.__getattribute__")))
    (hk_NoCount : PySem.W.findIn K (.ref c_NoCount) "__getattr__" = some none)
    (hd_NoCount : PySem.W.hasDictIn K c_NoCount = true)
    (ha_NoCount : PySem.W.findIn K (.ref c_NoCount) "__class__" = some (some (.builtin "object.__class__")))
    (hm_NoCount : PySem.W.mroIn K c_NoCount (.type "object") = some true)
    (z_NoCount : PySem.W.subIn K (.ref c_NoCount) (.type "ValueError") = some true)
    (n_NoCount_NoChange : c_NoCount ≠ c_NoChange)
    (n_NoCount_NoDeed : c_NoCount ≠ c_NoDeed)
    (n_NoCount_NoSum : c_NoCount ≠ c_NoSum)
    (n_NoCount_TooLittle : c_NoCount ≠ c_TooLittle)
    (hg_TooFew : PySem.W.findIn K (.ref c_TooFew) "__getattribute__" = some (some (.builtin "BaseException.__getattribute__")))
    (hk_TooFew : PySem.W.findIn K (.ref c_TooFew) "__getattr__" = some none)
    (hd_TooFew : PySem.W.hasDictIn K c_TooFew = true)
    (ha_TooFew : PySem.W.findIn K (.ref c_TooFew) "__class__" = some (some (.builtin "object.__class__")))
    (hm_TooFew : PySem.W.mroIn K c_TooFew (.type "object") = some true)
    (z_TooFew : PySem.W.subIn K (.ref c_TooFew) (.type "ValueError") = some true)
    (n_TooFew_NoChange : c_TooFew ≠ c_NoChange)
    (n_TooFew_NoDeed : c_TooFew ≠ c_NoDeed)
    (n_TooFew_NoSum : c_TooFew ≠ c_NoSum)
    (n_TooFew_TooLittle : c_TooFew ≠ c_TooLittle)
    (hg_Twice : PySem.W.findIn K (.ref c_Twice) "__getattribute__" = some (some (.builtin "BaseException.__getattribute__")))
    (hk_Twice : PySem.W.findIn K (.ref c_Twice) "__getattr__" = some none)
    (hd_Twice : PySem.W.hasDictIn K c_Twice = true)
    (ha_Twice : PySem.W.findIn K (.ref c_Twice) "__class__" = some (some (.builtin "object.__class__")))
    (hm_Twice : PySem.W.mroIn K c_Twice (.type "object") = some true)
    (z_Twice : PySem.W.subIn K (.ref c_Twice) (.type "ValueError") = some true)
    (n_Twice_NoChange : c_Twice ≠ c_NoChange)
    (n_Twice_NoDeed : c_Twice ≠ c_NoDeed)
    (n_Twice_NoSum : c_Twice ≠ c_NoSum)
    (n_Twice_TooLittle : c_Twice ≠ c_TooLittle)
    (hg_NoTill : PySem.W.findIn K (.ref c_NoTill) "__getattribute__" = some (some (.builtin "BaseException.__getattribute__")))
    (hk_NoTill : PySem.W.findIn K (.ref c_NoTill) "__getattr__" = some none)
    (hd_NoTill : PySem.W.hasDictIn K c_NoTill = true)
    (ha_NoTill : PySem.W.findIn K (.ref c_NoTill) "__class__" = some (some (.builtin "object.__class__")))
    (hm_NoTill : PySem.W.mroIn K c_NoTill (.type "object") = some true)
    (z_NoTill : PySem.W.subIn K (.ref c_NoTill) (.type "ValueError") = some true)
    (n_NoTill_NoChange : c_NoTill ≠ c_NoChange)
    (n_NoTill_NoDeed : c_NoTill ≠ c_NoDeed)
    (n_NoTill_NoSum : c_NoTill ≠ c_NoSum)
    (n_NoTill_TooLittle : c_NoTill ≠ c_TooLittle)
    (hg_StillHeld : PySem.W.findIn K (.ref c_StillHeld) "__getattribute__" = some (some (.builtin "BaseException.__getattribute__")))
    (hk_StillHeld : PySem.W.findIn K (.ref c_StillHeld) "__getattr__" = some none)
    (hd_StillHeld : PySem.W.hasDictIn K c_StillHeld = true)
    (ha_StillHeld : PySem.W.findIn K (.ref c_StillHeld) "__class__" = some (some (.builtin "object.__class__")))
    (hm_StillHeld : PySem.W.mroIn K c_StillHeld (.type "object") = some true)
    (z_StillHeld : PySem.W.subIn K (.ref c_StillHeld) (.type "ValueError") = some true)
    (n_StillHeld_NoChange : c_StillHeld ≠ c_NoChange)
    (n_StillHeld_NoDeed : c_StillHeld ≠ c_NoDeed)
    (n_StillHeld_NoSum : c_StillHeld ≠ c_NoSum)
    (n_StillHeld_TooLittle : c_StillHeld ≠ c_TooLittle)
    (hn : PySem.W.specialIn K (.builtin "object.__class__") "__get__" = some (some (.builtin "getset_descriptor.__get__")))
    (ht : PySem.W.takesIn K (.builtin "object.__class__") = some true)
    (g_check_value : PySem.W.nsIn K mainGlobals "check_value" = some (some (.ref a_check_value)))
    (l_check_value : K.lookup a_check_value = some ⟨oc_0, od_0, .func (PySem.W.fnOf "check_value" "check_value" (defArgs s_check_value) (defBody s_check_value) (defScope s_check_value) .none kV_0 dc_0 pm_0 an_0 cd_0 ct_0), sl_0⟩)
    (o_check_value : PySem.W.codeIn K cd_0 "check_value" = true)
    (k_check_value : PySem.W.keepIn K (.ref a_check_value) = true)
    (g_check_count : PySem.W.nsIn K mainGlobals "check_count" = some (some (.ref a_check_count)))
    (l_check_count : K.lookup a_check_count = some ⟨oc_1, od_1, .func (PySem.W.fnOf "check_count" "check_count" (defArgs s_check_count) (defBody s_check_count) (defScope s_check_count) .none kV_1 dc_1 pm_1 an_1 cd_1 ct_1), sl_1⟩)
    (o_check_count : PySem.W.codeIn K cd_1 "check_count" = true)
    (k_check_count : PySem.W.keepIn K (.ref a_check_count) = true)
    (g_count_of : PySem.W.nsIn K mainGlobals "count_of" = some (some (.ref a_count_of)))
    (l_count_of : K.lookup a_count_of = some ⟨oc_2, od_2, .func (PySem.W.fnOf "count_of" "count_of" (defArgs s_count_of) (defBody s_count_of) (defScope s_count_of) .none kV_2 dc_2 pm_2 an_2 cd_2 ct_2), sl_2⟩)
    (o_count_of : PySem.W.codeIn K cd_2 "count_of" = true)
    (k_count_of : PySem.W.keepIn K (.ref a_count_of) = true)
    (g_brought : PySem.W.nsIn K mainGlobals "brought" = some (some (.ref a_brought)))
    (l_brought : K.lookup a_brought = some ⟨oc_3, od_3, .func (PySem.W.fnOf "brought" "brought" (defArgs s_brought) (defBody s_brought) (defScope s_brought) .none kV_3 dc_3 pm_3 an_3 cd_3 ct_3), sl_3⟩)
    (o_brought : PySem.W.codeIn K cd_3 "brought" = true)
    (k_brought : PySem.W.keepIn K (.ref a_brought) = true)
    (g_fetched : PySem.W.nsIn K mainGlobals "fetched" = some (some (.ref a_fetched)))
    (l_fetched : K.lookup a_fetched = some ⟨oc_4, od_4, .func (PySem.W.fnOf "fetched" "fetched" (defArgs s_fetched) (defBody s_fetched) (defScope s_fetched) .none kV_4 dc_4 pm_4 an_4 cd_4 ct_4), sl_4⟩)
    (o_fetched : PySem.W.codeIn K cd_4 "fetched" = true)
    (k_fetched : PySem.W.keepIn K (.ref a_fetched) = true)
    (g_kind_in : PySem.W.nsIn K mainGlobals "kind_in" = some (some (.ref a_kind_in)))
    (l_kind_in : K.lookup a_kind_in = some ⟨oc_5, od_5, .func (PySem.W.fnOf "kind_in" "kind_in" (defArgs s_kind_in) (defBody s_kind_in) (defScope s_kind_in) .none kV_5 dc_5 pm_5 an_5 cd_5 ct_5), sl_5⟩)
    (o_kind_in : PySem.W.codeIn K cd_5 "kind_in" = true)
    (k_kind_in : PySem.W.keepIn K (.ref a_kind_in) = true)
    (g_kind_out : PySem.W.nsIn K mainGlobals "kind_out" = some (some (.ref a_kind_out)))
    (l_kind_out : K.lookup a_kind_out = some ⟨oc_6, od_6, .func (PySem.W.fnOf "kind_out" "kind_out" (defArgs s_kind_out) (defBody s_kind_out) (defScope s_kind_out) .none kV_6 dc_6 pm_6 an_6 cd_6 ct_6), sl_6⟩)
    (o_kind_out : PySem.W.codeIn K cd_6 "kind_out" = true)
    (k_kind_out : PySem.W.keepIn K (.ref a_kind_out) = true)
    (g__with_count : PySem.W.nsIn K mainGlobals "_with_count" = some (some (.ref a__with_count)))
    (l__with_count : K.lookup a__with_count = some ⟨oc_7, od_7, .func (PySem.W.fnOf "_with_count" "_with_count" (defArgs s__with_count) (defBody s__with_count) (defScope s__with_count) .none kV_7 dc_7 pm_7 an_7 cd_7 ct_7), sl_7⟩)
    (o__with_count : PySem.W.codeIn K cd_7 "_with_count" = true)
    (k__with_count : PySem.W.keepIn K (.ref a__with_count) = true)
    (g__law_cell_at : PySem.W.nsIn K mainGlobals "_law_cell_at" = some (some (.ref a__law_cell_at)))
    (l__law_cell_at : K.lookup a__law_cell_at = some ⟨oc_8, od_8, .func (PySem.W.fnOf "_law_cell_at" "_law_cell_at" (defArgs s__law_cell_at) (defBody s__law_cell_at) (defScope s__law_cell_at) .none kV_8 dc_8 pm_8 an_8 cd_8 ct_8), sl_8⟩)
    (o__law_cell_at : PySem.W.codeIn K cd_8 "_law_cell_at" = true)
    (k__law_cell_at : PySem.W.keepIn K (.ref a__law_cell_at) = true)
    (g__law_whole : PySem.W.nsIn K mainGlobals "_law_whole" = some (some (.ref a__law_whole)))
    (l__law_whole : K.lookup a__law_whole = some ⟨oc_9, od_9, .func (PySem.W.fnOf "_law_whole" "_law_whole" (defArgs s__law_whole) (defBody s__law_whole) (defScope s__law_whole) .none kV_9 dc_9 pm_9 an_9 cd_9 ct_9), sl_9⟩)
    (o__law_whole : PySem.W.codeIn K cd_9 "_law_whole" = true)
    (k__law_whole : PySem.W.keepIn K (.ref a__law_whole) = true)
    (g__law_mixed : PySem.W.nsIn K mainGlobals "_law_mixed" = some (some (.ref a__law_mixed)))
    (l__law_mixed : K.lookup a__law_mixed = some ⟨oc_10, od_10, .func (PySem.W.fnOf "_law_mixed" "_law_mixed" (defArgs s__law_mixed) (defBody s__law_mixed) (defScope s__law_mixed) .none kV_10 dc_10 pm_10 an_10 cd_10 ct_10), sl_10⟩)
    (o__law_mixed : PySem.W.codeIn K cd_10 "_law_mixed" = true)
    (k__law_mixed : PySem.W.keepIn K (.ref a__law_mixed) = true)
    (g__law_value : PySem.W.nsIn K mainGlobals "_law_value" = some (some (.ref a__law_value)))
    (l__law_value : K.lookup a__law_value = some ⟨oc_11, od_11, .func (PySem.W.fnOf "_law_value" "_law_value" (defArgs s__law_value) (defBody s__law_value) (defScope s__law_value) .none kV_11 dc_11 pm_11 an_11 cd_11 ct_11), sl_11⟩)
    (o__law_value : PySem.W.codeIn K cd_11 "_law_value" = true)
    (k__law_value : PySem.W.keepIn K (.ref a__law_value) = true)
    (g__law_count : PySem.W.nsIn K mainGlobals "_law_count" = some (some (.ref a__law_count)))
    (l__law_count : K.lookup a__law_count = some ⟨oc_12, od_12, .func (PySem.W.fnOf "_law_count" "_law_count" (defArgs s__law_count) (defBody s__law_count) (defScope s__law_count) .none kV_12 dc_12 pm_12 an_12 cd_12 ct_12), sl_12⟩)
    (o__law_count : PySem.W.codeIn K cd_12 "_law_count" = true)
    (k__law_count : PySem.W.keepIn K (.ref a__law_count) = true)
    (g__law_pairs : PySem.W.nsIn K mainGlobals "_law_pairs" = some (some (.ref a__law_pairs)))
    (l__law_pairs : K.lookup a__law_pairs = some ⟨oc_13, od_13, .func (PySem.W.fnOf "_law_pairs" "_law_pairs" (defArgs s__law_pairs) (defBody s__law_pairs) (defScope s__law_pairs) .none kV_13 dc_13 pm_13 an_13 cd_13 ct_13), sl_13⟩)
    (o__law_pairs : PySem.W.codeIn K cd_13 "_law_pairs" = true)
    (k__law_pairs : PySem.W.keepIn K (.ref a__law_pairs) = true)
    (g__law_alike : PySem.W.nsIn K mainGlobals "_law_alike" = some (some (.ref a__law_alike)))
    (l__law_alike : K.lookup a__law_alike = some ⟨oc_14, od_14, .func (PySem.W.fnOf "_law_alike" "_law_alike" (defArgs s__law_alike) (defBody s__law_alike) (defScope s__law_alike) .none kV_14 dc_14 pm_14 an_14 cd_14 ct_14), sl_14⟩)
    (o__law_alike : PySem.W.codeIn K cd_14 "_law_alike" = true)
    (k__law_alike : PySem.W.keepIn K (.ref a__law_alike) = true)
    (g__law_there : PySem.W.nsIn K mainGlobals "_law_there" = some (some (.ref a__law_there)))
    (l__law_there : K.lookup a__law_there = some ⟨oc_15, od_15, .func (PySem.W.fnOf "_law_there" "_law_there" (defArgs s__law_there) (defBody s__law_there) (defScope s__law_there) .none kV_15 dc_15 pm_15 an_15 cd_15 ct_15), sl_15⟩)
    (o__law_there : PySem.W.codeIn K cd_15 "_law_there" = true)
    (k__law_there : PySem.W.keepIn K (.ref a__law_there) = true)
    (g__law_due : PySem.W.nsIn K mainGlobals "_law_due" = some (some (.ref a__law_due)))
    (l__law_due : K.lookup a__law_due = some ⟨oc_16, od_16, .func (PySem.W.fnOf "_law_due" "_law_due" (defArgs s__law_due) (defBody s__law_due) (defScope s__law_due) .none kV_16 dc_16 pm_16 an_16 cd_16 ct_16), sl_16⟩)
    (o__law_due : PySem.W.codeIn K cd_16 "_law_due" = true)
    (k__law_due : PySem.W.keepIn K (.ref a__law_due) = true)
    (g__law_behind : PySem.W.nsIn K mainGlobals "_law_behind" = some (some (.ref a__law_behind)))
    (l__law_behind : K.lookup a__law_behind = some ⟨oc_17, od_17, .func (PySem.W.fnOf "_law_behind" "_law_behind" (defArgs s__law_behind) (defBody s__law_behind) (defScope s__law_behind) .none kV_17 dc_17 pm_17 an_17 cd_17 ct_17), sl_17⟩)
    (o__law_behind : PySem.W.codeIn K cd_17 "_law_behind" = true)
    (k__law_behind : PySem.W.keepIn K (.ref a__law_behind) = true)
    (g__law_done : PySem.W.nsIn K mainGlobals "_law_done" = some (some (.ref a__law_done)))
    (l__law_done : K.lookup a__law_done = some ⟨oc_18, od_18, .func (PySem.W.fnOf "_law_done" "_law_done" (defArgs s__law_done) (defBody s__law_done) (defScope s__law_done) .none kV_18 dc_18 pm_18 an_18 cd_18 ct_18), sl_18⟩)
    (o__law_done : PySem.W.codeIn K cd_18 "_law_done" = true)
    (k__law_done : PySem.W.keepIn K (.ref a__law_done) = true)
    (g__law_tried : PySem.W.nsIn K mainGlobals "_law_tried" = some (some (.ref a__law_tried)))
    (l__law_tried : K.lookup a__law_tried = some ⟨oc_19, od_19, .func (PySem.W.fnOf "_law_tried" "_law_tried" (defArgs s__law_tried) (defBody s__law_tried) (defScope s__law_tried) .none kV_19 dc_19 pm_19 an_19 cd_19 ct_19), sl_19⟩)
    (o__law_tried : PySem.W.codeIn K cd_19 "_law_tried" = true)
    (k__law_tried : PySem.W.keepIn K (.ref a__law_tried) = true)
    (g__law_any : PySem.W.nsIn K mainGlobals "_law_any" = some (some (.ref a__law_any)))
    (l__law_any : K.lookup a__law_any = some ⟨oc_20, od_20, .func (PySem.W.fnOf "_law_any" "_law_any" (defArgs s__law_any) (defBody s__law_any) (defScope s__law_any) .none kV_20 dc_20 pm_20 an_20 cd_20 ct_20), sl_20⟩)
    (o__law_any : PySem.W.codeIn K cd_20 "_law_any" = true)
    (k__law_any : PySem.W.keepIn K (.ref a__law_any) = true)
    (g_law : PySem.W.nsIn K mainGlobals "law" = some (some (.ref a_law)))
    (l_law : K.lookup a_law = some ⟨oc_21, od_21, .func (PySem.W.fnOf "law" "law" (defArgs s_law) (defBody s_law) (defScope s_law) .none kV_21 dc_21 pm_21 an_21 cd_21 ct_21), sl_21⟩)
    (o_law : PySem.W.codeIn K cd_21 "law" = true)
    (k_law : PySem.W.keepIn K (.ref a_law) = true)
    (w_MOST_KINDS : PySem.W.nsIn K mainGlobals "MOST_KINDS" = some (some (.int 10 tk_MOST_KINDS)))
    (w_MOST_VALUE : PySem.W.nsIn K mainGlobals "MOST_VALUE" = some (some (.int 1000 tk_MOST_VALUE)))
    (w_MOST_COUNT : PySem.W.nsIn K mainGlobals "MOST_COUNT" = some (some (.int 1000000000 tk_MOST_COUNT)))
    (m_ValueError : PySem.W.nsIn K mainGlobals "ValueError" = some none)
    (m_bool : PySem.W.nsIn K mainGlobals "bool" = some none)
    (m_int : PySem.W.nsIn K mainGlobals "int" = some none)
    (m_isinstance : PySem.W.nsIn K mainGlobals "isinstance" = some none)
    (m_len : PySem.W.nsIn K mainGlobals "len" = some none)
    (m_list : PySem.W.nsIn K mainGlobals "list" = some none)
    (m_max : PySem.W.nsIn K mainGlobals "max" = some none)
    (m_range : PySem.W.nsIn K mainGlobals "range" = some none)
    (m_sorted : PySem.W.nsIn K mainGlobals "sorted" = some none)
    (m_tuple : PySem.W.nsIn K mainGlobals "tuple" = some none)
    : ∃ T : Tx K mg, T.a_law = a_law ∧ (∀ (s : Shared) (v : Value), BindsTo s T.d_law ⟨[v], []⟩ [("_law_script", v)]) := by
  have F_check_value := fun_mk (st := s_check_value) l_check_value o_check_value k_check_value
  have B_check_value := F_check_value.binds (ps := P_check_value) fun _ _ _ _ _ _ us hl => match us, hl with | [_], _ => rfl
  have F_check_count := fun_mk (st := s_check_count) l_check_count o_check_count k_check_count
  have B_check_count := F_check_count.binds (ps := P_check_count) fun _ _ _ _ _ _ us hl => match us, hl with | [_], _ => rfl
  have F_count_of := fun_mk (st := s_count_of) l_count_of o_count_of k_count_of
  have B_count_of := F_count_of.binds (ps := P_count_of) fun _ _ _ _ _ _ us hl => match us, hl with | [_, _], _ => rfl
  have F_brought := fun_mk (st := s_brought) l_brought o_brought k_brought
  have B_brought := F_brought.binds (ps := P_brought) fun _ _ _ _ _ _ us hl => match us, hl with | [_, _, _], _ => rfl
  have F_fetched := fun_mk (st := s_fetched) l_fetched o_fetched k_fetched
  have B_fetched := F_fetched.binds (ps := P_fetched) fun _ _ _ _ _ _ us hl => match us, hl with | [_, _, _], _ => rfl
  have F_kind_in := fun_mk (st := s_kind_in) l_kind_in o_kind_in k_kind_in
  have B_kind_in := F_kind_in.binds (ps := P_kind_in) fun _ _ _ _ _ _ us hl => match us, hl with | [_, _], _ => rfl
  have F_kind_out := fun_mk (st := s_kind_out) l_kind_out o_kind_out k_kind_out
  have B_kind_out := F_kind_out.binds (ps := P_kind_out) fun _ _ _ _ _ _ us hl => match us, hl with | [_, _], _ => rfl
  have F__with_count := fun_mk (st := s__with_count) l__with_count o__with_count k__with_count
  have B__with_count := F__with_count.binds (ps := P__with_count) fun _ _ _ _ _ _ us hl => match us, hl with | [_, _, _], _ => rfl
  have F__law_cell_at := fun_mk (st := s__law_cell_at) l__law_cell_at o__law_cell_at k__law_cell_at
  have B__law_cell_at := F__law_cell_at.binds (ps := P__law_cell_at) fun _ _ _ _ _ _ us hl => match us, hl with | [_, _], _ => rfl
  have F__law_whole := fun_mk (st := s__law_whole) l__law_whole o__law_whole k__law_whole
  have B__law_whole := F__law_whole.binds (ps := P__law_whole) fun _ _ _ _ _ _ us hl => match us, hl with | [_], _ => rfl
  have F__law_mixed := fun_mk (st := s__law_mixed) l__law_mixed o__law_mixed k__law_mixed
  have B__law_mixed := F__law_mixed.binds (ps := P__law_mixed) fun _ _ _ _ _ _ us hl => match us, hl with | [_, _], _ => rfl
  have F__law_value := fun_mk (st := s__law_value) l__law_value o__law_value k__law_value
  have B__law_value := F__law_value.binds (ps := P__law_value) fun _ _ _ _ _ _ us hl => match us, hl with | [_, _], _ => rfl
  have F__law_count := fun_mk (st := s__law_count) l__law_count o__law_count k__law_count
  have B__law_count := F__law_count.binds (ps := P__law_count) fun _ _ _ _ _ _ us hl => match us, hl with | [_, _], _ => rfl
  have F__law_pairs := fun_mk (st := s__law_pairs) l__law_pairs o__law_pairs k__law_pairs
  have B__law_pairs := F__law_pairs.binds (ps := P__law_pairs) fun _ _ _ _ _ _ us hl => match us, hl with | [_], _ => rfl
  have F__law_alike := fun_mk (st := s__law_alike) l__law_alike o__law_alike k__law_alike
  have B__law_alike := F__law_alike.binds (ps := P__law_alike) fun _ _ _ _ _ _ us hl => match us, hl with | [_, _], _ => rfl
  have F__law_there := fun_mk (st := s__law_there) l__law_there o__law_there k__law_there
  have B__law_there := F__law_there.binds (ps := P__law_there) fun _ _ _ _ _ _ us hl => match us, hl with | [_, _], _ => rfl
  have F__law_due := fun_mk (st := s__law_due) l__law_due o__law_due k__law_due
  have B__law_due := F__law_due.binds (ps := P__law_due) fun _ _ _ _ _ _ us hl => match us, hl with | [_, _, _, _], _ => rfl
  have F__law_behind := fun_mk (st := s__law_behind) l__law_behind o__law_behind k__law_behind
  have B__law_behind := F__law_behind.binds (ps := P__law_behind) fun _ _ _ _ _ _ us hl => match us, hl with | [_, _, _, _], _ => rfl
  have F__law_done := fun_mk (st := s__law_done) l__law_done o__law_done k__law_done
  have B__law_done := F__law_done.binds (ps := P__law_done) fun _ _ _ _ _ _ us hl => match us, hl with | [_, _, _, _], _ => rfl
  have F__law_tried := fun_mk (st := s__law_tried) l__law_tried o__law_tried k__law_tried
  have B__law_tried := F__law_tried.binds (ps := P__law_tried) fun _ _ _ _ _ _ us hl => match us, hl with | [_, _, _, _], _ => rfl
  have F__law_any := fun_mk (st := s__law_any) l__law_any o__law_any k__law_any
  have B__law_any := F__law_any.binds (ps := P__law_any) fun _ _ _ _ _ _ us hl => match us, hl with | [_, _, _, _], _ => rfl
  have F_law := fun_mk (st := s_law) l_law o_law k_law
  have B_law := F_law.binds (ps := P_law) fun _ _ _ _ _ _ us hl => match us, hl with | [_], _ => rfl
  exact ⟨{
    c_TillError := c_TillError,
    c_NoTill := c_NoTill,
    c_NoKind := c_NoKind,
    c_Twice := c_Twice,
    c_NoCount := c_NoCount,
    c_NoSum := c_NoSum,
    c_TooLittle := c_TooLittle,
    c_NoChange := c_NoChange,
    c_TooFew := c_TooFew,
    c_StillHeld := c_StillHeld,
    c_NoDeed := c_NoDeed,
    a_check_value := a_check_value, d_check_value := _,
    a_check_count := a_check_count, d_check_count := _,
    a_count_of := a_count_of, d_count_of := _,
    a_brought := a_brought, d_brought := _,
    a_fetched := a_fetched, d_fetched := _,
    a_kind_in := a_kind_in, d_kind_in := _,
    a_kind_out := a_kind_out, d_kind_out := _,
    a__with_count := a__with_count, d__with_count := _,
    a__law_cell_at := a__law_cell_at, d__law_cell_at := _,
    a__law_whole := a__law_whole, d__law_whole := _,
    a__law_mixed := a__law_mixed, d__law_mixed := _,
    a__law_value := a__law_value, d__law_value := _,
    a__law_count := a__law_count, d__law_count := _,
    a__law_pairs := a__law_pairs, d__law_pairs := _,
    a__law_alike := a__law_alike, d__law_alike := _,
    a__law_there := a__law_there, d__law_there := _,
    a__law_due := a__law_due, d__law_due := _,
    a__law_behind := a__law_behind, d__law_behind := _,
    a__law_done := a__law_done, d__law_done := _,
    a__law_tried := a__law_tried, d__law_tried := _,
    a__law_any := a__law_any, d__law_any := _,
    a_law := a_law, d_law := _,
    g_TillError := PySem.W.mg_of X G g_TillError, x_TillError := x_TillError, k_TillError := k_TillError, b_TillError := b_TillError, t_TillError := t_TillError, i_TillError := i_TillError,
    g_NoTill := PySem.W.mg_of X G g_NoTill, x_NoTill := x_NoTill, k_NoTill := k_NoTill, b_NoTill := b_NoTill, t_NoTill := t_NoTill, i_NoTill := i_NoTill,
    g_NoKind := PySem.W.mg_of X G g_NoKind, x_NoKind := x_NoKind, k_NoKind := k_NoKind, b_NoKind := b_NoKind, t_NoKind := t_NoKind, i_NoKind := i_NoKind,
    g_Twice := PySem.W.mg_of X G g_Twice, x_Twice := x_Twice, k_Twice := k_Twice, b_Twice := b_Twice, t_Twice := t_Twice, i_Twice := i_Twice,
    g_NoCount := PySem.W.mg_of X G g_NoCount, x_NoCount := x_NoCount, k_NoCount := k_NoCount, b_NoCount := b_NoCount, t_NoCount := t_NoCount, i_NoCount := i_NoCount,
    g_NoSum := PySem.W.mg_of X G g_NoSum, x_NoSum := x_NoSum, k_NoSum := k_NoSum, b_NoSum := b_NoSum, t_NoSum := t_NoSum, i_NoSum := i_NoSum,
    g_TooLittle := PySem.W.mg_of X G g_TooLittle, x_TooLittle := x_TooLittle, k_TooLittle := k_TooLittle, b_TooLittle := b_TooLittle, t_TooLittle := t_TooLittle, i_TooLittle := i_TooLittle,
    g_NoChange := PySem.W.mg_of X G g_NoChange, x_NoChange := x_NoChange, k_NoChange := k_NoChange, b_NoChange := b_NoChange, t_NoChange := t_NoChange, i_NoChange := i_NoChange,
    g_TooFew := PySem.W.mg_of X G g_TooFew, x_TooFew := x_TooFew, k_TooFew := k_TooFew, b_TooFew := b_TooFew, t_TooFew := t_TooFew, i_TooFew := i_TooFew,
    g_StillHeld := PySem.W.mg_of X G g_StillHeld, x_StillHeld := x_StillHeld, k_StillHeld := k_StillHeld, b_StillHeld := b_StillHeld, t_StillHeld := t_StillHeld, i_StillHeld := i_StillHeld,
    g_NoDeed := PySem.W.mg_of X G g_NoDeed, x_NoDeed := x_NoDeed, k_NoDeed := k_NoDeed, b_NoDeed := b_NoDeed, t_NoDeed := t_NoDeed, i_NoDeed := i_NoDeed,
    u_NoKind_NoKind := u_NoKind_NoKind,
    u_NoKind_NoCount := u_NoKind_NoCount,
    u_NoKind_TooFew := u_NoKind_TooFew,
    u_NoKind_Twice := u_NoKind_Twice,
    u_NoKind_NoTill := u_NoKind_NoTill,
    u_NoKind_StillHeld := u_NoKind_StillHeld,
    u_NoKind_TillError := u_NoKind_TillError,
    u_NoKind_NoChange := u_NoKind_NoChange,
    u_NoKind_NoDeed := u_NoKind_NoDeed,
    u_NoKind_NoSum := u_NoKind_NoSum,
    u_NoKind_TooLittle := u_NoKind_TooLittle,
    u_NoCount_NoKind := u_NoCount_NoKind,
    u_NoCount_NoCount := u_NoCount_NoCount,
    u_NoCount_TooFew := u_NoCount_TooFew,
    u_NoCount_Twice := u_NoCount_Twice,
    u_NoCount_NoTill := u_NoCount_NoTill,
    u_NoCount_StillHeld := u_NoCount_StillHeld,
    u_NoCount_TillError := u_NoCount_TillError,
    u_NoCount_NoChange := u_NoCount_NoChange,
    u_NoCount_NoDeed := u_NoCount_NoDeed,
    u_NoCount_NoSum := u_NoCount_NoSum,
    u_NoCount_TooLittle := u_NoCount_TooLittle,
    u_TooFew_NoKind := u_TooFew_NoKind,
    u_TooFew_NoCount := u_TooFew_NoCount,
    u_TooFew_TooFew := u_TooFew_TooFew,
    u_TooFew_Twice := u_TooFew_Twice,
    u_TooFew_NoTill := u_TooFew_NoTill,
    u_TooFew_StillHeld := u_TooFew_StillHeld,
    u_TooFew_TillError := u_TooFew_TillError,
    u_TooFew_NoChange := u_TooFew_NoChange,
    u_TooFew_NoDeed := u_TooFew_NoDeed,
    u_TooFew_NoSum := u_TooFew_NoSum,
    u_TooFew_TooLittle := u_TooFew_TooLittle,
    u_Twice_NoKind := u_Twice_NoKind,
    u_Twice_NoCount := u_Twice_NoCount,
    u_Twice_TooFew := u_Twice_TooFew,
    u_Twice_Twice := u_Twice_Twice,
    u_Twice_NoTill := u_Twice_NoTill,
    u_Twice_StillHeld := u_Twice_StillHeld,
    u_Twice_TillError := u_Twice_TillError,
    u_Twice_NoChange := u_Twice_NoChange,
    u_Twice_NoDeed := u_Twice_NoDeed,
    u_Twice_NoSum := u_Twice_NoSum,
    u_Twice_TooLittle := u_Twice_TooLittle,
    u_NoTill_NoKind := u_NoTill_NoKind,
    u_NoTill_NoCount := u_NoTill_NoCount,
    u_NoTill_TooFew := u_NoTill_TooFew,
    u_NoTill_Twice := u_NoTill_Twice,
    u_NoTill_NoTill := u_NoTill_NoTill,
    u_NoTill_StillHeld := u_NoTill_StillHeld,
    u_NoTill_TillError := u_NoTill_TillError,
    u_NoTill_NoChange := u_NoTill_NoChange,
    u_NoTill_NoDeed := u_NoTill_NoDeed,
    u_NoTill_NoSum := u_NoTill_NoSum,
    u_NoTill_TooLittle := u_NoTill_TooLittle,
    u_StillHeld_NoKind := u_StillHeld_NoKind,
    u_StillHeld_NoCount := u_StillHeld_NoCount,
    u_StillHeld_TooFew := u_StillHeld_TooFew,
    u_StillHeld_Twice := u_StillHeld_Twice,
    u_StillHeld_NoTill := u_StillHeld_NoTill,
    u_StillHeld_StillHeld := u_StillHeld_StillHeld,
    u_StillHeld_TillError := u_StillHeld_TillError,
    u_StillHeld_NoChange := u_StillHeld_NoChange,
    u_StillHeld_NoDeed := u_StillHeld_NoDeed,
    u_StillHeld_NoSum := u_StillHeld_NoSum,
    u_StillHeld_TooLittle := u_StillHeld_TooLittle,
    e_NoKind := ⟨hg_NoKind, hk_NoKind, b_NoKind, hd_NoKind, ha_NoKind, hn, ht, hm_NoKind⟩, z_NoKind := kone_ty z_NoKind, y_NoKind := (kany_f (kone_own n_NoKind_NoChange i_NoChange t_NoChange u_NoKind_NoChange) (kany_f (kone_own n_NoKind_NoDeed i_NoDeed t_NoDeed u_NoKind_NoDeed) (kany_f (kone_own n_NoKind_NoSum i_NoSum t_NoSum u_NoKind_NoSum) (kany_f (kone_own n_NoKind_TooLittle i_TooLittle t_TooLittle u_NoKind_TooLittle) kitAny_nil)))),
    e_NoCount := ⟨hg_NoCount, hk_NoCount, b_NoCount, hd_NoCount, ha_NoCount, hn, ht, hm_NoCount⟩, z_NoCount := kone_ty z_NoCount, y_NoCount := (kany_f (kone_own n_NoCount_NoChange i_NoChange t_NoChange u_NoCount_NoChange) (kany_f (kone_own n_NoCount_NoDeed i_NoDeed t_NoDeed u_NoCount_NoDeed) (kany_f (kone_own n_NoCount_NoSum i_NoSum t_NoSum u_NoCount_NoSum) (kany_f (kone_own n_NoCount_TooLittle i_TooLittle t_TooLittle u_NoCount_TooLittle) kitAny_nil)))),
    e_TooFew := ⟨hg_TooFew, hk_TooFew, b_TooFew, hd_TooFew, ha_TooFew, hn, ht, hm_TooFew⟩, z_TooFew := kone_ty z_TooFew, y_TooFew := (kany_f (kone_own n_TooFew_NoChange i_NoChange t_NoChange u_TooFew_NoChange) (kany_f (kone_own n_TooFew_NoDeed i_NoDeed t_NoDeed u_TooFew_NoDeed) (kany_f (kone_own n_TooFew_NoSum i_NoSum t_NoSum u_TooFew_NoSum) (kany_f (kone_own n_TooFew_TooLittle i_TooLittle t_TooLittle u_TooFew_TooLittle) kitAny_nil)))),
    e_Twice := ⟨hg_Twice, hk_Twice, b_Twice, hd_Twice, ha_Twice, hn, ht, hm_Twice⟩, z_Twice := kone_ty z_Twice, y_Twice := (kany_f (kone_own n_Twice_NoChange i_NoChange t_NoChange u_Twice_NoChange) (kany_f (kone_own n_Twice_NoDeed i_NoDeed t_NoDeed u_Twice_NoDeed) (kany_f (kone_own n_Twice_NoSum i_NoSum t_NoSum u_Twice_NoSum) (kany_f (kone_own n_Twice_TooLittle i_TooLittle t_TooLittle u_Twice_TooLittle) kitAny_nil)))),
    e_NoTill := ⟨hg_NoTill, hk_NoTill, b_NoTill, hd_NoTill, ha_NoTill, hn, ht, hm_NoTill⟩, z_NoTill := kone_ty z_NoTill, y_NoTill := (kany_f (kone_own n_NoTill_NoChange i_NoChange t_NoChange u_NoTill_NoChange) (kany_f (kone_own n_NoTill_NoDeed i_NoDeed t_NoDeed u_NoTill_NoDeed) (kany_f (kone_own n_NoTill_NoSum i_NoSum t_NoSum u_NoTill_NoSum) (kany_f (kone_own n_NoTill_TooLittle i_TooLittle t_TooLittle u_NoTill_TooLittle) kitAny_nil)))),
    e_StillHeld := ⟨hg_StillHeld, hk_StillHeld, b_StillHeld, hd_StillHeld, ha_StillHeld, hn, ht, hm_StillHeld⟩, z_StillHeld := kone_ty z_StillHeld, y_StillHeld := (kany_f (kone_own n_StillHeld_NoChange i_NoChange t_NoChange u_StillHeld_NoChange) (kany_f (kone_own n_StillHeld_NoDeed i_NoDeed t_NoDeed u_StillHeld_NoDeed) (kany_f (kone_own n_StillHeld_NoSum i_NoSum t_NoSum u_StillHeld_NoSum) (kany_f (kone_own n_StillHeld_TooLittle i_TooLittle t_TooLittle u_StillHeld_TooLittle) kitAny_nil)))),
    f_check_value := F_check_value, p_check_value := B_check_value, g_check_value := PySem.W.mg_of X G g_check_value,
    f_check_count := F_check_count, p_check_count := B_check_count, g_check_count := PySem.W.mg_of X G g_check_count,
    f_count_of := F_count_of, p_count_of := B_count_of, g_count_of := PySem.W.mg_of X G g_count_of,
    f_brought := F_brought, p_brought := B_brought, g_brought := PySem.W.mg_of X G g_brought,
    f_fetched := F_fetched, p_fetched := B_fetched, g_fetched := PySem.W.mg_of X G g_fetched,
    f_kind_in := F_kind_in, p_kind_in := B_kind_in, g_kind_in := PySem.W.mg_of X G g_kind_in,
    f_kind_out := F_kind_out, p_kind_out := B_kind_out, g_kind_out := PySem.W.mg_of X G g_kind_out,
    f__with_count := F__with_count, p__with_count := B__with_count, g__with_count := PySem.W.mg_of X G g__with_count,
    f__law_cell_at := F__law_cell_at, p__law_cell_at := B__law_cell_at, g__law_cell_at := PySem.W.mg_of X G g__law_cell_at,
    f__law_whole := F__law_whole, p__law_whole := B__law_whole, g__law_whole := PySem.W.mg_of X G g__law_whole,
    f__law_mixed := F__law_mixed, p__law_mixed := B__law_mixed, g__law_mixed := PySem.W.mg_of X G g__law_mixed,
    f__law_value := F__law_value, p__law_value := B__law_value, g__law_value := PySem.W.mg_of X G g__law_value,
    f__law_count := F__law_count, p__law_count := B__law_count, g__law_count := PySem.W.mg_of X G g__law_count,
    f__law_pairs := F__law_pairs, p__law_pairs := B__law_pairs, g__law_pairs := PySem.W.mg_of X G g__law_pairs,
    f__law_alike := F__law_alike, p__law_alike := B__law_alike, g__law_alike := PySem.W.mg_of X G g__law_alike,
    f__law_there := F__law_there, p__law_there := B__law_there, g__law_there := PySem.W.mg_of X G g__law_there,
    f__law_due := F__law_due, p__law_due := B__law_due, g__law_due := PySem.W.mg_of X G g__law_due,
    f__law_behind := F__law_behind, p__law_behind := B__law_behind, g__law_behind := PySem.W.mg_of X G g__law_behind,
    f__law_done := F__law_done, p__law_done := B__law_done, g__law_done := PySem.W.mg_of X G g__law_done,
    f__law_tried := F__law_tried, p__law_tried := B__law_tried, g__law_tried := PySem.W.mg_of X G g__law_tried,
    f__law_any := F__law_any, p__law_any := B__law_any, g__law_any := PySem.W.mg_of X G g__law_any,
    f_law := F_law, p_law := B_law, g_law := PySem.W.mg_of X G g_law,
    w_MOST_KINDS := ⟨_, PySem.W.mg_of X G w_MOST_KINDS⟩,
    w_MOST_VALUE := ⟨_, PySem.W.mg_of X G w_MOST_VALUE⟩,
    w_MOST_COUNT := ⟨_, PySem.W.mg_of X G w_MOST_COUNT⟩,
    m_ValueError := PySem.W.mg_none_of X G m_ValueError,
    m_bool := PySem.W.mg_none_of X G m_bool,
    m_int := PySem.W.mg_none_of X G m_int,
    m_isinstance := PySem.W.mg_none_of X G m_isinstance,
    m_len := PySem.W.mg_none_of X G m_len,
    m_list := PySem.W.mg_none_of X G m_list,
    m_max := PySem.W.mg_none_of X G m_max,
    m_range := PySem.W.mg_none_of X G m_range,
    m_sorted := PySem.W.mg_none_of X G m_sorted,
    m_tuple := PySem.W.mg_none_of X G m_tuple }, rfl, fun s v => .of_eq rfl⟩

theorem fin {l : PySem.W.OpenLaw} {w : World} {K : PySem.W.Frag} {h : Heap} {mg : Str → Option Value} {fa a_law : Addr} (X : K.In h) (G : h.Ns mainGlobals mg) (hfa : mg "law" = some (.ref fa))
    (x : ∃ T : Tx K mg, T.a_law = a_law ∧ (∀ (s : Shared) (v : Value), BindsTo s T.d_law ⟨[v], []⟩ [("_law_script", v)])) :
    ∃ fd : FuncData, (∀ (s : Shared) (v : Value), BindsTo s fd ⟨[v], []⟩ [("_law_script", v)]) ∧ ∀ base : Heap, K.In base → base.Ns mainGlobals mg → FnOk l.prog w K mg base CX0 5 fa fd ["_law_script"] (spLaw K) := by
  obtain ⟨T, _, hb⟩ := x
  have e := hfa.symm.trans T.g_law
  cases e
  exact ⟨T.d_law, hb, fun base _ _ => ok_law T⟩

end K03
open PySem PySem.W PyProof.Rows
set_option maxRecDepth 100000 in
set_option maxHeartbeats 0 in
theorem PySem.Challenge.cw_tilldrawer_k03_pieces_and_kinds_holds : PySem.Challenge.rw_tilldrawer_k03_pieces_and_kinds.Holds := by
  w_on; o_law; k_head; (case hw => w_witness2)
  k_fill
  refine L2.walk_ofK (l := PySem.Challenge.rw_tilldrawer_k03_pieces_and_kinds) (n := 63) (k := 5) (x := "_law_script") (CX := L2.CX0) (sp := K03.spLaw) rfl (by decide) rfl ⟨rfl, by decide, by decide⟩ (fun w h Y => PySem.W.kIn_of Y) ?F (fun K H a ns hl hO hS => K03.law_start hl hO hS) (fun _ _ _ _ h => h)
  case F =>
    intro w mg fa h KX G hmg
    refine' K03.fin KX G hmg (K03.tx_mk KX G ?g_TillError ?x_TillError ?k_TillError ?b_TillError ?t_TillError ?i_TillError ?g_NoTill ?x_NoTill ?k_NoTill ?b_NoTill ?t_NoTill ?i_NoTill ?g_NoKind ?x_NoKind ?k_NoKind ?b_NoKind ?t_NoKind ?i_NoKind ?g_Twice ?x_Twice ?k_Twice ?b_Twice ?t_Twice ?i_Twice ?g_NoCount ?x_NoCount ?k_NoCount ?b_NoCount ?t_NoCount ?i_NoCount ?g_NoSum ?x_NoSum ?k_NoSum ?b_NoSum ?t_NoSum ?i_NoSum ?g_TooLittle ?x_TooLittle ?k_TooLittle ?b_TooLittle ?t_TooLittle ?i_TooLittle ?g_NoChange ?x_NoChange ?k_NoChange ?b_NoChange ?t_NoChange ?i_NoChange ?g_TooFew ?x_TooFew ?k_TooFew ?b_TooFew ?t_TooFew ?i_TooFew ?g_StillHeld ?x_StillHeld ?k_StillHeld ?b_StillHeld ?t_StillHeld ?i_StillHeld ?g_NoDeed ?x_NoDeed ?k_NoDeed ?b_NoDeed ?t_NoDeed ?i_NoDeed ?u_NoKind_NoKind ?u_NoKind_NoCount ?u_NoKind_TooFew ?u_NoKind_Twice ?u_NoKind_NoTill ?u_NoKind_StillHeld ?u_NoKind_TillError ?u_NoKind_NoChange ?u_NoKind_NoDeed ?u_NoKind_NoSum ?u_NoKind_TooLittle ?u_NoCount_NoKind ?u_NoCount_NoCount ?u_NoCount_TooFew ?u_NoCount_Twice ?u_NoCount_NoTill ?u_NoCount_StillHeld ?u_NoCount_TillError ?u_NoCount_NoChange ?u_NoCount_NoDeed ?u_NoCount_NoSum ?u_NoCount_TooLittle ?u_TooFew_NoKind ?u_TooFew_NoCount ?u_TooFew_TooFew ?u_TooFew_Twice ?u_TooFew_NoTill ?u_TooFew_StillHeld ?u_TooFew_TillError ?u_TooFew_NoChange ?u_TooFew_NoDeed ?u_TooFew_NoSum ?u_TooFew_TooLittle ?u_Twice_NoKind ?u_Twice_NoCount ?u_Twice_TooFew ?u_Twice_Twice ?u_Twice_NoTill ?u_Twice_StillHeld ?u_Twice_TillError ?u_Twice_NoChange ?u_Twice_NoDeed ?u_Twice_NoSum ?u_Twice_TooLittle ?u_NoTill_NoKind ?u_NoTill_NoCount ?u_NoTill_TooFew ?u_NoTill_Twice ?u_NoTill_NoTill ?u_NoTill_StillHeld ?u_NoTill_TillError ?u_NoTill_NoChange ?u_NoTill_NoDeed ?u_NoTill_NoSum ?u_NoTill_TooLittle ?u_StillHeld_NoKind ?u_StillHeld_NoCount ?u_StillHeld_TooFew ?u_StillHeld_Twice ?u_StillHeld_NoTill ?u_StillHeld_StillHeld ?u_StillHeld_TillError ?u_StillHeld_NoChange ?u_StillHeld_NoDeed ?u_StillHeld_NoSum ?u_StillHeld_TooLittle ?hg_NoKind ?hk_NoKind ?hd_NoKind ?ha_NoKind ?hm_NoKind ?z_NoKind ?n_NoKind_NoChange ?n_NoKind_NoDeed ?n_NoKind_NoSum ?n_NoKind_TooLittle ?hg_NoCount ?hk_NoCount ?hd_NoCount ?ha_NoCount ?hm_NoCount ?z_NoCount ?n_NoCount_NoChange ?n_NoCount_NoDeed ?n_NoCount_NoSum ?n_NoCount_TooLittle ?hg_TooFew ?hk_TooFew ?hd_TooFew ?ha_TooFew ?hm_TooFew ?z_TooFew ?n_TooFew_NoChange ?n_TooFew_NoDeed ?n_TooFew_NoSum ?n_TooFew_TooLittle ?hg_Twice ?hk_Twice ?hd_Twice ?ha_Twice ?hm_Twice ?z_Twice ?n_Twice_NoChange ?n_Twice_NoDeed ?n_Twice_NoSum ?n_Twice_TooLittle ?hg_NoTill ?hk_NoTill ?hd_NoTill ?ha_NoTill ?hm_NoTill ?z_NoTill ?n_NoTill_NoChange ?n_NoTill_NoDeed ?n_NoTill_NoSum ?n_NoTill_TooLittle ?hg_StillHeld ?hk_StillHeld ?hd_StillHeld ?ha_StillHeld ?hm_StillHeld ?z_StillHeld ?n_StillHeld_NoChange ?n_StillHeld_NoDeed ?n_StillHeld_NoSum ?n_StillHeld_TooLittle ?hn ?ht ?g_check_value ?l_check_value ?o_check_value ?k_check_value ?g_check_count ?l_check_count ?o_check_count ?k_check_count ?g_count_of ?l_count_of ?o_count_of ?k_count_of ?g_brought ?l_brought ?o_brought ?k_brought ?g_fetched ?l_fetched ?o_fetched ?k_fetched ?g_kind_in ?l_kind_in ?o_kind_in ?k_kind_in ?g_kind_out ?l_kind_out ?o_kind_out ?k_kind_out ?g__with_count ?l__with_count ?o__with_count ?k__with_count ?g__law_cell_at ?l__law_cell_at ?o__law_cell_at ?k__law_cell_at ?g__law_whole ?l__law_whole ?o__law_whole ?k__law_whole ?g__law_mixed ?l__law_mixed ?o__law_mixed ?k__law_mixed ?g__law_value ?l__law_value ?o__law_value ?k__law_value ?g__law_count ?l__law_count ?o__law_count ?k__law_count ?g__law_pairs ?l__law_pairs ?o__law_pairs ?k__law_pairs ?g__law_alike ?l__law_alike ?o__law_alike ?k__law_alike ?g__law_there ?l__law_there ?o__law_there ?k__law_there ?g__law_due ?l__law_due ?o__law_due ?k__law_due ?g__law_behind ?l__law_behind ?o__law_behind ?k__law_behind ?g__law_done ?l__law_done ?o__law_done ?k__law_done ?g__law_tried ?l__law_tried ?o__law_tried ?k__law_tried ?g__law_any ?l__law_any ?o__law_any ?k__law_any ?g_law ?l_law ?o_law ?k_law ?w_MOST_KINDS ?w_MOST_VALUE ?w_MOST_COUNT ?m_ValueError ?m_bool ?m_int ?m_isinstance ?m_len ?m_list ?m_max ?m_range ?m_sorted ?m_tuple)
    (case g_TillError => k_is)
    (case x_TillError => k_exc)
    (case k_TillError => k_is)
    (case b_TillError => k_is)
    (case t_TillError => k_is)
    (case i_TillError => k_is)
    (case g_NoTill => k_is)
    (case x_NoTill => k_exc)
    (case k_NoTill => k_is)
    (case b_NoTill => k_is)
    (case t_NoTill => k_is)
    (case i_NoTill => k_is)
    (case g_NoKind => k_is)
    (case x_NoKind => k_exc)
    (case k_NoKind => k_is)
    (case b_NoKind => k_is)
    (case t_NoKind => k_is)
    (case i_NoKind => k_is)
    (case g_Twice => k_is)
    (case x_Twice => k_exc)
    (case k_Twice => k_is)
    (case b_Twice => k_is)
    (case t_Twice => k_is)
    (case i_Twice => k_is)
    (case g_NoCount => k_is)
    (case x_NoCount => k_exc)
    (case k_NoCount => k_is)
    (case b_NoCount => k_is)
    (case t_NoCount => k_is)
    (case i_NoCount => k_is)
    (case g_NoSum => k_is)
    (case x_NoSum => k_exc)
    (case k_NoSum => k_is)
    (case b_NoSum => k_is)
    (case t_NoSum => k_is)
    (case i_NoSum => k_is)
    (case g_TooLittle => k_is)
    (case x_TooLittle => k_exc)
    (case k_TooLittle => k_is)
    (case b_TooLittle => k_is)
    (case t_TooLittle => k_is)
    (case i_TooLittle => k_is)
    (case g_NoChange => k_is)
    (case x_NoChange => k_exc)
    (case k_NoChange => k_is)
    (case b_NoChange => k_is)
    (case t_NoChange => k_is)
    (case i_NoChange => k_is)
    (case g_TooFew => k_is)
    (case x_TooFew => k_exc)
    (case k_TooFew => k_is)
    (case b_TooFew => k_is)
    (case t_TooFew => k_is)
    (case i_TooFew => k_is)
    (case g_StillHeld => k_is)
    (case x_StillHeld => k_exc)
    (case k_StillHeld => k_is)
    (case b_StillHeld => k_is)
    (case t_StillHeld => k_is)
    (case i_StillHeld => k_is)
    (case g_NoDeed => k_is)
    (case x_NoDeed => k_exc)
    (case k_NoDeed => k_is)
    (case b_NoDeed => k_is)
    (case t_NoDeed => k_is)
    (case i_NoDeed => k_is)
    (case u_NoKind_NoKind => first | rfl | k_is)
    (case u_NoKind_NoCount => first | rfl | k_is)
    (case u_NoKind_TooFew => first | rfl | k_is)
    (case u_NoKind_Twice => first | rfl | k_is)
    (case u_NoKind_NoTill => first | rfl | k_is)
    (case u_NoKind_StillHeld => first | rfl | k_is)
    (case u_NoKind_TillError => first | rfl | k_is)
    (case u_NoKind_NoChange => first | rfl | k_is)
    (case u_NoKind_NoDeed => first | rfl | k_is)
    (case u_NoKind_NoSum => first | rfl | k_is)
    (case u_NoKind_TooLittle => first | rfl | k_is)
    (case u_NoCount_NoKind => first | rfl | k_is)
    (case u_NoCount_NoCount => first | rfl | k_is)
    (case u_NoCount_TooFew => first | rfl | k_is)
    (case u_NoCount_Twice => first | rfl | k_is)
    (case u_NoCount_NoTill => first | rfl | k_is)
    (case u_NoCount_StillHeld => first | rfl | k_is)
    (case u_NoCount_TillError => first | rfl | k_is)
    (case u_NoCount_NoChange => first | rfl | k_is)
    (case u_NoCount_NoDeed => first | rfl | k_is)
    (case u_NoCount_NoSum => first | rfl | k_is)
    (case u_NoCount_TooLittle => first | rfl | k_is)
    (case u_TooFew_NoKind => first | rfl | k_is)
    (case u_TooFew_NoCount => first | rfl | k_is)
    (case u_TooFew_TooFew => first | rfl | k_is)
    (case u_TooFew_Twice => first | rfl | k_is)
    (case u_TooFew_NoTill => first | rfl | k_is)
    (case u_TooFew_StillHeld => first | rfl | k_is)
    (case u_TooFew_TillError => first | rfl | k_is)
    (case u_TooFew_NoChange => first | rfl | k_is)
    (case u_TooFew_NoDeed => first | rfl | k_is)
    (case u_TooFew_NoSum => first | rfl | k_is)
    (case u_TooFew_TooLittle => first | rfl | k_is)
    (case u_Twice_NoKind => first | rfl | k_is)
    (case u_Twice_NoCount => first | rfl | k_is)
    (case u_Twice_TooFew => first | rfl | k_is)
    (case u_Twice_Twice => first | rfl | k_is)
    (case u_Twice_NoTill => first | rfl | k_is)
    (case u_Twice_StillHeld => first | rfl | k_is)
    (case u_Twice_TillError => first | rfl | k_is)
    (case u_Twice_NoChange => first | rfl | k_is)
    (case u_Twice_NoDeed => first | rfl | k_is)
    (case u_Twice_NoSum => first | rfl | k_is)
    (case u_Twice_TooLittle => first | rfl | k_is)
    (case u_NoTill_NoKind => first | rfl | k_is)
    (case u_NoTill_NoCount => first | rfl | k_is)
    (case u_NoTill_TooFew => first | rfl | k_is)
    (case u_NoTill_Twice => first | rfl | k_is)
    (case u_NoTill_NoTill => first | rfl | k_is)
    (case u_NoTill_StillHeld => first | rfl | k_is)
    (case u_NoTill_TillError => first | rfl | k_is)
    (case u_NoTill_NoChange => first | rfl | k_is)
    (case u_NoTill_NoDeed => first | rfl | k_is)
    (case u_NoTill_NoSum => first | rfl | k_is)
    (case u_NoTill_TooLittle => first | rfl | k_is)
    (case u_StillHeld_NoKind => first | rfl | k_is)
    (case u_StillHeld_NoCount => first | rfl | k_is)
    (case u_StillHeld_TooFew => first | rfl | k_is)
    (case u_StillHeld_Twice => first | rfl | k_is)
    (case u_StillHeld_NoTill => first | rfl | k_is)
    (case u_StillHeld_StillHeld => first | rfl | k_is)
    (case u_StillHeld_TillError => first | rfl | k_is)
    (case u_StillHeld_NoChange => first | rfl | k_is)
    (case u_StillHeld_NoDeed => first | rfl | k_is)
    (case u_StillHeld_NoSum => first | rfl | k_is)
    (case u_StillHeld_TooLittle => first | rfl | k_is)
    (case hg_NoKind => k_is)
    (case hk_NoKind => k_is)
    (case hd_NoKind => k_is)
    (case ha_NoKind => k_is)
    (case hm_NoKind => k_is)
    (case z_NoKind => k_is)
    (case n_NoKind_NoChange => decide)
    (case n_NoKind_NoDeed => decide)
    (case n_NoKind_NoSum => decide)
    (case n_NoKind_TooLittle => decide)
    (case hg_NoCount => k_is)
    (case hk_NoCount => k_is)
    (case hd_NoCount => k_is)
    (case ha_NoCount => k_is)
    (case hm_NoCount => k_is)
    (case z_NoCount => k_is)
    (case n_NoCount_NoChange => decide)
    (case n_NoCount_NoDeed => decide)
    (case n_NoCount_NoSum => decide)
    (case n_NoCount_TooLittle => decide)
    (case hg_TooFew => k_is)
    (case hk_TooFew => k_is)
    (case hd_TooFew => k_is)
    (case ha_TooFew => k_is)
    (case hm_TooFew => k_is)
    (case z_TooFew => k_is)
    (case n_TooFew_NoChange => decide)
    (case n_TooFew_NoDeed => decide)
    (case n_TooFew_NoSum => decide)
    (case n_TooFew_TooLittle => decide)
    (case hg_Twice => k_is)
    (case hk_Twice => k_is)
    (case hd_Twice => k_is)
    (case ha_Twice => k_is)
    (case hm_Twice => k_is)
    (case z_Twice => k_is)
    (case n_Twice_NoChange => decide)
    (case n_Twice_NoDeed => decide)
    (case n_Twice_NoSum => decide)
    (case n_Twice_TooLittle => decide)
    (case hg_NoTill => k_is)
    (case hk_NoTill => k_is)
    (case hd_NoTill => k_is)
    (case ha_NoTill => k_is)
    (case hm_NoTill => k_is)
    (case z_NoTill => k_is)
    (case n_NoTill_NoChange => decide)
    (case n_NoTill_NoDeed => decide)
    (case n_NoTill_NoSum => decide)
    (case n_NoTill_TooLittle => decide)
    (case hg_StillHeld => k_is)
    (case hk_StillHeld => k_is)
    (case hd_StillHeld => k_is)
    (case ha_StillHeld => k_is)
    (case hm_StillHeld => k_is)
    (case z_StillHeld => k_is)
    (case n_StillHeld_NoChange => decide)
    (case n_StillHeld_NoDeed => decide)
    (case n_StillHeld_NoSum => decide)
    (case n_StillHeld_TooLittle => decide)
    (case hn => k_is)
    (case ht => k_is)
    (case g_check_value => k_is)
    (case l_check_value => k_is)
    (case o_check_value => k_is)
    (case k_check_value => k_is)
    (case g_check_count => k_is)
    (case l_check_count => k_is)
    (case o_check_count => k_is)
    (case k_check_count => k_is)
    (case g_count_of => k_is)
    (case l_count_of => k_is)
    (case o_count_of => k_is)
    (case k_count_of => k_is)
    (case g_brought => k_is)
    (case l_brought => k_is)
    (case o_brought => k_is)
    (case k_brought => k_is)
    (case g_fetched => k_is)
    (case l_fetched => k_is)
    (case o_fetched => k_is)
    (case k_fetched => k_is)
    (case g_kind_in => k_is)
    (case l_kind_in => k_is)
    (case o_kind_in => k_is)
    (case k_kind_in => k_is)
    (case g_kind_out => k_is)
    (case l_kind_out => k_is)
    (case o_kind_out => k_is)
    (case k_kind_out => k_is)
    (case g__with_count => k_is)
    (case l__with_count => k_is)
    (case o__with_count => k_is)
    (case k__with_count => k_is)
    (case g__law_cell_at => k_is)
    (case l__law_cell_at => k_is)
    (case o__law_cell_at => k_is)
    (case k__law_cell_at => k_is)
    (case g__law_whole => k_is)
    (case l__law_whole => k_is)
    (case o__law_whole => k_is)
    (case k__law_whole => k_is)
    (case g__law_mixed => k_is)
    (case l__law_mixed => k_is)
    (case o__law_mixed => k_is)
    (case k__law_mixed => k_is)
    (case g__law_value => k_is)
    (case l__law_value => k_is)
    (case o__law_value => k_is)
    (case k__law_value => k_is)
    (case g__law_count => k_is)
    (case l__law_count => k_is)
    (case o__law_count => k_is)
    (case k__law_count => k_is)
    (case g__law_pairs => k_is)
    (case l__law_pairs => k_is)
    (case o__law_pairs => k_is)
    (case k__law_pairs => k_is)
    (case g__law_alike => k_is)
    (case l__law_alike => k_is)
    (case o__law_alike => k_is)
    (case k__law_alike => k_is)
    (case g__law_there => k_is)
    (case l__law_there => k_is)
    (case o__law_there => k_is)
    (case k__law_there => k_is)
    (case g__law_due => k_is)
    (case l__law_due => k_is)
    (case o__law_due => k_is)
    (case k__law_due => k_is)
    (case g__law_behind => k_is)
    (case l__law_behind => k_is)
    (case o__law_behind => k_is)
    (case k__law_behind => k_is)
    (case g__law_done => k_is)
    (case l__law_done => k_is)
    (case o__law_done => k_is)
    (case k__law_done => k_is)
    (case g__law_tried => k_is)
    (case l__law_tried => k_is)
    (case o__law_tried => k_is)
    (case k__law_tried => k_is)
    (case g__law_any => k_is)
    (case l__law_any => k_is)
    (case o__law_any => k_is)
    (case k__law_any => k_is)
    (case g_law => k_is)
    (case l_law => k_is)
    (case o_law => k_is)
    (case k_law => k_is)
    (case w_MOST_KINDS => k_is)
    (case w_MOST_VALUE => k_is)
    (case w_MOST_COUNT => k_is)
    (case m_ValueError => k_is)
    (case m_bool => k_is)
    (case m_int => k_is)
    (case m_isinstance => k_is)
    (case m_len => k_is)
    (case m_list => k_is)
    (case m_max => k_is)
    (case m_range => k_is)
    (case m_sorted => k_is)
    (case m_tuple => k_is)

