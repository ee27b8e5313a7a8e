import PyProof.Rows.All
import Wide.All
import OpenK.AllK
import Wide.FinOn
import PyProof.EqAt
import PyProof.EqKinds
import PyProof.TupleCall
import HandS.ForMost
import HandS.ForExc
import HandS.TryMany
import HandS.Sort
import HandS.SortRule
import HandS.IsInst
import HandS.ExcIs
import HandS.Evl
import HandS.Walk
import HandS.Strs
import HandS.SetFor
import HandS.RevRange
import HandS.Conv
import HandS.Style
import HandS.Zip
import PySem.Challenge.RW_tilldrawer_k04_whole_table
set_option Elab.async false
set_option linter.all false
set_option maxRecDepth 100000
set_option maxHeartbeats 4000000
namespace K04
open PySem PySem.Spec PyProof.Rows L2
def topS (i : Nat) : Stmt := PySem.Challenge.pw_tilldrawer_k04_whole_table.main.body.getD i (.Pass ⟨0, 0, 0, 0⟩)
abbrev s_check_sum : Stmt := topS 14
abbrev N_check_sum : List Str := ["due"]
abbrev P_check_sum : List Str := ["due"]
theorem sc_check_sum : FnScope N_check_sum P_check_sum (defScope s_check_sum) := ⟨rfl, rfl, rfl, by decide +kernel, rfl, by decide +kernel, by decide +kernel⟩
abbrev s_table : Stmt := topS 15
abbrev N_table : List Str := ["till", "most", "row", "rows", "value", "count"]
abbrev P_table : List Str := ["till", "most"]
theorem sc_table : FnScope N_table P_table (defScope s_table) := ⟨rfl, rfl, rfl, by decide +kernel, rfl, by decide +kernel, by decide +kernel⟩
abbrev s_with_kind : Stmt := topS 16
abbrev N_with_kind : List Str := ["row", "value", "count", "out", "usable", "size"]
abbrev P_with_kind : List Str := ["row", "value", "count"]
theorem sc_with_kind : FnScope N_with_kind P_with_kind (defScope s_with_kind) := ⟨rfl, rfl, rfl, by decide +kernel, rfl, by decide +kernel, by decide +kernel⟩
abbrev s__bundles : Stmt := topS 17
abbrev N__bundles : List Str := ["count", "sizes", "size", "taken"]
abbrev P__bundles : List Str := ["count"]
theorem sc__bundles : FnScope N__bundles P__bundles (defScope s__bundles) := ⟨rfl, rfl, rfl, by decide +kernel, rfl, by decide +kernel, by decide +kernel⟩
abbrev s__with_bundle : Stmt := topS 18
abbrev N__with_bundle : List Str := ["row", "value", "size", "out", "due", "rest"]
abbrev P__with_bundle : List Str := ["row", "value", "size"]
theorem sc__with_bundle : FnScope N__with_bundle P__with_bundle (defScope s__with_bundle) := ⟨rfl, rfl, rfl, by decide +kernel, rfl, by decide +kernel, by decide +kernel⟩
abbrev s__law_cell_at : Stmt := topS 20
abbrev N__law_cell_at : List Str := ["_law_script", "_law_k"]
abbrev P__law_cell_at : List Str := ["_law_script", "_law_k"]
theorem sc__law_cell_at : FnScope N__law_cell_at P__law_cell_at (defScope s__law_cell_at) := ⟨rfl, rfl, rfl, by decide +kernel, rfl, by decide +kernel, by decide +kernel⟩
abbrev s__law_whole : Stmt := topS 21
abbrev N__law_whole : List Str := ["_law_found"]
abbrev P__law_whole : List Str := ["_law_found"]
theorem sc__law_whole : FnScope N__law_whole P__law_whole (defScope s__law_whole) := ⟨rfl, rfl, rfl, by decide +kernel, rfl, by decide +kernel, by decide +kernel⟩
abbrev s__law_mixed : Stmt := topS 22
abbrev N__law_mixed : List Str := ["_law_cell", "_law_k"]
abbrev P__law_mixed : List Str := ["_law_cell", "_law_k"]
theorem sc__law_mixed : FnScope N__law_mixed P__law_mixed (defScope s__law_mixed) := ⟨rfl, rfl, rfl, by decide +kernel, rfl, by decide +kernel, by decide +kernel⟩
abbrev s__law_value : Stmt := topS 23
abbrev N__law_value : List Str := ["_law_cell", "_law_k", "_law_drawn"]
abbrev P__law_value : List Str := ["_law_cell", "_law_k"]
theorem sc__law_value : FnScope N__law_value P__law_value (defScope s__law_value) := ⟨rfl, rfl, rfl, by decide +kernel, rfl, by decide +kernel, by decide +kernel⟩
abbrev s__law_count : Stmt := topS 24
abbrev N__law_count : List Str := ["_law_cell", "_law_k", "_law_drawn"]
abbrev P__law_count : List Str := ["_law_cell", "_law_k"]
theorem sc__law_count : FnScope N__law_count P__law_count (defScope s__law_count) := ⟨rfl, rfl, rfl, by decide +kernel, rfl, by decide +kernel, by decide +kernel⟩
abbrev s__law_pairs : Stmt := topS 25
abbrev N__law_pairs : List Str := ["_law_script", "_law_cell", "_law_many", "_law_found", "_law_seen", "_law_k", "_law_value_here"]
abbrev P__law_pairs : List Str := ["_law_script"]
theorem sc__law_pairs : FnScope N__law_pairs P__law_pairs (defScope s__law_pairs) := ⟨rfl, rfl, rfl, by decide +kernel, rfl, by decide +kernel, by decide +kernel⟩
abbrev s__law_least : Stmt := topS 26
abbrev N__law_least : List Str := ["_law_ahead", "_law_at", "_law_value_here", "_law_count_here", "_law_found", "_law_many", "_law_few"]
abbrev P__law_least : List Str := ["_law_ahead", "_law_at", "_law_value_here", "_law_count_here"]
theorem sc__law_least : FnScope N__law_least P__law_least (defScope s__law_least) := ⟨rfl, rfl, rfl, by decide +kernel, rfl, by decide +kernel, by decide +kernel⟩
abbrev s__law_row : Stmt := topS 27
abbrev N__law_row : List Str := ["_law_row_here", "_law_size", "_law_few"]
abbrev P__law_row : List Str := ["_law_row_here", "_law_size"]
theorem sc__law_row : FnScope N__law_row P__law_row (defScope s__law_row) := ⟨rfl, rfl, rfl, by decide +kernel, rfl, by decide +kernel, by decide +kernel⟩
abbrev s__law_walked : Stmt := topS 28
abbrev N__law_walked : List Str := ["_law_rows", "_law_till", "_law_most_here", "_law_k", "_law_at"]
abbrev P__law_walked : List Str := ["_law_rows", "_law_till", "_law_most_here"]
theorem sc__law_walked : FnScope N__law_walked P__law_walked (defScope s__law_walked) := ⟨rfl, rfl, rfl, by decide +kernel, rfl, by decide +kernel, by decide +kernel⟩
abbrev s__law_most : Stmt := topS 29
abbrev N__law_most : List Str := ["_law_cell", "_law_many"]
abbrev P__law_most : List Str := ["_law_cell", "_law_many"]
theorem sc__law_most : FnScope N__law_most P__law_most (defScope s__law_most) := ⟨rfl, rfl, rfl, by decide +kernel, rfl, by decide +kernel, by decide +kernel⟩
abbrev s__law_refused : Stmt := topS 30
abbrev N__law_refused : List Str := ["_law_till", "_law_most_here"]
abbrev P__law_refused : List Str := ["_law_till", "_law_most_here"]
theorem sc__law_refused : FnScope N__law_refused P__law_refused (defScope s__law_refused) := ⟨rfl, rfl, rfl, by decide +kernel, rfl, by decide +kernel, by decide +kernel⟩
abbrev s__law_any : Stmt := topS 31
abbrev N__law_any : List Str := ["_law_till", "_law_most_here", "e"]
abbrev P__law_any : List Str := ["_law_till", "_law_most_here"]
theorem sc__law_any : FnScope N__law_any P__law_any (defScope s__law_any) := ⟨rfl, rfl, rfl, by decide +kernel, rfl, by decide +kernel, by decide +kernel⟩
abbrev s__law_within : Stmt := topS 32
abbrev N__law_within : List Str := ["_law_till", "_law_most_here", "_law_pair"]
abbrev P__law_within : List Str := ["_law_till", "_law_most_here"]
theorem sc__law_within : FnScope N__law_within P__law_within (defScope s__law_within) := ⟨rfl, rfl, rfl, by decide +kernel, rfl, by decide +kernel, by decide +kernel⟩
abbrev s_law : Stmt := topS 33
abbrev N_law : List Str := ["_law_script", "_law_till", "_law_handed", "_law_cell", "_law_most_here", "_law_rows", "_law_kept", "_law_at", "_law_k", "_law_row_here"]
abbrev P_law : List Str := ["_law_script"]
theorem sc_law : FnScope N_law P_law (defScope s_law) := ⟨rfl, rfl, rfl, by decide +kernel, rfl, by decide +kernel, by decide +kernel⟩
/-- what the top has written -/
structure Tx (K : PySem.W.Frag) (mg : Str → Option Value) : Type where
  c_TillError : Addr
  c_NoTill : Addr
  c_NoKind : Addr
  c_Twice : Addr
  c_NoCount : Addr
  c_NoSum : Addr
  c_TooLittle : Addr
  c_NoChange : Addr
  c_TooFew : Addr
  c_StillHeld : Addr
  c_NoDeed : Addr
  a_check_sum : Addr
  d_check_sum : FuncData
  a_table : Addr
  d_table : FuncData
  a_with_kind : Addr
  d_with_kind : FuncData
  a__bundles : Addr
  d__bundles : FuncData
  a__with_bundle : Addr
  d__with_bundle : FuncData
  a__law_cell_at : Addr
  d__law_cell_at : FuncData
  a__law_whole : Addr
  d__law_whole : FuncData
  a__law_mixed : Addr
  d__law_mixed : FuncData
  a__law_value : Addr
  d__law_value : FuncData
  a__law_count : Addr
  d__law_count : FuncData
  a__law_pairs : Addr
  d__law_pairs : FuncData
  a__law_least : Addr
  d__law_least : FuncData
  a__law_row : Addr
  d__law_row : FuncData
  a__law_walked : Addr
  d__law_walked : FuncData
  a__law_most : Addr
  d__law_most : FuncData
  a__law_refused : Addr
  d__law_refused : FuncData
  a__law_any : Addr
  d__law_any : FuncData
  a__law_within : Addr
  d__law_within : FuncData
  a_law : Addr
  d_law : FuncData
  g_TillError : mg "TillError" = some (.ref c_TillError)
  x_TillError : PySem.W.excIn K c_TillError [.type "ValueError", .type "Exception", .type "BaseException", .type "object"] "ValueError.__new__" = true
  k_TillError : PySem.W.keepIn K (.ref c_TillError) = true
  b_TillError : PySem.W.subIn K (.ref c_TillError) (.type "BaseException") = some true
  t_TillError : PySem.W.typeIn K (.ref c_TillError) = some (.type "type")
  i_TillError : PySem.W.isClsIn K c_TillError = true
  g_NoTill : mg "NoTill" = some (.ref c_NoTill)
  x_NoTill : PySem.W.excIn K c_NoTill [.type "ValueError", .type "Exception", .type "BaseException", .type "object"] "ValueError.__new__" = true
  k_NoTill : PySem.W.keepIn K (.ref c_NoTill) = true
  b_NoTill : PySem.W.subIn K (.ref c_NoTill) (.type "BaseException") = some true
  t_NoTill : PySem.W.typeIn K (.ref c_NoTill) = some (.type "type")
  i_NoTill : PySem.W.isClsIn K c_NoTill = true
  g_NoKind : mg "NoKind" = some (.ref c_NoKind)
  x_NoKind : PySem.W.excIn K c_NoKind [.type "ValueError", .type "Exception", .type "BaseException", .type "object"] "ValueError.__new__" = true
  k_NoKind : PySem.W.keepIn K (.ref c_NoKind) = true
  b_NoKind : PySem.W.subIn K (.ref c_NoKind) (.type "BaseException") = some true
  t_NoKind : PySem.W.typeIn K (.ref c_NoKind) = some (.type "type")
  i_NoKind : PySem.W.isClsIn K c_NoKind = true
  g_Twice : mg "Twice" = some (.ref c_Twice)
  x_Twice : PySem.W.excIn K c_Twice [.type "ValueError", .type "Exception", .type "BaseException", .type "object"] "ValueError.__new__" = true
  k_Twice : PySem.W.keepIn K (.ref c_Twice) = true
  b_Twice : PySem.W.subIn K (.ref c_Twice) (.type "BaseException") = some true
  t_Twice : PySem.W.typeIn K (.ref c_Twice) = some (.type "type")
  i_Twice : PySem.W.isClsIn K c_Twice = true
  g_NoCount : mg "NoCount" = some (.ref c_NoCount)
  x_NoCount : PySem.W.excIn K c_NoCount [.type "ValueError", .type "Exception", .type "BaseException", .type "object"] "ValueError.__new__" = true
  k_NoCount : PySem.W.keepIn K (.ref c_NoCount) = true
  b_NoCount : PySem.W.subIn K (.ref c_NoCount) (.type "BaseException") = some true
  t_NoCount : PySem.W.typeIn K (.ref c_NoCount) = some (.type "type")
  i_NoCount : PySem.W.isClsIn K c_NoCount = true
  g_NoSum : mg "NoSum" = some (.ref c_NoSum)
  x_NoSum : PySem.W.excIn K c_NoSum [.type "ValueError", .type "Exception", .type "BaseException", .type "object"] "ValueError.__new__" = true
  k_NoSum : PySem.W.keepIn K (.ref c_NoSum) = true
  b_NoSum : PySem.W.subIn K (.ref c_NoSum) (.type "BaseException") = some true
  t_NoSum : PySem.W.typeIn K (.ref c_NoSum) = some (.type "type")
  i_NoSum : PySem.W.isClsIn K c_NoSum = true
  g_TooLittle : mg "TooLittle" = some (.ref c_TooLittle)
  x_TooLittle : PySem.W.excIn K c_TooLittle [.type "ValueError", .type "Exception", .type "BaseException", .type "object"] "ValueError.__new__" = true
  k_TooLittle : PySem.W.keepIn K (.ref c_TooLittle) = true
  b_TooLittle : PySem.W.subIn K (.ref c_TooLittle) (.type "BaseException") = some true
  t_TooLittle : PySem.W.typeIn K (.ref c_TooLittle) = some (.type "type")
  i_TooLittle : PySem.W.isClsIn K c_TooLittle = true
  g_NoChange : mg "NoChange" = some (.ref c_NoChange)
  x_NoChange : PySem.W.excIn K c_NoChange [.type "ValueError", .type "Exception", .type "BaseException", .type "object"] "ValueError.__new__" = true
  k_NoChange : PySem.W.keepIn K (.ref c_NoChange) = true
  b_NoChange : PySem.W.subIn K (.ref c_NoChange) (.type "BaseException") = some true
  t_NoChange : PySem.W.typeIn K (.ref c_NoChange) = some (.type "type")
  i_NoChange : PySem.W.isClsIn K c_NoChange = true
  g_TooFew : mg "TooFew" = some (.ref c_TooFew)
  x_TooFew : PySem.W.excIn K c_TooFew [.type "ValueError", .type "Exception", .type "BaseException", .type "object"] "ValueError.__new__" = true
  k_TooFew : PySem.W.keepIn K (.ref c_TooFew) = true
  b_TooFew : PySem.W.subIn K (.ref c_TooFew) (.type "BaseException") = some true
  t_TooFew : PySem.W.typeIn K (.ref c_TooFew) = some (.type "type")
  i_TooFew : PySem.W.isClsIn K c_TooFew = true
  g_StillHeld : mg "StillHeld" = some (.ref c_StillHeld)
  x_StillHeld : PySem.W.excIn K c_StillHeld [.type "ValueError", .type "Exception", .type "BaseException", .type "object"] "ValueError.__new__" = true
  k_StillHeld : PySem.W.keepIn K (.ref c_StillHeld) = true
  b_StillHeld : PySem.W.subIn K (.ref c_StillHeld) (.type "BaseException") = some true
  t_StillHeld : PySem.W.typeIn K (.ref c_StillHeld) = some (.type "type")
  i_StillHeld : PySem.W.isClsIn K c_StillHeld = true
  g_NoDeed : mg "NoDeed" = some (.ref c_NoDeed)
  x_NoDeed : PySem.W.excIn K c_NoDeed [.type "ValueError", .type "Exception", .type "BaseException", .type "object"] "ValueError.__new__" = true
  k_NoDeed : PySem.W.keepIn K (.ref c_NoDeed) = true
  b_NoDeed : PySem.W.subIn K (.ref c_NoDeed) (.type "BaseException") = some true
  t_NoDeed : PySem.W.typeIn K (.ref c_NoDeed) = some (.type "type")
  i_NoDeed : PySem.W.isClsIn K c_NoDeed = true
  u_NoSum_NoSum : PySem.W.subIn K (.ref c_NoSum) (.ref c_NoSum) = some true
  u_NoSum_TillError : PySem.W.subIn K (.ref c_NoSum) (.ref c_TillError) = some true
  u_NoSum_NoChange : PySem.W.subIn K (.ref c_NoSum) (.ref c_NoChange) = some false
  u_NoSum_NoCount : PySem.W.subIn K (.ref c_NoSum) (.ref c_NoCount) = some false
  u_NoSum_NoDeed : PySem.W.subIn K (.ref c_NoSum) (.ref c_NoDeed) = some false
  u_NoSum_NoKind : PySem.W.subIn K (.ref c_NoSum) (.ref c_NoKind) = some false
  u_NoSum_NoTill : PySem.W.subIn K (.ref c_NoSum) (.ref c_NoTill) = some false
  u_NoSum_StillHeld : PySem.W.subIn K (.ref c_NoSum) (.ref c_StillHeld) = some false
  u_NoSum_TooFew : PySem.W.subIn K (.ref c_NoSum) (.ref c_TooFew) = some false
  u_NoSum_TooLittle : PySem.W.subIn K (.ref c_NoSum) (.ref c_TooLittle) = some false
  u_NoSum_Twice : PySem.W.subIn K (.ref c_NoSum) (.ref c_Twice) = some false
  e_NoSum : ExcC K c_NoSum
  z_NoSum : PySem.W.kitOne K (.ref c_NoSum) (.type "ValueError") = some true
  y_NoSum : PySem.W.kitAny K (.ref c_NoSum) [.ref c_NoChange, .ref c_NoCount, .ref c_NoDeed, .ref c_NoKind, .ref c_NoTill, .ref c_StillHeld, .ref c_TooFew, .ref c_TooLittle, .ref c_Twice] = some false
  f_check_sum : Fun K "check_sum" "check_sum" s_check_sum a_check_sum d_check_sum
  p_check_sum : Binds K d_check_sum P_check_sum []
  g_check_sum : mg "check_sum" = some (.ref a_check_sum)
  f_table : Fun K "table" "table" s_table a_table d_table
  p_table : Binds K d_table P_table []
  g_table : mg "table" = some (.ref a_table)
  f_with_kind : Fun K "with_kind" "with_kind" s_with_kind a_with_kind d_with_kind
  p_with_kind : Binds K d_with_kind P_with_kind []
  g_with_kind : mg "with_kind" = some (.ref a_with_kind)
  f__bundles : Fun K "_bundles" "_bundles" s__bundles a__bundles d__bundles
  p__bundles : Binds K d__bundles P__bundles []
  g__bundles : mg "_bundles" = some (.ref a__bundles)
  f__with_bundle : Fun K "_with_bundle" "_with_bundle" s__with_bundle a__with_bundle d__with_bundle
  p__with_bundle : Binds K d__with_bundle P__with_bundle []
  g__with_bundle : mg "_with_bundle" = some (.ref a__with_bundle)
  f__law_cell_at : Fun K "_law_cell_at" "_law_cell_at" s__law_cell_at a__law_cell_at d__law_cell_at
  p__law_cell_at : Binds K d__law_cell_at P__law_cell_at []
  g__law_cell_at : mg "_law_cell_at" = some (.ref a__law_cell_at)
  f__law_whole : Fun K "_law_whole" "_law_whole" s__law_whole a__law_whole d__law_whole
  p__law_whole : Binds K d__law_whole P__law_whole []
  g__law_whole : mg "_law_whole" = some (.ref a__law_whole)
  f__law_mixed : Fun K "_law_mixed" "_law_mixed" s__law_mixed a__law_mixed d__law_mixed
  p__law_mixed : Binds K d__law_mixed P__law_mixed []
  g__law_mixed : mg "_law_mixed" = some (.ref a__law_mixed)
  f__law_value : Fun K "_law_value" "_law_value" s__law_value a__law_value d__law_value
  p__law_value : Binds K d__law_value P__law_value []
  g__law_value : mg "_law_value" = some (.ref a__law_value)
  f__law_count : Fun K "_law_count" "_law_count" s__law_count a__law_count d__law_count
  p__law_count : Binds K d__law_count P__law_count []
  g__law_count : mg "_law_count" = some (.ref a__law_count)
  f__law_pairs : Fun K "_law_pairs" "_law_pairs" s__law_pairs a__law_pairs d__law_pairs
  p__law_pairs : Binds K d__law_pairs P__law_pairs []
  g__law_pairs : mg "_law_pairs" = some (.ref a__law_pairs)
  f__law_least : Fun K "_law_least" "_law_least" s__law_least a__law_least d__law_least
  p__law_least : Binds K d__law_least P__law_least []
  g__law_least : mg "_law_least" = some (.ref a__law_least)
  f__law_row : Fun K "_law_row" "_law_row" s__law_row a__law_row d__law_row
  p__law_row : Binds K d__law_row P__law_row []
  g__law_row : mg "_law_row" = some (.ref a__law_row)
  f__law_walked : Fun K "_law_walked" "_law_walked" s__law_walked a__law_walked d__law_walked
  p__law_walked : Binds K d__law_walked P__law_walked []
  g__law_walked : mg "_law_walked" = some (.ref a__law_walked)
  f__law_most : Fun K "_law_most" "_law_most" s__law_most a__law_most d__law_most
  p__law_most : Binds K d__law_most P__law_most []
  g__law_most : mg "_law_most" = some (.ref a__law_most)
  f__law_refused : Fun K "_law_refused" "_law_refused" s__law_refused a__law_refused d__law_refused
  p__law_refused : Binds K d__law_refused P__law_refused []
  g__law_refused : mg "_law_refused" = some (.ref a__law_refused)
  f__law_any : Fun K "_law_any" "_law_any" s__law_any a__law_any d__law_any
  p__law_any : Binds K d__law_any P__law_any []
  g__law_any : mg "_law_any" = some (.ref a__law_any)
  f__law_within : Fun K "_law_within" "_law_within" s__law_within a__law_within d__law_within
  p__law_within : Binds K d__law_within P__law_within []
  g__law_within : mg "_law_within" = some (.ref a__law_within)
  f_law : Fun K "law" "law" s_law a_law d_law
  p_law : Binds K d_law P_law []
  g_law : mg "law" = some (.ref a_law)
  w_MOST_SUM : ∃ t, mg "MOST_SUM" = some (.int 1000 t)
  m_ValueError : mg "ValueError" = none
  m_bool : mg "bool" = none
  m_int : mg "int" = none
  m_isinstance : mg "isinstance" = none
  m_len : mg "len" = none
  m_list : mg "list" = none
  m_min : mg "min" = none
  m_range : mg "range" = none
  m_sorted : mg "sorted" = none
  m_sum : mg "sum" = none
section
variable {P : Program} {w : World} {K : PySem.W.Frag} {mg : Str → Option Value} {base : Heap}
/-! ### small things over the layer -/
abbrev CXR (P : Program) (w : World) : CXT := L2.CX P w
abbrev Ex := Evl.Ex
theorem Ex.rfl' {H : Hp} : Ex H H := fun _ _ h => h
theorem Ex.tr {H H1 H2 : Hp} (a : Ex H H1) (b : Ex H1 H2) : Ex H H2 := Evl.Ex.trans a b
theorem Ex.nw {H : Hp} {p : Addr} {o : HO} (h : H p = none) : Ex H (upd H p o) := Evl.Ex.new h
theorem Ex.seq {K : PySem.W.Frag} {H H' : Hp} {a : Addr} {xs : List V} (e : Ex H H') (h : SqL K H a xs) : SqL K H' a xs := Evl.ex_l e h
theorem ipR {X : Cx} {op : Operator} {r : R2} (ho : OpR X (inplaceOp op) r) : PIp X op r := fun pins s σ H x y v u Q I rx ry h => ho pins s σ H x y v u Q I rx ry h
theorem ip_mulR {X : Cx} : PIp X .Mult (rI CMul fun i j => .int (i * j)) := ipR iop_mul
/-- isinstance of the caught error: a class, a tuple of classes just laid; the error's class is told in the reading -/
def rIsE1 (K : PySem.W.Frag) (cls : Value) (d : Option Addr) (a : Addr) : List V → Hp → VK → Prop := fun xs H Q => ∃ (D : Addr) (c : V) (cv : Value) (b : Bool), cls = .ref D ∧ d = none ∧ ExcC K D ∧ xs = [.ref a, c] ∧ (∀ u, RelV c u → u = cv) ∧ PySem.W.kitOne K (.ref D) cv = some b ∧ Q (.bl b) H
theorem call_isE1 {X : Cx} {a : Addr} {cls : Value} {d : Option Addr} {oe : Obj} {pn : List (Addr × Obj)} (hz : Zc cls d oe) (hf : ∃ vs, oe.data = .fields vs) : CallR (X.suite a ((a, oe) :: pn)) (.builtin "isinstance") (rIsE1 X.K cls d a) := by
  intro pins s σ H xs us Q I r h
  obtain ⟨D, c, cv, b, rfl, rfl, C, rfl, hcv, e, q⟩ := h
  exact call_isE C hz hf pins s σ H _ us Q I r ⟨c, cv, b, rfl, hcv, e, q⟩
def rIsET (K : PySem.W.Frag) (cls : Value) (d : Option Addr) (a : Addr) : List V → Hp → VK → Prop := fun xs H Q => ∃ (D tp : Addr) (cs : List V) (us : List Value) (b : Bool), cls = .ref D ∧ d = none ∧ ExcC K D ∧ xs = [.ref a, .ref tp] ∧ H tp = some (.tup cs) ∧ Paired ClsV cs us ∧ PySem.W.kitAny K (.ref D) us = some b ∧ Q (.bl b) H
theorem call_isET {X : Cx} {a : Addr} {cls : Value} {d : Option Addr} {oe : Obj} {pn : List (Addr × Obj)} (hz : Zc cls d oe) (hf : ∃ fs, oe.data = .fields fs) : CallR (X.suite a ((a, oe) :: pn)) (.builtin "isinstance") (rIsET X.K cls d a) := by
  intro pins s σ H xs us Q I r h
  obtain ⟨D, tp, cs, ws, b, rfl, rfl, C, rfl, hT, k, e, q⟩ := h
  obtain ⟨w1, w2, rfl, p1, p2⟩ := vals2 r
  cases (show w2 = Value.ref tp from p2)
  cases (show w1 = Value.ref a from p1)
  obtain ⟨hgt, _⟩ := I.pin (a, oe) (List.mem_append.mpr (.inl List.mem_cons_self))
  obtain ⟨fs, hv⟩ := hf
  have J : PySem.W.InstAt s.heap a oe D none := by
    obtain ⟨oc, od, odt, oss⟩ := oe
    obtain ⟨k1, k2⟩ := hz
    dsimp only at k1 k2 hv
    subst k1 k2 hv
    exact ⟨hgt, rfl, rfl, trivial⟩
  obtain ⟨_, zs, rv, o, k1, k2, n, k3⟩ := (show ObjOk X.prog X.w H s.heap tp (.tup cs) from I.hok tp _ hT)
  have e3 := ClsV.all k rv
  subst e3
  obtain ⟨oc, od, dt, sl⟩ := o
  simp only at k2 k3
  subst k2 k3
  exact PySem.W.kia_tup (PySem.W.handS_kitx_exc C.hg C.hk C.hs C.hd C.ha C.hn C.ht C.hm) I.kIn J k1 e (fun z => nomatch z) fun tk => ⟨.bl b, H, I.tok tk, rfl, q⟩
/-- len, list(x), told by a K that is named -/
abbrev rLenK (K : PySem.W.Frag) : List V → Hp → VK → Prop := fun zs H Q => ∃ p ys, zs = [.ref p] ∧ (SqL K H p ys ∨ SqT K H p ys) ∧ Q (.int ys.length) H
abbrev rListK (K : PySem.W.Frag) : List V → Hp → VK → Prop := fun zs H Q => ∃ p ys, zs = [.ref p] ∧ (SqL K H p ys ∨ SqT K H p ys) ∧ ∀ l, H l = none → Q (.ref l) (upd H l (.lst ys))
/-- pairs of ints, each a tracked tuple -/
def Prs (H : Hp) : List V → List (Int × Int) → Prop := Paired fun x p => ∃ t, x = .ref t ∧ H t = some (.tup [.int p.1, .int p.2])
theorem Prs.ex {H H' : Hp} (e : Ex H H') : ∀ {xs : List V} {ps : List (Int × Int)}, Prs H xs ps → Prs H' xs ps
  | _, _, .nil => .nil
  | _, _, .cons ⟨t, h1, h2⟩ r => .cons ⟨t, h1, e _ _ h2⟩ (Prs.ex e r)
theorem Prs.len {H : Hp} {xs : List V} {ps : List (Int × Int)} (h : Prs H xs ps) : xs.length = ps.length := Paired.length h
theorem Prs.snoc {H : Hp} : ∀ {xs : List V} {ps : List (Int × Int)} {x : V} {p : Int × Int}, Prs H xs ps → (∃ t, x = .ref t ∧ H t = some (.tup [.int p.1, .int p.2])) → Prs H (xs ++ [x]) (ps ++ [p])
  | _, _, _, _, .nil, h => .cons h .nil
  | _, _, _, _, .cons a r, h => .cons a (Prs.snoc r h)
theorem Prs.get {H : Hp} : ∀ {xs : List V} {ps : List (Int × Int)} {i : Nat} {x : V}, Prs H xs ps → xs[i]? = some x → ∃ p t, ps[i]? = some p ∧ x = .ref t ∧ H t = some (.tup [.int p.1, .int p.2])
  | _, _, _, _, .nil, e => by simp at e
  | _, _, 0, _, .cons (b := p) ⟨t, h1, h2⟩ _, e => by simp at e; subst e; exact ⟨p, t, by simp, h1, h2⟩
  | _, _, i + 1, x, .cons _ r, e => by
    obtain ⟨p, t, h1, h2⟩ := Prs.get (i := i) (x := x) r (by simpa using e)
    exact ⟨p, t, by simpa using h1, h2⟩
theorem Prs.getL {H : Hp} : ∀ {xs : List V} {ps : List (Int × Int)} {i : Nat} {p : Int × Int}, Prs H xs ps → ps[i]? = some p → ∃ t, xs[i]? = some (.ref t) ∧ H t = some (.tup [.int p.1, .int p.2])
  | _, _, _, _, .nil, e => by simp at e
  | _, _, 0, _, .cons ⟨t, h1, h2⟩ _, e => by simp at e; subst e; exact ⟨t, by simpa using h1, h2⟩
  | _, _, i + 1, p, .cons _ r, e => by
    obtain ⟨t, h1, h2⟩ := Prs.getL (i := i) (p := p) r (by simpa using e)
    exact ⟨t, by simpa using h1, h2⟩
/-- a till (or purse): a list of such pairs -/
def Till (K : PySem.W.Frag) (H : Hp) (a : Addr) (ps : List (Int × Int)) : Prop := ∃ xs, SqL K H a xs ∧ Prs H xs ps
theorem Till.ex {K : PySem.W.Frag} {H H' : Hp} {a : Addr} {ps : List (Int × Int)} (e : Ex H H') (h : Till K H a ps) : Till K H' a ps :=
  let ⟨xs, h1, h2⟩ := h; ⟨xs, Ex.seq e h1, h2.ex e⟩
/-- what a def that gives no new list answers -/
def Ret (v : V) (H : Hp) (Q : VK) : Prop := ∀ H2, Ex H H2 → Q v H2
theorem Ret.at {v : V} {H H' : Hp} {Q : VK} (k : Ret v H Q) (e : Ex H H') : Q v H' := k H' e
theorem len63 {n : Nat} (h : n ≤ 1000000) : n ≤ sizeLine := Nat.le_trans h (by decide)
theorem len63' {n : Nat} (h : n < 1000000) : n < sizeLine := Nat.lt_of_lt_of_le h (by decide)
theorem iteD {c A B : Prop} [Decidable c] (h1 : c → A) (h2 : ¬ c → B) : if decide c = true then A else B := by
  by_cases h : c
  · rw [if_pos (decide_eq_true h)]; exact h1 h
  · rw [if_neg (by simpa using h)]; exact h2 h
theorem iteDN {c A B : Prop} [Decidable c] (h1 : ¬ c → A) (h2 : c → B) : if (!decide c) = true then A else B := by
  by_cases h : c
  · rw [if_neg (by simpa using h)]; exact h2 h
  · rw [if_pos (by simpa using h)]; exact h1 h
theorem iteVI {i j : Int} {A B : Prop} (h1 : i = j → A) (h2 : ¬ i = j → B) : if decide (V.int i = V.int j) = true then A else B :=
  iteD (fun e => h1 (V.int.inj e)) fun e => h2 fun z => e (congrArg V.int z)
theorem iteVN {i j : Int} {A B : Prop} (h1 : ¬ i = j → A) (h2 : i = j → B) : if (!decide (V.int i = V.int j)) = true then A else B :=
  iteDN (fun e => h1 fun z => e (congrArg V.int z)) fun e => h2 (V.int.inj e)
theorem iteB {b : Bool} {A B : Prop} (h1 : b = true → A) (h2 : b = false → B) : if b = true then A else B := by
  cases b with
  | true => exact iteT (h1 rfl)
  | false => exact iteF (h2 rfl)
/-- what «except D» says of an error of the class C -/
theorem exm_mk {K : PySem.W.Frag} {C D : Addr} {b : Bool} (h1 : PySem.W.subIn K (.ref D) (.type "BaseException") = some true) (h2 : PySem.W.isClsIn K D = true) (h3 : PySem.W.typeIn K (.ref D) = some (.type "type")) (h4 : PySem.W.subIn K (.ref C) (.ref D) = some b) :
    PySem.W.exmOne K (.ref C) (.ref D) = some b := by
  have e1 : (PySem.W.subIn K (.ref D) (.type "BaseException") == some true) = true := by rw [h1] <;> rfl
  have e2 : ((PySem.W.clsIn K D).isSome && PySem.W.typeIn K (.ref D) == some (.type "type")) = true := by
    have h2' : (PySem.W.clsIn K D).isSome = true := h2
    rw [h2', h3] <;> rfl
  show (if (PySem.W.subIn K (.ref D) (.type "BaseException") == some true) = true then (if ((PySem.W.clsIn K D).isSome && PySem.W.typeIn K (.ref D) == some (.type "type")) = true then PySem.W.subIn K (.ref C) (.ref D) else none) else none) = some b
  rw [if_pos e1, if_pos e2]
  exact h4
theorem Ex.mu {H H' : Hp} {p : Addr} {o : HO} (e : Ex H H') (h : H p = none) : Ex H (upd H' p o) := Evl.Ex.mut e h
theorem Prs.up {H : Hp} {f : Addr} {o : HO} (hf : ∀ ys, H f ≠ some (.tup ys)) : ∀ {xs : List V} {ps : List (Int × Int)}, Prs H xs ps → Prs (upd H f o) xs ps
  | _, _, .nil => .nil
  | _, _, .cons ⟨t, h1, h2⟩ r => .cons ⟨t, h1, by rw [upd_ne fun e => hf _ (e ▸ h2)]; exact h2⟩ (Prs.up hf r)
/-- the pair that stands at an address -/
def pairAt (H : Hp) : V → Int × Int
  | .ref t => match H t with
    | some (.tup [.int i, .int j]) => (i, j)
    | _ => (0, 0)
  | _ => (0, 0)
theorem pairAt_eq {H : Hp} {t : Addr} {i j : Int} (h : H t = some (.tup [.int i, .int j])) : pairAt H (.ref t) = (i, j) := by
  show (match H t with | some (.tup [.int i, .int j]) => (i, j) | _ => (0, 0)) = (i, j)
  rw [h]
theorem Prs.map {H : Hp} : ∀ {xs : List V} {ps : List (Int × Int)}, Prs H xs ps → ps = xs.map (pairAt H)
  | _, _, .nil => rfl
  | _, _, .cons ⟨t, h1, h2⟩ r => by rw [List.map_cons, ← Prs.map r, h1, pairAt_eq h2]
theorem Prs.all {H : Hp} {xs : List V} {ps : List (Int × Int)} (h : Prs H xs ps) : ∀ x ∈ xs, ∃ t, x = V.ref t ∧ H t = some (.tup [.int (pairAt H x).1, .int (pairAt H x).2]) := by
  intro x hx
  obtain ⟨i, hi, e⟩ := List.getElem_of_mem hx
  obtain ⟨p, t, h1, h2, h3⟩ := Prs.get h (by rw [List.getElem?_eq_getElem hi, e])
  refine ⟨t, h2, ?_⟩
  rw [h2, pairAt_eq h3]
  exact h3
theorem Prs.of {H : Hp} : ∀ {xs : List V}, (∀ x ∈ xs, ∃ t, x = V.ref t ∧ H t = some (.tup [.int (pairAt H x).1, .int (pairAt H x).2])) → Prs H xs (xs.map (pairAt H))
  | [], _ => .nil
  | x :: xs, h => .cons (h x List.mem_cons_self) (Prs.of fun y hy => h y (List.mem_cons_of_mem _ hy))
/-- the pairs rise by value and are apart -/
def Rising (ps : List (Int × Int)) : Prop := ps.Pairwise fun p q => p.1 < q.1
theorem rising_of {H : Hp} {ys : List V} (hs : SrtO.Srtd (ltP (pairAt H)) ys) (nd : ((ys.map (pairAt H)).map (·.1)).Nodup) : Rising (ys.map (pairAt H)) := by
  unfold Rising
  rw [List.pairwise_map]
  rw [List.map_map, List.Nodup, List.pairwise_map] at nd
  refine (hs.and nd).imp ?_
  intro a b h
  have h1 := SrtO.lexB_no.mp h.1
  have h2 : (pairAt H a).1 ≠ (pairAt H b).1 := h.2
  omega
/-- sorted of such pairs -/
theorem sorted_prs {H : Hp} {xs ys : List V} {ps : List (Int × Int)} (hp : Prs H xs ps) (nd : (ps.map (·.1)).Nodup) (h1 : SrtO.Srtd (ltP (pairAt H)) ys) (h2 : SrtO.Stb (ltP (pairAt H)) ys xs) :
    ∃ qs, Prs H ys qs ∧ qs.Perm ps ∧ Rising qs := by
  have hpm : (ys.map (pairAt H)).Perm ps := by
    rw [hp.map]
    exact h2.perm.map _
  exact ⟨ys.map (pairAt H), Prs.of fun y hy => hp.all y (h2.perm.mem_iff.mp hy), hpm, rising_of h1 ((hpm.map _).nodup_iff.mpr nd)⟩
/-- what a till drawn here is: 1 to 10 kinds, apart, in bounds -/
structure Drawn (ps : List (Int × Int)) : Prop where
  nd : (ps.map (·.1)).Nodup
  val : ∀ p ∈ ps, 1 ≤ p.1 ∧ p.1 ≤ 1000
  cnt : ∀ p ∈ ps, 0 ≤ p.2 ∧ p.2 ≤ 1000000000
theorem Drawn.perm {ps qs : List (Int × Int)} (d : Drawn ps) (h : qs.Perm ps) : Drawn qs :=
  ⟨(h.map _).nodup_iff.mpr d.nd, fun p hp => d.val p (h.mem_iff.mp hp), fun p hp => d.cnt p (h.mem_iff.mp hp)⟩
/-- a till as data -/
def dP (p : Int × Int) : PyData := .tuple [.int p.1, .int p.2]
theorem prs_dp {K : PySem.W.Frag} {H : Hp} : ∀ {xs : List V} {ps : List (Int × Int)}, Prs H xs ps → DpAll K H xs (ps.map dP)
  | _, _, .nil => .nil
  | _, _, .cons ⟨t, h1, h2⟩ r => .cons (h1 ▸ .tup (.of h2) (.cons (.int _) (.cons (.int _) .nil))) (prs_dp r)
theorem till_dp {K : PySem.W.Frag} {H : Hp} {a : Addr} {ps : List (Int × Int)} (h : Till K H a ps) : Dp K H (.ref a) (.list (ps.map dP)) :=
  let ⟨_, h1, h2⟩ := h; .lst h1 (prs_dp h2)
theorem canLay_dPs : ∀ ps : List (Int × Int), PyData.canLayAll0 (ps.map dP) = true
  | [] => rfl
  | p :: r => by
    rw [List.map_cons]
    show (PyData.canLay0 (dP p) && PyData.canLayAll0 (r.map dP)) = true
    rw [canLay_dPs r]
    rfl
theorem depth_dPs : ∀ ps : List (Int × Int), PyData.depthAll (ps.map dP) ≤ 3
  | [] => by decide
  | p :: r => by
    have h := depth_dPs r
    rw [List.map_cons]
    show max (PyData.depth (dP p)) (PyData.depthAll (r.map dP)) ≤ 3
    have : PyData.depth (dP p) ≤ 3 := by
      show PyData.depth (.tuple [.int p.1, .int p.2]) ≤ 3
      simp [PyData.depth, PyData.depthAll]
    omega
theorem shaped_till (ps : List (Int × Int)) : SeqAt.shaped (.list (ps.map dP)) = true := by
  unfold SeqAt.shaped
  have h1 : PyData.canLay0 (.list (ps.map dP)) = true := canLay_dPs ps
  have h2 : PyData.depth (.list (ps.map dP)) ≤ 64 := by
    have := depth_dPs ps
    simp only [PyData.depth]
    omega
  rw [h1, decide_eq_true h2]
  rfl
theorem eqv_of_shaped {d : PyData} (h : SeqAt.shaped d = true) : PyData.eqv d d = true := PySem.SeqAt.eqv_refl d (SeqAt.canLay_of_shaped h)
theorem t_yes {A B : Hp → Prop} {σ : L2.St} {H : Hp} (h : A H) : tYes σ H (fun b H3 => if b = true then A H3 else B H3) := by
  show if true = true then A H else B H
  rw [if_pos rfl]
  exact h
theorem canLay_ints : ∀ l : List Int, PyData.canLayAll0 (l.map PyData.int) = true
  | [] => rfl
  | p :: r => by
    rw [List.map_cons]
    show (PyData.canLay0 (.int p) && PyData.canLayAll0 (r.map PyData.int)) = true
    rw [canLay_ints r]
    rfl
theorem depth_ints : ∀ l : List Int, PyData.depthAll (l.map PyData.int) ≤ 3
  | [] => by decide
  | p :: r => by
    have h := depth_ints r
    rw [List.map_cons]
    show max (PyData.depth (.int p)) (PyData.depthAll (r.map PyData.int)) ≤ 3
    have : PyData.depth (.int p) ≤ 3 := by simp [PyData.depth]
    omega
theorem shaped_ints (l : List Int) : SeqAt.shaped (.list (l.map PyData.int)) = true := by
  unfold SeqAt.shaped
  have h1 : PyData.canLay0 (.list (l.map PyData.int)) = true := canLay_ints l
  have h2 : PyData.depth (.list (l.map PyData.int)) ≤ 64 := by
    have := depth_ints l
    simp only [PyData.depth]
    omega
  rw [h1, decide_eq_true h2]
  rfl
theorem kone_own {K : PySem.W.Frag} {D C : Addr} {b : Bool} (hn : D ≠ C) (h2 : PySem.W.isClsIn K C = true) (h3 : PySem.W.typeIn K (.ref C) = some (.type "type")) (h4 : PySem.W.subIn K (.ref D) (.ref C) = some b) : PySem.W.kitOne K (.ref D) (.ref C) = some b := by
  have e1 : ¬ (Value.ref D == Value.ref C) = true := fun z => hn (Value.ref.inj (beq_iff_eq.mp z))
  have e2 : ((PySem.W.clsIn K C).isSome && PySem.W.typeIn K (.ref C) == some (.type "type")) = true := by
    have h2' : (PySem.W.clsIn K C).isSome = true := h2
    rw [h2', h3] <;> rfl
  unfold PySem.W.kitOne
  rw [if_neg e1]
  show (if ((PySem.W.clsIn K C).isSome && PySem.W.typeIn K (.ref C) == some (.type "type")) = true then PySem.W.subIn K (.ref D) (.ref C) else none) = some b
  rw [if_pos e2]
  exact h4
theorem kone_self {K : PySem.W.Frag} {D : Addr} : PySem.W.kitOne K (.ref D) (.ref D) = some true := by
  unfold PySem.W.kitOne
  rw [if_pos (beq_self_eq_true _)]
theorem kone_ty {K : PySem.W.Frag} {D : Addr} (h : PySem.W.subIn K (.ref D) (.type "ValueError") = some true) : PySem.W.kitOne K (.ref D) (.type "ValueError") = some true := by
  have e1 : ¬ (Value.ref D == Value.type "ValueError") = true := fun z => by cases beq_iff_eq.mp z
  unfold PySem.W.kitOne
  rw [if_neg e1]
  show (if PySem.W.kitMeta "ValueError" = true then PySem.W.subIn K (.ref D) (.type "ValueError") else none) = some true
  rw [if_pos (by decide +kernel)]
  exact h
theorem kany_f {K : PySem.W.Frag} {t c : Value} {cs : List Value} {r : Bool} (h : PySem.W.kitOne K t c = some false) (hr : PySem.W.kitAny K t cs = some r) : PySem.W.kitAny K t (c :: cs) = some r :=
  kitAny_cons h (fun _ => hr) fun z => nomatch z
theorem kany_t {K : PySem.W.Frag} {t c : Value} {cs : List Value} (h : PySem.W.kitOne K t c = some true) : PySem.W.kitAny K t (c :: cs) = some true :=
  kitAny_cons h (fun z => nomatch z) fun _ => rfl
theorem take_snoc {α : Type} {l : List α} {i : Nat} {x : α} (h : l[i]? = some x) : l.take (i + 1) = l.take i ++ [x] := by
  rw [List.take_add_one, h]
  rfl
theorem drop_at {α : Type} {l : List α} {i : Nat} {x : α} (h : l[i]? = some x) : l.drop i = x :: l.drop (i + 1) := by
  obtain ⟨hi, e⟩ := List.getElem?_eq_some_iff.mp h
  rw [List.drop_eq_getElem_cons hi, e]
theorem none_back {H H' : Hp} {p : Addr} (ex : Ex H H') (h : H' p = none) : H p = none := by
  cases z : H p with
  | none => rfl
  | some o => rw [ex _ _ z] at h; cases h
theorem Prs.take {H : Hp} : ∀ {xs : List V} {ps : List (Int × Int)} (n : Nat), Prs H xs ps → Prs H (xs.take n) (ps.take n)
  | _, _, 0, _ => .nil
  | _, _, _ + 1, .nil => .nil
  | _, _, n + 1, .cons h r => .cons h (Prs.take n r)
theorem Prs.drop {H : Hp} : ∀ {xs : List V} {ps : List (Int × Int)} (n : Nat), Prs H xs ps → Prs H (xs.drop n) (ps.drop n)
  | _, _, 0, h => h
  | _, _, _ + 1, .nil => .nil
  | _, _, n + 1, .cons h r => Prs.drop n r
theorem Prs.app {H : Hp} : ∀ {xs ys : List V} {ps qs : List (Int × Int)}, Prs H xs ps → Prs H ys qs → Prs H (xs ++ ys) (ps ++ qs)
  | _, _, _, _, .nil, h => h
  | _, _, _, _, .cons a r, h => .cons a (Prs.app r h)
theorem cut_take (xs : List V) (k : Nat) (h : k ≤ xs.length) : cutV xs none (some (k : Int)) = xs.take k := by
  unfold cutV
  rw [HT.sIx_none, HT.sIx_nat, List.drop_zero, Nat.sub_zero, Nat.min_eq_left h]
theorem cut_drop (xs : List V) (k : Nat) (h : k ≤ xs.length) : cutV xs (some (k : Int)) none = xs.drop k := by
  unfold cutV
  rw [HT.sIx_none, HT.sIx_nat, Nat.min_eq_left h, List.take_of_length_le (by rw [List.length_drop]; exact Nat.le_refl _)]
theorem seq_at {i : Int} {n : Nat} (h0 : 0 ≤ i) (h1 : i < n) : seqIndex? i n = some i.toNat := by
  have h2 : ¬ i < 0 := by omega
  simp [seqIndex?, h2, h0, h1]
theorem nodup_at {α : Type} {l : List α} {i j : Nat} {x : α} (h : l.Nodup) (hi : l[i]? = some x) (hj : l[j]? = some x) : i = j := by
  obtain ⟨h1, e1⟩ := List.getElem?_eq_some_iff.mp hi
  obtain ⟨h2, e2⟩ := List.getElem?_eq_some_iff.mp hj
  rcases Nat.lt_trichotomy i j with z | z | z
  · exact absurd (e1.trans e2.symm) (List.pairwise_iff_getElem.mp h i j h1 h2 z)
  · exact z
  · exact absurd (e2.trans e1.symm) (List.pairwise_iff_getElem.mp h j i h2 h1 z)
theorem Prs.keep {H H' : Hp} : ∀ {xs : List V} {ps : List (Int × Int)}, Prs H xs ps → (∀ t zs, H t = some (.tup zs) → H' t = some (.tup zs)) → Prs H' xs ps
  | _, _, .nil, _ => .nil
  | _, _, .cons ⟨t, h1, h2⟩ r, k => .cons ⟨t, h1, k _ _ h2⟩ (Prs.keep r k)
theorem take_succ_map {α β : Type} {l : List α} {i : Nat} {x : α} (f : α → β) (h : l[i]? = some x) : (l.take (i + 1)).map f = (l.take i).map f ++ [f x] := by
  rw [List.take_add_one, h, List.map_append]
  rfl
theorem rising_nd {ps : List (Int × Int)} (h : Rising ps) : (ps.map (·.1)).Nodup := by
  rw [List.Nodup, List.pairwise_map]
  exact h.imp fun z e => by omega
/-! ### what the law draws -/
def cell (ns : List Int) (k : Nat) : Int := ns.getD k 0
def mixed (c k : Int) : Int := (c + 7919 * k) * 48271 % 2147483647
theorem mixed_nn (c k : Int) : 0 ≤ mixed c k := Int.emod_nonneg _ (by decide)
theorem mixed_lt (c k : Int) : mixed c k < 2147483647 := Int.emod_lt_of_pos _ (by decide)
def spCellAt (K : PySem.W.Frag) : Sp := fun vs H Q _ => ∃ (a : Addr) (ns : List Int) (k : Nat), vs = [.ref a, .int k] ∧ SqL K H a (ns.map V.int) ∧ Q (.int (cell ns k)) H
theorem ok_cell_at (T : Tx K mg) : FnOk P w K mg base CX0 1 T.a__law_cell_at T.d__law_cell_at P__law_cell_at (spCellAt K) := by
  refine T.f__law_cell_at.ok sc__law_cell_at (fun vs H Q E h => ?_) (fun cdv A outer s H vs Q E hr h => ?_)
  · obtain ⟨a, ns, k, rfl, _⟩ := h
    rfl
  · obtain ⟨a, ns, k, rfl, hS, q⟩ := h
    refine ⟨_, (pss_cons (ps_if (pt_cmpR op_lt (pv 1) (pe_callB call_len_seq (by rfl) T.m_len (by decide +kernel) (pa_cons (pv 0) pa_nil)) (nomark _))
      (pss_one (ps_ret (pe_ix ix_list (pv 0) (pv 1) (fun _ _ => rfl))))
      pss_nil)
    (pss_one (ps_ret pe_int))), ?_⟩
    refine ⟨_, rfl, _, rfl, a, _, rfl, .inl hS, _, _, rfl, rfl, _, rfl, ite2 (fun e => ?_) (fun e => ?_)⟩
    · have e1 : (k : Int) < ((ns.map V.int).length : Int) := of_decide_eq_true e
      rw [List.length_map] at e1
      have e2 : k < ns.length := by omega
      refine ⟨_, rfl, _, rfl, a, _, _, .int (cell ns k), rfl, rfl, hS, atI_nat ?_, q⟩
      rw [List.getElem?_map, List.getElem?_eq_getElem e2]
      show some (V.int ns[k]) = _
      unfold cell
      rw [List.getD_eq_getElem?_getD, List.getElem?_eq_getElem e2]
      rfl
    · have e1 : ¬ (k : Int) < ((ns.map V.int).length : Int) := fun z => e (decide_eq_true z)
      rw [List.length_map] at e1
      have e2 : cell ns k = 0 := by
        unfold cell
        rw [List.getD_eq_getElem?_getD, List.getElem?_eq_none (by omega)]
        rfl
      rw [e2] at q
      exact q
def spMixed : Sp := fun vs H Q _ => ∃ c k, vs = [.int c, .int k] ∧ (-(2 ^ 64) < k ∧ k < 2 ^ 64) ∧ Q (.int (mixed c k)) H
theorem ok_mixed (T : Tx K mg) : FnOk P w K mg base CX0 1 T.a__law_mixed T.d__law_mixed P__law_mixed spMixed := by
  refine T.f__law_mixed.ok sc__law_mixed (fun vs H Q E h => ?_) (fun cdv A outer s H vs Q E hr h => ?_)
  · obtain ⟨c, k, rfl, _⟩ := h
    rfl
  · obtain ⟨c, k, rfl, hk, q⟩ := h
    refine ⟨_, (pss_one (ps_ret (pe_op op_mod (pe_op op_mul (pe_op op_add (pv 0) (pe_op op_mul pe_int (pv 1))) pe_int) pe_int))), ?_⟩
    repeat (first | refine ⟨_, rfl, ?_⟩ | refine ⟨(by show (0 : Int) < _; decide), ?_⟩ | refine ⟨⟨by decide, by decide⟩, ?_⟩ | refine ⟨.inr ⟨by decide, by decide⟩, ?_⟩ | refine ⟨.inl ⟨by decide, by decide⟩, ?_⟩ | refine ⟨⟨by decide, by decide, by decide⟩, ?_⟩ | refine ⟨_, _, rfl, rfl, ?_⟩ | refine ⟨rfl, _, rfl, ?_⟩)
    exact q
def menu : List Int := [1, 2, 5, 10, 20, 50, 100, 200, 500, 1000]
theorem menu_in : ∀ i : Nat, i < 10 → 1 ≤ menu.getD i 0 ∧ menu.getD i 0 ≤ 1000 := by decide
theorem menu_at {ms : List Int} {i : Int} {n : Nat} (hl : ms.length = n) (h0 : 0 ≤ i) (h1 : i < n) : atI (ms.map V.int) i = some (.int (ms.getD i.toNat 0)) := by
  have hn : ((i.toNat : Nat) : Int) = i := Int.toNat_of_nonneg h0
  have hlt : i.toNat < ms.length := by omega
  refine at_of hn.symm ?_
  rw [List.getElem?_map, List.getElem?_eq_getElem hlt, List.getD_eq_getElem?_getD, List.getElem?_eq_getElem hlt]
  rfl
def value (c k : Int) : Int := if c % 3 = 0 then menu.getD (mixed c k % 10).toNat 0 else if c % 3 = 1 then 1 + mixed c k % 30 else 1 + mixed c k % 1000
theorem value_in (c k : Int) : 1 ≤ value c k ∧ value c k ≤ 1000 := by
  unfold value
  split
  · exact menu_in _ (by have := Int.emod_lt_of_pos (mixed c k) (by decide : (0 : Int) < 10); have := Int.emod_nonneg (mixed c k) (by decide : (10 : Int) ≠ 0); omega)
  · split <;> omega
def spValue : Sp := fun vs H Q _ => ∃ c k, vs = [.int c, .int k] ∧ (-(2 ^ 64) < k ∧ k < 2 ^ 64) ∧ Ret (.int (value c k)) H Q
theorem ok_value (T : Tx K mg) : FnOk P w K mg base CX0 2 T.a__law_value T.d__law_value P__law_value spValue := by
  have G__law_mixed := ok_mixed (P := P) (w := w) (base := base) T
  refine T.f__law_value.ok sc__law_value (fun vs H Q E h => ?_) (fun cdv A outer s H vs Q E hr h => ?_)
  · obtain ⟨c, k, rfl, _⟩ := h
    rfl
  · obtain ⟨c, k, rfl, hk, q⟩ := h
    refine ⟨_, (pss_cons (ps_set (i := 2) sc__law_value.nd rfl (.inl rfl) (pe_call G__law_mixed (hr.mono (by decide)) (by rfl) T.g__law_mixed T.f__law_mixed.kp T.p__law_mixed .nil pass0 (pa_cons (pv 0) (pa_cons (pv 1) pa_nil))))
    (pss_cons (ps_if (pt_cmpR op_eq (pe_op op_mod (pv 0) pe_int) pe_int (nomark _))
      (pss_one (ps_ret (pe_ix ix_list (pe_lst (pa_cons pe_int (pa_cons pe_int (pa_cons pe_int (pa_cons pe_int (pa_cons pe_int (pa_cons pe_int (pa_cons pe_int (pa_cons pe_int (pa_cons pe_int (pa_cons pe_int pa_nil))))))))))) (pe_op op_mod (pv 2) pe_int) (fun _ _ => rfl))))
      pss_nil)
    (pss_cons (ps_if (pt_cmpR op_eq (pe_op op_mod (pv 0) pe_int) pe_int (nomark _))
      (pss_one (ps_ret (pe_op op_add pe_int (pe_op op_mod (pv 2) pe_int))))
      pss_nil)
    (pss_one (ps_ret (pe_op op_add pe_int (pe_op op_mod (pv 2) pe_int))))))), ?_⟩
    unfold value at q
    repeat (first | refine ⟨_, rfl, ?_⟩ | refine ⟨(by show (0 : Int) < _; decide), ?_⟩ | refine ⟨⟨by decide, by decide⟩, ?_⟩ | refine ⟨.inr ⟨by decide, by decide⟩, ?_⟩ | refine ⟨.inl ⟨by decide, by decide⟩, ?_⟩ | refine ⟨⟨by decide, by decide, by decide⟩, ?_⟩ | refine ⟨_, _, rfl, rfl, ?_⟩ | refine ⟨rfl, _, rfl, ?_⟩)
    refine ⟨_, _, rfl, hk, ?_⟩
    repeat (first | refine ⟨_, rfl, ?_⟩ | refine ⟨(by show (0 : Int) < _; decide), ?_⟩ | refine ⟨⟨by decide, by decide⟩, ?_⟩ | refine ⟨.inr ⟨by decide, by decide⟩, ?_⟩ | refine ⟨.inl ⟨by decide, by decide⟩, ?_⟩ | refine ⟨⟨by decide, by decide, by decide⟩, ?_⟩ | refine ⟨_, _, rfl, rfl, ?_⟩ | refine ⟨rfl, _, rfl, ?_⟩)
    first | refine iteVI (fun e => ?_) (fun e => ?_) | refine iteVN (fun e => ?_) (fun e => ?_) | refine iteD (fun e => ?_) (fun e => ?_) | refine iteDN (fun e => ?_) (fun e => ?_) | refine iteB (fun e => ?_) (fun e => ?_)
    · rw [if_pos e] at q
      refine ⟨len63 (by decide), fun p hp => ?_⟩
      repeat (first | refine ⟨_, rfl, ?_⟩ | refine ⟨(by show (0 : Int) < _; decide), ?_⟩ | refine ⟨⟨by decide, by decide⟩, ?_⟩ | refine ⟨.inr ⟨by decide, by decide⟩, ?_⟩ | refine ⟨.inl ⟨by decide, by decide⟩, ?_⟩ | refine ⟨⟨by decide, by decide, by decide⟩, ?_⟩ | refine ⟨_, _, rfl, rfl, ?_⟩ | refine ⟨rfl, _, rfl, ?_⟩)
      exact ⟨p, menu.map V.int, _, _, rfl, rfl, .of upd_same, menu_at rfl (Int.emod_nonneg _ (by decide)) (Int.emod_lt_of_pos _ (by decide)), q _ (Ex.nw hp)⟩
    · rw [if_neg e] at q
      repeat (first | refine ⟨_, rfl, ?_⟩ | refine ⟨(by show (0 : Int) < _; decide), ?_⟩ | refine ⟨⟨by decide, by decide⟩, ?_⟩ | refine ⟨.inr ⟨by decide, by decide⟩, ?_⟩ | refine ⟨.inl ⟨by decide, by decide⟩, ?_⟩ | refine ⟨⟨by decide, by decide, by decide⟩, ?_⟩ | refine ⟨_, _, rfl, rfl, ?_⟩ | refine ⟨rfl, _, rfl, ?_⟩)
      first | refine iteVI (fun e => ?_) (fun e => ?_) | refine iteVN (fun e => ?_) (fun e => ?_) | refine iteD (fun e => ?_) (fun e => ?_) | refine iteDN (fun e => ?_) (fun e => ?_) | refine iteB (fun e => ?_) (fun e => ?_)
      · rw [if_pos e] at q
        repeat (first | refine ⟨_, rfl, ?_⟩ | refine ⟨(by show (0 : Int) < _; decide), ?_⟩ | refine ⟨⟨by decide, by decide⟩, ?_⟩ | refine ⟨.inr ⟨by decide, by decide⟩, ?_⟩ | refine ⟨.inl ⟨by decide, by decide⟩, ?_⟩ | refine ⟨⟨by decide, by decide, by decide⟩, ?_⟩ | refine ⟨_, _, rfl, rfl, ?_⟩ | refine ⟨rfl, _, rfl, ?_⟩)
        exact q _ Ex.rfl'
      · rw [if_neg e] at q
        repeat (first | refine ⟨_, rfl, ?_⟩ | refine ⟨(by show (0 : Int) < _; decide), ?_⟩ | refine ⟨⟨by decide, by decide⟩, ?_⟩ | refine ⟨.inr ⟨by decide, by decide⟩, ?_⟩ | refine ⟨.inl ⟨by decide, by decide⟩, ?_⟩ | refine ⟨⟨by decide, by decide, by decide⟩, ?_⟩ | refine ⟨_, _, rfl, rfl, ?_⟩ | refine ⟨rfl, _, rfl, ?_⟩)
        exact q _ Ex.rfl'
def count (c k : Int) : Int := if c / 3 % 4 = 1 then mixed c k % 61 else if c / 3 % 12 = 6 then mixed c k / 7 % 2 * (1000000000 - mixed c k % 50) else mixed c k % 5
theorem count_in (c k : Int) : 0 ≤ count c k ∧ count c k ≤ 1000000000 := by
  unfold count
  split
  · omega
  · split
    · rcases (by omega : mixed c k / 7 % 2 = 0 ∨ mixed c k / 7 % 2 = 1) with h | h <;> rw [h] <;> omega
    · omega
def spCount : Sp := fun vs H Q _ => ∃ c k, vs = [.int c, .int k] ∧ (-(2 ^ 64) < k ∧ k < 2 ^ 64) ∧ Q (.int (count c k)) H
theorem ok_count (T : Tx K mg) : FnOk P w K mg base CX0 2 T.a__law_count T.d__law_count P__law_count spCount := by
  have G__law_mixed := ok_mixed (P := P) (w := w) (base := base) T
  refine T.f__law_count.ok sc__law_count (fun vs H Q E h => ?_) (fun cdv A outer s H vs Q E hr h => ?_)
  · obtain ⟨c, k, rfl, _⟩ := h
    rfl
  · obtain ⟨c, k, rfl, hk, q⟩ := h
    refine ⟨_, (pss_cons (ps_set (i := 2) sc__law_count.nd rfl (.inl rfl) (pe_call G__law_mixed (hr.mono (by decide)) (by rfl) T.g__law_mixed T.f__law_mixed.kp T.p__law_mixed .nil pass0 (pa_cons (pv 0) (pa_cons (pv 1) pa_nil))))
    (pss_cons (ps_if (pt_cmpR op_eq (pe_op op_mod (pe_op op_fdiv (pv 0) pe_int) pe_int) pe_int (nomark _))
      (pss_one (ps_ret (pe_op op_mod (pv 2) pe_int)))
      pss_nil)
    (pss_cons (ps_if (pt_cmpR op_eq (pe_op op_mod (pe_op op_fdiv (pv 0) pe_int) pe_int) pe_int (nomark _))
      (pss_one (ps_ret (pe_op op_mul (pe_op op_mod (pe_op op_fdiv (pv 2) pe_int) pe_int) (pe_op op_sub (pe_op op_pow pe_int pe_int) (pe_op op_mod (pv 2) pe_int)))))
      pss_nil)
    (pss_one (ps_ret (pe_op op_mod (pv 2) pe_int)))))), ?_⟩
    unfold count at q
    repeat (first | refine ⟨_, rfl, ?_⟩ | refine ⟨(by show (0 : Int) < _; decide), ?_⟩ | refine ⟨⟨by decide, by decide⟩, ?_⟩ | refine ⟨.inr ⟨by decide, by decide⟩, ?_⟩ | refine ⟨.inl ⟨by decide, by decide⟩, ?_⟩ | refine ⟨⟨by decide, by decide, by decide⟩, ?_⟩ | refine ⟨_, _, rfl, rfl, ?_⟩ | refine ⟨rfl, _, rfl, ?_⟩)
    refine ⟨_, _, rfl, hk, ?_⟩
    repeat (first | refine ⟨_, rfl, ?_⟩ | refine ⟨(by show (0 : Int) < _; decide), ?_⟩ | refine ⟨⟨by decide, by decide⟩, ?_⟩ | refine ⟨.inr ⟨by decide, by decide⟩, ?_⟩ | refine ⟨.inl ⟨by decide, by decide⟩, ?_⟩ | refine ⟨⟨by decide, by decide, by decide⟩, ?_⟩ | refine ⟨_, _, rfl, rfl, ?_⟩ | refine ⟨rfl, _, rfl, ?_⟩)
    first | refine iteVI (fun e => ?_) (fun e => ?_) | refine iteVN (fun e => ?_) (fun e => ?_) | refine iteD (fun e => ?_) (fun e => ?_) | refine iteDN (fun e => ?_) (fun e => ?_) | refine iteB (fun e => ?_) (fun e => ?_)
    · rw [if_pos e] at q
      repeat (first | refine ⟨_, rfl, ?_⟩ | refine ⟨(by show (0 : Int) < _; decide), ?_⟩ | refine ⟨⟨by decide, by decide⟩, ?_⟩ | refine ⟨.inr ⟨by decide, by decide⟩, ?_⟩ | refine ⟨.inl ⟨by decide, by decide⟩, ?_⟩ | refine ⟨⟨by decide, by decide, by decide⟩, ?_⟩ | refine ⟨_, _, rfl, rfl, ?_⟩ | refine ⟨rfl, _, rfl, ?_⟩)
      exact q
    · rw [if_neg e] at q
      repeat (first | refine ⟨_, rfl, ?_⟩ | refine ⟨(by show (0 : Int) < _; decide), ?_⟩ | refine ⟨⟨by decide, by decide⟩, ?_⟩ | refine ⟨.inr ⟨by decide, by decide⟩, ?_⟩ | refine ⟨.inl ⟨by decide, by decide⟩, ?_⟩ | refine ⟨⟨by decide, by decide, by decide⟩, ?_⟩ | refine ⟨_, _, rfl, rfl, ?_⟩ | refine ⟨rfl, _, rfl, ?_⟩)
      first | refine iteVI (fun e => ?_) (fun e => ?_) | refine iteVN (fun e => ?_) (fun e => ?_) | refine iteD (fun e => ?_) (fun e => ?_) | refine iteDN (fun e => ?_) (fun e => ?_) | refine iteB (fun e => ?_) (fun e => ?_)
      · rw [if_pos e] at q
        have h1 := mixed_nn c k
        have h2 := mixed_lt c k
        repeat (first | refine ⟨_, rfl, ?_⟩ | refine ⟨(by show (0 : Int) < _; decide), ?_⟩ | refine ⟨⟨by decide, by decide⟩, ?_⟩ | refine ⟨.inr ⟨by decide, by decide⟩, ?_⟩ | refine ⟨.inl ⟨by decide, by decide⟩, ?_⟩ | refine ⟨⟨by decide, by decide, by decide⟩, ?_⟩ | refine ⟨_, _, rfl, rfl, ?_⟩ | refine ⟨rfl, _, rfl, ?_⟩)
        refine ⟨.inl ⟨by omega, by omega⟩, ?_⟩
        exact q
      · rw [if_neg e] at q
        repeat (first | refine ⟨_, rfl, ?_⟩ | refine ⟨(by show (0 : Int) < _; decide), ?_⟩ | refine ⟨⟨by decide, by decide⟩, ?_⟩ | refine ⟨.inr ⟨by decide, by decide⟩, ?_⟩ | refine ⟨.inl ⟨by decide, by decide⟩, ?_⟩ | refine ⟨⟨by decide, by decide, by decide⟩, ?_⟩ | refine ⟨_, _, rfl, rfl, ?_⟩ | refine ⟨rfl, _, rfl, ?_⟩)
        exact q
/-! the kinds: a value that stands already is moved on -/
def nxt (v : Int) : Int := v % 1000 + 1
def itn (v : Int) (j : Nat) : Int := (v - 1 + j) % 1000 + 1
theorem itn_zero {v : Int} (h1 : 1 ≤ v) (h2 : v ≤ 1000) : itn v 0 = v := by unfold itn; omega
theorem itn_succ (v : Int) (j : Nat) : itn v (j + 1) = nxt (itn v j) := by unfold itn nxt; omega
theorem itn_in (v : Int) (j : Nat) : 1 ≤ itn v j ∧ itn v j ≤ 1000 := by unfold itn; omega
theorem itn_inj {v : Int} {i j : Nat} (hi : i < 1000) (hj : j < 1000) (h : itn v i = itn v j) : i = j := by unfold itn at h; omega
theorem escape : ∀ (n : Nat) (ks : List Int) (f : Nat → Int), ks.length = n → (∀ i j, i ≤ n → j ≤ n → f i = f j → i = j) → ∃ j, j ≤ n ∧ f j ∉ ks
  | 0, ks, f, hl, _ => ⟨0, Nat.le_refl _, by rw [List.length_eq_zero_iff.mp hl]; simp⟩
  | n + 1, ks, f, hl, hf => by
    by_cases h : f 0 ∈ ks
    · obtain ⟨j, hj, hn⟩ := escape n (ks.erase (f 0)) (fun i => f (i + 1)) (by rw [List.length_erase_of_mem h]; omega) fun i j hi hj e => by
        have := hf (i + 1) (j + 1) (by omega) (by omega) e
        omega
      refine ⟨j + 1, by omega, fun z => hn ?_⟩
      refine (List.mem_erase_of_ne fun e => ?_).mpr z
      have := hf (j + 1) 0 (by omega) (by omega) e
      omega
    · exact ⟨0, Nat.zero_le _, h⟩
theorem free_at {ks : List Int} (v : Int) (h : ks.length < 1000) : ∃ j, itn v j ∉ ks := by
  obtain ⟨j, _, hn⟩ := escape ks.length ks (itn v) rfl fun i j hi hj e => itn_inj (by omega) (by omega) e
  exact ⟨j, hn⟩
theorem least {p : Nat → Prop} (h : ∃ j, p j) : ∃ j, p j ∧ ∀ i, i < j → ¬ p i := by
  obtain ⟨j, hj⟩ := h
  induction j using Nat.strongRecOn with
  | _ j ih =>
    by_cases z : ∃ i, i < j ∧ p i
    · obtain ⟨i, hi, hp⟩ := z
      exact ih i hi hp
    · exact ⟨j, hj, fun i hi hp => z ⟨i, hi, hp⟩⟩
def dkv (ks : List Int) : List (Key × V) := ks.map fun k => (Sum.inl k, V.bl true)
theorem dkv_none {ks : List Int} {k : Int} (h : k ∉ ks) : valV (dkv ks) (Sum.inl k) = none := by
  cases e : valV (dkv ks) (Sum.inl k) with
  | none => rfl
  | some v =>
    have := valV_in e
    unfold dkv at this
    rw [List.map_map] at this
    obtain ⟨x, hx, ex⟩ := List.mem_map.mp this
    cases ex
    exact absurd hx h
theorem dkv_some {ks : List Int} {k : Int} (h : k ∈ ks) : ∃ v, valV (dkv ks) (Sum.inl k) = some v := by
  cases e : valV (dkv ks) (Sum.inl k) with
  | some v => exact ⟨v, rfl⟩
  | none =>
    refine absurd ?_ (valV_not e)
    unfold dkv
    rw [List.map_map]
    exact List.mem_map.mpr ⟨k, h, rfl⟩
theorem dkv_put {ks : List Int} {k : Int} (h : k ∉ ks) : putK (dkv ks) (Sum.inl k) (V.bl true) = dkv (ks ++ [k]) := by
  rw [putK_new _ (dkv_none h)]
  unfold dkv
  rw [List.map_append]
  rfl
def spPairs (K : PySem.W.Frag) : Sp := fun vs H Q _ => ∃ (a : Addr) (ns : List Int), vs = [.ref a] ∧ SqL K H a (ns.map V.int) ∧
  ∀ p xs ps H2, Ex H H2 → H p = none → H2 p = some (.lst xs) → Prs H2 xs ps → Drawn ps → 1 ≤ ps.length → ps.length ≤ 10 → Q (.ref p) H2
theorem ok_pairs (T : Tx K mg) : FnOk P w K mg base CX0 3 T.a__law_pairs T.d__law_pairs P__law_pairs (spPairs K) := by
  have G__law_cell_at := ok_cell_at (P := P) (w := w) (base := base) T
  have G__law_value := ok_value (P := P) (w := w) (base := base) T
  have G__law_count := ok_count (P := P) (w := w) (base := base) T
  refine T.f__law_pairs.ok sc__law_pairs (fun vs H Q E h => ?_) (fun cdv A outer s H vs Q E hr h => ?_)
  · obtain ⟨a, ns, rfl, _⟩ := h
    rfl
  · obtain ⟨a, ns, rfl, hS, q⟩ := h
    refine ⟨_, (pss_cons (ps_set (i := 1) sc__law_pairs.nd rfl (.inl rfl) (pe_call G__law_cell_at (hr.mono (by decide)) (by rfl) T.g__law_cell_at T.f__law_cell_at.kp T.p__law_cell_at .nil pass0 (pa_cons (pv 0) (pa_cons pe_int pa_nil))))
    (pss_cons (ps_set (i := 2) sc__law_pairs.nd rfl (.inl rfl) (pe_op op_add pe_int (pe_op op_mod (pv 1) pe_int)))
    (Evl.pss_cut (ps_if (pt_cmpR op_eq (pe_op op_mod (pe_op op_fdiv (pv 1) pe_int) pe_int) pe_int (nomark _))
      (pss_one (ps_set (i := 2) sc__law_pairs.nd rfl (.inl rfl) (pe_op op_add pe_int (pe_op op_mod (pe_op op_fdiv (pv 1) pe_int) pe_int))))
      pss_nil)
    (pss_cons (ps_set (i := 3) sc__law_pairs.nd rfl (.inl rfl) (pe_lst pa_nil))
    (pss_cons (ps_set (i := 4) sc__law_pairs.nd rfl (.inl rfl) pe_dnewK)
    (pss_cons (ps_for PassesOwn.never rfl (pi_range1 (by rfl) T.m_range (pa_cons (pv 2) pa_nil)) (pg_name (i := 5) sc__law_pairs.nd rfl (.inl rfl))
      (pss_cons (ps_set (i := 6) sc__law_pairs.nd rfl (.inl rfl) (pe_call G__law_value (hr.mono (by decide)) (by rfl) T.g__law_value T.f__law_value.kp T.p__law_value .nil pass0 (pa_cons (pe_call G__law_cell_at (hr.mono (by decide)) (by rfl) T.g__law_cell_at T.f__law_cell_at.kp T.p__law_cell_at .nil pass0 (pa_cons (pv 0) (pa_cons pe_int pa_nil))) (pa_cons (pe_op op_add (pv 5) pe_int) pa_nil))))
      (pss_cons (ps_while PassesOwn.never (pt_cmp (pc_din (hu_of hr) (pv 6) (pv 4)))
        (pss_one (ps_set (i := 6) sc__law_pairs.nd rfl (.inl rfl) (pe_op op_add (pe_op op_mod (pv 6) pe_int) pe_int))))
      (pss_cons (ps_dput (hu_of hr) (pv 4) (pv 6) pe_bl rfl)
      (pss_one (ps_expr (pe_bm PySem.F.plainAttrs_list PySem.F.slot_list_append PySem.F.type_list_append mt_append (pv 3) (pa_cons (pe_tup (pa_cons (pv 6) (pa_cons (pe_call G__law_count (hr.mono (by decide)) (by rfl) T.g__law_count T.f__law_count.kp T.p__law_count .nil pass0 (pa_cons (pe_call G__law_cell_at (hr.mono (by decide)) (by rfl) T.g__law_cell_at T.f__law_cell_at.kp T.p__law_cell_at .nil pass0 (pa_cons (pv 0) (pa_cons pe_int pa_nil))) (pa_cons (pe_op op_add (pv 5) pe_int) pa_nil))) pa_nil))) pa_nil))))))))
    (pss_one (ps_ret (pv 3))))))))), ?_⟩
    refine ⟨_, rfl, a, ns, 0, rfl, hS, ?_⟩
    repeat (first | refine ⟨_, rfl, ?_⟩ | refine ⟨(by show (0 : Int) < _; decide), ?_⟩ | refine ⟨⟨by decide, by decide⟩, ?_⟩ | refine ⟨.inr ⟨by decide, by decide⟩, ?_⟩ | refine ⟨.inl ⟨by decide, by decide⟩, ?_⟩ | refine ⟨⟨by decide, by decide, by decide⟩, ?_⟩ | refine ⟨_, _, rfl, rfl, ?_⟩ | refine ⟨rfl, _, rfl, ?_⟩)
    refine ⟨fun σ' H' => ∃ m : Int, 1 ≤ m ∧ m ≤ 10 ∧ σ' = [some (.ref a), some (.int (cell ns 0)), some (.int m), none, none, none, none] ∧ H' = H, ?_, ?_⟩
    · repeat (first | refine ⟨_, rfl, ?_⟩ | refine ⟨(by show (0 : Int) < _; decide), ?_⟩ | refine ⟨⟨by decide, by decide⟩, ?_⟩ | refine ⟨.inr ⟨by decide, by decide⟩, ?_⟩ | refine ⟨.inl ⟨by decide, by decide⟩, ?_⟩ | refine ⟨⟨by decide, by decide, by decide⟩, ?_⟩ | refine ⟨_, _, rfl, rfl, ?_⟩ | refine ⟨rfl, _, rfl, ?_⟩)
      first | refine iteVI (fun e => ?_) (fun e => ?_) | refine iteVN (fun e => ?_) (fun e => ?_) | refine iteD (fun e => ?_) (fun e => ?_) | refine iteDN (fun e => ?_) (fun e => ?_) | refine iteB (fun e => ?_) (fun e => ?_)
      · repeat (first | refine ⟨_, rfl, ?_⟩ | refine ⟨(by show (0 : Int) < _; decide), ?_⟩ | refine ⟨⟨by decide, by decide⟩, ?_⟩ | refine ⟨.inr ⟨by decide, by decide⟩, ?_⟩ | refine ⟨.inl ⟨by decide, by decide⟩, ?_⟩ | refine ⟨⟨by decide, by decide, by decide⟩, ?_⟩ | refine ⟨_, _, rfl, rfl, ?_⟩ | refine ⟨rfl, _, rfl, ?_⟩)
        exact ⟨_, by omega, by omega, rfl, rfl⟩
      · exact ⟨_, by omega, by omega, rfl, rfl⟩
    rintro σ' H' ⟨m, hm1, hm2, rfl, rfl⟩
    refine ⟨Nat.zero_le _, fun f hf d hd => ?_⟩
    have nfd : d ≠ f := fun e => by rw [e, upd_same] at hd; cases hd
    have hd' : H' d = none := by rw [upd_ne nfd] at hd; exact hd
    refine ⟨_, rfl, m, rfl, by omega, by omega, ?_⟩
    refine for_range (fun i σ H => ∃ xs ps y5 y6, σ = [some (.ref a), some (.int (cell ns 0)), some (.int m), some (.ref f), some (.ref d), y5, y6] ∧ Ex H' H ∧ H f = some (.lst xs) ∧ H d = some (.dK (dkv (ps.map (·.1)))) ∧ Prs H xs ps ∧ Drawn ps ∧ ps.length = i)
      ⟨[], [], none, none, rfl, Ex.mu (Ex.nw hf) hd', by rw [upd_ne nfd.symm, upd_same], by rw [upd_same]; rfl, .nil, ⟨by simp, by simp, by simp⟩, rfl⟩ ?_ ?_
    · rintro i σ H hi ⟨xs, ps, y5, y6, rfl, ex, ef, ed, hp, dr, hlen⟩
      have hi' : i < 10 := by omega
      -- _law_value_here = _law_value(..)
      refine ⟨_, rfl, a, ns, 1, rfl, ex.seq hS, ?_⟩
      repeat (first | refine ⟨_, rfl, ?_⟩ | refine ⟨(by show (0 : Int) < _; decide), ?_⟩ | refine ⟨⟨by decide, by decide⟩, ?_⟩ | refine ⟨.inr ⟨by decide, by decide⟩, ?_⟩ | refine ⟨.inl ⟨by decide, by decide⟩, ?_⟩ | refine ⟨⟨by decide, by decide, by decide⟩, ?_⟩ | refine ⟨_, _, rfl, rfl, ?_⟩ | refine ⟨rfl, _, rfl, ?_⟩)
      refine ⟨_, _, rfl, ⟨by omega, by omega⟩, fun H2 e2 => ?_⟩
      have ex2 : Ex H' H2 := Ex.tr ex e2
      have ef2 := e2 _ _ ef
      have ed2 := e2 _ _ ed
      have hp2 : Prs H2 xs ps := hp.ex e2
      have hv := value_in (cell ns 1) (0 + (i : Int) + 1)
      generalize hvv : value (cell ns 1) (0 + (i : Int) + 1) = v0 at hv
      obtain ⟨j, hj, hmin⟩ := least (free_at (ks := ps.map (·.1)) v0 (by rw [List.length_map]; omega))
      -- the while
      refine ⟨fun n σ H => ∃ k, k + n = j ∧ σ = [some (.ref a), some (.int (cell ns 0)), some (.int m), some (.ref f), some (.ref d), some (.int (0 + (i : Int))), some (.int (itn v0 k))] ∧ H = H2,
        ⟨j, 0, by omega, by rw [itn_zero hv.1 hv.2]; rfl, rfl⟩, ?_⟩
      rintro n σ H3 ⟨k, hk, rfl, rfl⟩
      refine ⟨_, rfl, _, rfl, d, _, rfl, DGet.k (k := Sum.inl (itn v0 k)) ed2, _, rfl, ?_⟩
      by_cases hn : n = 0
      · -- it is free
        have hkj : k = j := by omega
        subst hkj
        rw [dkv_none hj]
        refine iteF ?_
        -- _law_seen[v] = True
        refine ⟨_, rfl, _, rfl, d, _, rfl, DPut.k (k := Sum.inl (itn v0 k)) ed2 ?_, ?_⟩
        · unfold dkv
          rw [List.length_map, List.length_map]
          exact len63' (by omega)
        rw [dkv_put hj]
        have ef3 : (upd H3 d (.dK (dkv (ps.map (·.1) ++ [itn v0 k])))) f = some (.lst xs) := by rw [upd_ne nfd.symm]; exact ef2
        have ex3 : Ex H' (upd H3 d (.dK (dkv (ps.map (·.1) ++ [itn v0 k])))) := Ex.mu ex2 hd'
        have hp3 : Prs (upd H3 d (.dK (dkv (ps.map (·.1) ++ [itn v0 k])))) xs ps := hp2.up (by intro ys z; rw [ed2] at z; cases z)
        -- _law_found.append((v, _law_count(..)))
        refine ⟨_, rfl, .inl ⟨rfl, xs, .of ef3⟩, ?_⟩
        refine ⟨_, rfl, _, rfl, a, ns, 2, rfl, ex3.seq hS, ?_⟩
        repeat (first | refine ⟨_, rfl, ?_⟩ | refine ⟨(by show (0 : Int) < _; decide), ?_⟩ | refine ⟨⟨by decide, by decide⟩, ?_⟩ | refine ⟨.inr ⟨by decide, by decide⟩, ?_⟩ | refine ⟨.inl ⟨by decide, by decide⟩, ?_⟩ | refine ⟨⟨by decide, by decide, by decide⟩, ?_⟩ | refine ⟨_, _, rfl, rfl, ?_⟩ | refine ⟨rfl, _, rfl, ?_⟩)
        refine ⟨_, _, rfl, ⟨by omega, by omega⟩, ?_⟩
        refine ⟨len63 (by show 2 ≤ _; decide), fun t ht => ?_⟩
        have ntf : f ≠ t := ne_of_none ef3 ht
        have ntd : d ≠ t := ne_of_none upd_same ht
        refine ⟨f, xs, _, rfl, rfl, by rw [upd_ne ntf]; exact ef3, len63' (by rw [hp3.len]; omega), ?_⟩
        refine ⟨xs ++ [.ref t], ps ++ [(itn v0 k, count (cell ns 2) (0 + (i : Int) + 1))], _, _, rfl, Ex.mu (ex3.tr (Ex.nw ht)) hf, upd_same, ?_, ?_, ?_, by rw [List.length_append, hlen]; rfl⟩
        · rw [upd_ne nfd, upd_ne ntd, upd_same, List.map_append]
          rfl
        · refine Prs.up (by intro ys z; rw [upd_ne ntf, ef3] at z; cases z) ?_
          exact Prs.snoc (hp3.ex (Ex.nw ht)) ⟨t, rfl, upd_same⟩
        · have hc := count_in (cell ns 2) (0 + (i : Int) + 1)
          refine ⟨?_, fun p hp => ?_, fun p hp => ?_⟩
          · rw [List.map_append]
            exact nd_snoc dr.nd hj
          · rcases List.mem_append.mp hp with h | h
            · exact dr.val p h
            · rw [List.mem_singleton.mp h]; exact itn_in v0 k
          · rcases List.mem_append.mp hp with h | h
            · exact dr.cnt p h
            · rw [List.mem_singleton.mp h]; exact hc
      · have hin : itn v0 k ∈ ps.map (·.1) := by
          by_cases z : itn v0 k ∈ ps.map (·.1)
          · exact z
          · exact absurd z (hmin k (by omega))
        obtain ⟨v, ev⟩ := dkv_some hin
        rw [ev]
        refine iteT ⟨fun σ' H'' => ∃ n', n' < n ∧ ∃ k', k' + n' = j ∧ σ' = [some (.ref a), some (.int (cell ns 0)), some (.int m), some (.ref f), some (.ref d), some (.int (0 + (i : Int))), some (.int (itn v0 k'))] ∧ H'' = H3, fun _ _ z => z, ?_⟩
        repeat (first | refine ⟨_, rfl, ?_⟩ | refine ⟨(by show (0 : Int) < _; decide), ?_⟩ | refine ⟨⟨by decide, by decide⟩, ?_⟩ | refine ⟨.inr ⟨by decide, by decide⟩, ?_⟩ | refine ⟨.inl ⟨by decide, by decide⟩, ?_⟩ | refine ⟨⟨by decide, by decide, by decide⟩, ?_⟩ | refine ⟨_, _, rfl, rfl, ?_⟩ | refine ⟨rfl, _, rfl, ?_⟩)
        exact ⟨n - 1, by omega, k + 1, by omega, by rw [itn_succ]; rfl, rfl⟩
    · rintro σ H ⟨xs, ps, y5, y6, rfl, ex, ef, ed, hp, dr, hlen⟩
      refine ⟨_, rfl, q f xs ps H ex hf ef hp dr (by omega) (by omega)⟩
/-! ### the table, by itself: rows of fewest pieces -/
abbrev Cell := Option Int
def rAt (r : List Cell) (i : Nat) : Cell := r.getD i none
theorem rAt_lt {r : List Cell} {i : Nat} (h : i < r.length) : r[i]? = some (rAt r i) := by
  unfold rAt
  rw [List.getD_eq_getElem?_getD, List.getElem?_eq_getElem h]
  rfl
theorem rAt_map {f : Nat → Cell} {n i : Nat} (h : i < n) : rAt ((List.range n).map f) i = f i := by
  unfold rAt
  rw [List.getD_eq_getElem?_getD, List.getElem?_map, List.getElem?_range h]
  rfl
theorem row_ext {r : List Cell} {n : Nat} {f : Nat → Cell} (hl : r.length = n) (h : ∀ i, i < n → rAt r i = f i) : r = (List.range n).map f := by
  apply List.ext_getElem?
  intro i
  by_cases hi : i < n
  · rw [rAt_lt (by omega), h i hi, List.getElem?_map, List.getElem?_range hi]
    rfl
  · rw [List.getElem?_eq_none (by omega), List.getElem?_eq_none (by rw [List.length_map, List.length_range]; omega)]
/-- a place, given what stands there and what stands ahead by some pieces -/
def bund (o few : Cell) (s : Int) : Cell :=
  match few with
  | none => o
  | some x => match o with
    | none => some (x + s)
    | some y => if x + s < y then some (x + s) else some y
theorem bund_some {o : Cell} {x s : Int} : ∃ m, bund o (some x) s = some m ∧ m ≤ x + s := by
  cases o with
  | none => exact ⟨_, rfl, by omega⟩
  | some y =>
    by_cases h : x + s < y
    · exact ⟨x + s, if_pos h, by omega⟩
    · exact ⟨y, if_neg h, by omega⟩
theorem bund_le {few : Cell} {y s : Int} : ∃ m, bund (some y) few s = some m ∧ m ≤ y := by
  cases few with
  | none => exact ⟨_, rfl, by omega⟩
  | some x =>
    by_cases h : x + s < y
    · exact ⟨x + s, if_pos h, by omega⟩
    · exact ⟨y, if_neg h, by omega⟩
theorem bund_or {o few : Cell} {s m : Int} (h : bund o few s = some m) : o = some m ∨ ∃ x, few = some x ∧ m = x + s := by
  cases few with
  | none => exact .inl h
  | some x =>
    cases o with
    | none => exact .inr ⟨x, rfl, (Option.some.inj h).symm⟩
    | some y =>
      by_cases z : x + s < y
      · have e : bund (some y) (some x) s = some (x + s) := if_pos z
        rw [e] at h
        exact .inr ⟨x, rfl, (Option.some.inj h).symm⟩
      · have e : bund (some y) (some x) s = some y := if_neg z
        rw [e] at h
        exact .inl h
/-- o is the least over up to n pieces of v on top of the row r, at the place d -/
def Lst (r : List Cell) (v n d : Nat) (o : Cell) : Prop :=
  (∀ (j : Nat) (x : Int), j ≤ n → j * v ≤ d → rAt r (d - j * v) = some x → ∃ m, o = some m ∧ m ≤ x + j) ∧
  (∀ m, o = some m → ∃ (j : Nat) (x : Int), j ≤ n ∧ j * v ≤ d ∧ rAt r (d - j * v) = some x ∧ m = x + j)
theorem Lst.uniq {r : List Cell} {v n d : Nat} {o p : Cell} (h : Lst r v n d o) (k : Lst r v n d p) : o = p := by
  obtain ⟨h1, h2⟩ := h
  obtain ⟨k1, k2⟩ := k
  cases o with
  | none =>
    cases p with
    | none => rfl
    | some m =>
      obtain ⟨j, x, a, b, c, _⟩ := k2 m rfl
      obtain ⟨_, z, _⟩ := h1 j x a b c
      cases z
  | some m =>
    obtain ⟨j, x, a, b, c, e⟩ := h2 m rfl
    obtain ⟨q, rfl, le1⟩ := k1 j x a b c
    obtain ⟨j', x', a', b', c', e'⟩ := k2 q rfl
    obtain ⟨m', em, le2⟩ := h1 j' x' a' b' c'
    cases em
    have : m = q := by omega
    rw [this]
theorem Lst.cut {r : List Cell} {v n m d : Nat} {o : Cell} (h : Lst r v n d o) (hm : ∀ j, j * v ≤ d → (j ≤ n ↔ j ≤ m)) : Lst r v m d o :=
  ⟨fun j x a b c => h.1 j x ((hm j b).mpr a) b c, fun q e => let ⟨j, x, a, b, c, z⟩ := h.2 q e; ⟨j, x, (hm j b).mp a, b, c, z⟩⟩
theorem Lst.zero {r : List Cell} {v d : Nat} : Lst r v 0 d (rAt r d) := by
  refine ⟨fun j x a b c => ?_, fun m e => ⟨0, m, Nat.le_refl _, by omega, by simpa using e, by simp⟩⟩
  have hj : j = 0 := by omega
  subst hj
  exact ⟨x, by simpa using c, by simp⟩
/-- s pieces more at once, where s is one more than before at most -/
theorem Lst.more {r : List Cell} {v n d s : Nat} {o p : Cell} (h : Lst r v n d o) (hp : s * v ≤ d → Lst r v n (d - s * v) p) (hs : s ≤ n + 1) :
    Lst r v (n + s) d (if s * v ≤ d then bund o p s else o) := by
  by_cases hd : s * v ≤ d
  · rw [if_pos hd]
    obtain ⟨h1, h2⟩ := h
    obtain ⟨p1, p2⟩ := hp hd
    refine ⟨fun j x a b c => ?_, fun m e => ?_⟩
    · by_cases hj : j ≤ n
      · obtain ⟨m, rfl, le⟩ := h1 j x hj b c
        obtain ⟨q, e, le'⟩ := bund_le (few := p) (y := m) (s := s)
        exact ⟨q, e, by omega⟩
      · have e1 : (j - s) * v = j * v - s * v := Nat.sub_mul ..
        have e2 : s * v ≤ j * v := Nat.mul_le_mul_right _ (by omega)
        obtain ⟨m, rfl, le⟩ := p1 (j - s) x (by omega) (by omega) (by rw [show d - s * v - (j - s) * v = d - j * v by omega]; exact c)
        obtain ⟨q, e, le'⟩ := bund_some (o := o) (x := m) (s := s)
        exact ⟨q, e, by omega⟩
    · rcases bund_or e with rfl | ⟨y, rfl, rfl⟩
      · obtain ⟨j, x, a, b, c, z⟩ := h2 m rfl
        exact ⟨j, x, by omega, b, c, z⟩
      · obtain ⟨j, x, a, b, c, z⟩ := p2 y rfl
        have e1 : (j + s) * v = j * v + s * v := Nat.add_mul ..
        exact ⟨j + s, x, by omega, by omega, by rw [show d - (j + s) * v = d - s * v - j * v by omega]; exact c, by omega⟩
  · rw [if_neg hd]
    refine h.cut fun j hj => ⟨fun _ => by omega, fun hle => ?_⟩
    by_cases hjn : j ≤ n
    · exact hjn
    · exfalso
      have : s * v ≤ j * v := Nat.mul_le_mul_right _ (by omega)
      omega
/-- a bundle of s pieces worth a -/
def withBundle (r : List Cell) (a s : Nat) : List Cell := (List.range r.length).map fun d => if a ≤ d then bund (rAt r d) (rAt r (d - a)) s else rAt r d
theorem withBundle_len (r : List Cell) (a s : Nat) : (withBundle r a s).length = r.length := by
  unfold withBundle
  rw [List.length_map, List.length_range]
/-- each size is one more than what is ahead at most -/
def Steps : Nat → List Nat → Prop
  | _, [] => True
  | n, s :: r => s ≤ n + 1 ∧ Steps (n + s) r
theorem steps_snoc : ∀ {l : List Nat} {n s : Nat}, Steps n l → s ≤ n + l.sum + 1 → Steps n (l ++ [s])
  | [], n, s, _, h => ⟨by simpa using h, trivial⟩
  | a :: l, n, s, ⟨h1, h2⟩, h => ⟨h1, steps_snoc h2 (by rw [List.sum_cons] at h; omega)⟩
theorem fold_lst {r : List Cell} {v : Nat} : ∀ {l : List Nat} {n : Nat} {o : List Cell}, Steps n l → o.length = r.length → (∀ d, d < r.length → Lst r v n d (rAt o d)) →
    (l.foldl (fun o s => withBundle o (s * v) s) o).length = r.length ∧ ∀ d, d < r.length → Lst r v (n + l.sum) d (rAt (l.foldl (fun o s => withBundle o (s * v) s) o) d)
  | [], n, o, _, hl, h => ⟨hl, by simpa using h⟩
  | s :: l, n, o, ⟨hs, hst⟩, hl, h => by
    have h' : ∀ d, d < r.length → Lst r v (n + s) d (rAt (withBundle o (s * v) s) d) := by
      intro d hd
      unfold withBundle
      rw [rAt_map (by omega)]
      exact (h d hd).more (fun hle => h _ (by omega)) hs
    have := fold_lst (l := l) hst (by rw [withBundle_len, hl]) h'
    rw [List.foldl_cons, List.sum_cons]
    rw [show n + (s + l.sum) = n + s + l.sum by omega]
    exact this
/-- the least, count by count, as it is walked -/
def leastUp (r : List Cell) (v d : Nat) : Nat → Cell
  | 0 => none
  | i + 1 => bund (leastUp r v d i) (rAt r (d - i * v)) i
theorem leastUp_lst {r : List Cell} {v d : Nat} : ∀ {i : Nat}, i * v ≤ d → Lst r v i d (leastUp r v d (i + 1))
  | 0, _ => by
    have e : leastUp r v d 1 = rAt r d := by
      show bund none (rAt r (d - 0 * v)) ((0 : Nat) : Int) = rAt r d
      rw [Nat.zero_mul, Nat.sub_zero]
      cases rAt r d with
      | none => rfl
      | some x => show some (x + 0) = some x; rw [Int.add_zero]
    rw [e]
    exact Lst.zero
  | i + 1, h => by
    have h0 : i * v ≤ d := Nat.le_trans (Nat.mul_le_mul_right _ (by omega)) h
    obtain ⟨h1, h2⟩ := leastUp_lst (r := r) h0
    show Lst r v (i + 1) d (bund (leastUp r v d (i + 1)) (rAt r (d - (i + 1) * v)) ((i + 1 : Nat) : Int))
    refine ⟨fun j x a b c => ?_, fun m e => ?_⟩
    · by_cases hj : j ≤ i
      · obtain ⟨m, e, le⟩ := h1 j x hj b c
        rw [e]
        obtain ⟨q, e', le'⟩ := bund_le (few := rAt r (d - (i + 1) * v)) (y := m) (s := ((i + 1 : Nat) : Int))
        exact ⟨q, e', by omega⟩
      · have hj' : j = i + 1 := by omega
        subst hj'
        rw [c]
        exact bund_some
    · rcases bund_or e with z | ⟨y, z, rfl⟩
      · obtain ⟨j, x, a, b, c, z⟩ := h2 m z
        exact ⟨j, x, by omega, b, c, z⟩
      · exact ⟨i + 1, y, Nat.le_refl _, h, z, rfl⟩
def leastF (r : List Cell) (v c d : Nat) : Cell := leastUp r v d (min c (d / v) + 1)
theorem leastF_lst {r : List Cell} {v c d : Nat} (hv : 0 < v) : Lst r v c d (leastF r v c d) := by
  have h1 : min c (d / v) * v ≤ d := Nat.le_trans (Nat.mul_le_mul_right _ (Nat.min_le_right ..)) (Nat.div_mul_le_self ..)
  refine (leastUp_lst h1).cut fun j hj => ?_
  have : j ≤ d / v := (Nat.le_div_iff_mul_le hv).mpr hj
  omega
/-- the next row -/
def nextRow (r : List Cell) (v c : Nat) : List Cell := (List.range r.length).map (leastF r v c)
theorem nextRow_len (r : List Cell) (v c : Nat) : (nextRow r v c).length = r.length := by
  unfold nextRow
  rw [List.length_map, List.length_range]
theorem fold_next {r : List Cell} {v c : Nat} {l : List Nat} (hv : 0 < v) (hst : Steps 0 l) (hsum : l.sum = min c ((r.length - 1) / v)) : l.foldl (fun o s => withBundle o (s * v) s) r = nextRow r v c := by
  obtain ⟨h1, h2⟩ := fold_lst (r := r) (v := v) hst rfl fun d _ => Lst.zero
  refine row_ext h1 fun d hd => ?_
  refine Lst.uniq ((h2 d hd).cut (m := c) fun j hj => ?_) (leastF_lst hv)
  have : j ≤ (r.length - 1) / v := (Nat.le_div_iff_mul_le hv).mpr (by omega)
  omega
/-- the rows of a till -/
def rowsOf (r : List Cell) : List (Int × Int) → List (List Cell)
  | [] => [r]
  | p :: ps => r :: rowsOf (nextRow r p.1.toNat p.2.toNat) ps
def row0 (n : Nat) : List Cell := some 0 :: List.replicate n none
theorem row0_len (n : Nat) : (row0 n).length = n + 1 := by simp [row0]
def lastRow (r : List Cell) : List (Int × Int) → List Cell
  | [] => r
  | p :: ps => lastRow (nextRow r p.1.toNat p.2.toNat) ps
theorem lastRow_snoc (r : List Cell) (p : Int × Int) : ∀ ps : List (Int × Int), lastRow r (ps ++ [p]) = nextRow (lastRow r ps) p.1.toNat p.2.toNat := by
  intro ps
  induction ps generalizing r with
  | nil => rfl
  | cons q ps ih => exact ih _
theorem rowsOf_snoc (r : List Cell) (p : Int × Int) : ∀ ps : List (Int × Int), rowsOf r (ps ++ [p]) = rowsOf r ps ++ [lastRow r (ps ++ [p])] := by
  intro ps
  induction ps generalizing r with
  | nil => rfl
  | cons q ps ih => show r :: rowsOf _ (ps ++ [p]) = r :: rowsOf _ ps ++ [lastRow _ (ps ++ [p])]; rw [ih]; rfl
theorem rowsOf_len (r : List Cell) (ps : List (Int × Int)) : (rowsOf r ps).length = ps.length + 1 := by
  induction ps generalizing r with
  | nil => rfl
  | cons q ps ih => show (rowsOf _ ps).length + 1 = _; rw [ih]; rfl
theorem rowsOf_at (r : List Cell) (ps : List (Int × Int)) : ∀ k, k ≤ ps.length → (rowsOf r ps)[k]? = some (lastRow r (ps.take k)) := by
  induction ps generalizing r with
  | nil => intro k hk; have : k = 0 := by simpa using hk
           subst this; rfl
  | cons q ps ih =>
    intro k hk
    cases k with
    | zero => rfl
    | succ k =>
      show (rowsOf _ ps)[k]? = some (lastRow _ (ps.take k))
      exact ih _ k (by simpa using hk)
theorem lastRow_len (r : List Cell) (ps : List (Int × Int)) : (lastRow r ps).length = r.length := by
  induction ps generalizing r with
  | nil => rfl
  | cons q ps ih => show (lastRow _ ps).length = _; rw [ih, nextRow_len]
/-! ### the table, as it is built -/
/-! ### rows as lists -/
def vO : Cell → V
  | none => .non
  | some i => .int i
theorem vO_at {r : List Cell} {i : Nat} (h : i < r.length) : (r.map vO)[i]? = some (vO (rAt r i)) := by
  rw [List.getElem?_map, rAt_lt h]
  rfl
def Row (K : PySem.W.Frag) (H : Hp) (a : Addr) (r : List Cell) : Prop := SqL K H a (r.map vO)
/-- the rows, each a list of its own -/
def RowsAt (H : Hp) : List Addr → List (List Cell) → Prop := Paired fun a r => H a = some (.lst (r.map vO))
theorem RowsAt.ex {H H' : Hp} (e : Ex H H') : ∀ {as : List Addr} {rs : List (List Cell)}, RowsAt H as rs → RowsAt H' as rs
  | _, _, .nil => .nil
  | _, _, .cons h r => .cons (e _ _ h) (RowsAt.ex e r)
theorem RowsAt.len {H : Hp} {as : List Addr} {rs : List (List Cell)} (h : RowsAt H as rs) : as.length = rs.length := Paired.length h
theorem RowsAt.snoc {H : Hp} : ∀ {as : List Addr} {rs : List (List Cell)} {a : Addr} {r : List Cell}, RowsAt H as rs → H a = some (.lst (r.map vO)) → RowsAt H (as ++ [a]) (rs ++ [r])
  | _, _, _, _, .nil, h => .cons h .nil
  | _, _, _, _, .cons b r, h => .cons b (RowsAt.snoc r h)
theorem RowsAt.get {H : Hp} : ∀ {as : List Addr} {rs : List (List Cell)} {i : Nat} {r : List Cell}, RowsAt H as rs → rs[i]? = some r → ∃ a, as[i]? = some a ∧ H a = some (.lst (r.map vO))
  | _, _, i, _, .nil, e => by simp at e
  | _, _, 0, _, .cons h _, e => by simp at e; subst e; exact ⟨_, by simp, h⟩
  | _, _, i + 1, _, .cons _ r, e => by
    obtain ⟨a, h1, h2⟩ := RowsAt.get (i := i) r (by simpa using e)
    exact ⟨a, by simpa using h1, h2⟩
theorem RowsAt.getA {H : Hp} : ∀ {as : List Addr} {rs : List (List Cell)} {i : Nat} {a : Addr}, RowsAt H as rs → as[i]? = some a → ∃ r, rs[i]? = some r ∧ H a = some (.lst (r.map vO))
  | _, _, i, _, .nil, e => by simp at e
  | _, _, 0, _, .cons h _, e => by simp at e; subst e; exact ⟨_, by simp, h⟩
  | _, _, i + 1, _, .cons _ r, e => by
    obtain ⟨x, h1, h2⟩ := RowsAt.getA (i := i) r (by simpa using e)
    exact ⟨x, by simpa using h1, h2⟩
theorem RowsAt.up {H : Hp} {f : Addr} {o : HO} : ∀ {as : List Addr} {rs : List (List Cell)}, f ∉ as → RowsAt H as rs → RowsAt (upd H f o) as rs
  | _, _, _, .nil => .nil
  | _, _, hf, .cons h r => .cons (by rw [upd_ne fun e => hf (by rw [← e]; exact List.mem_cons_self)]; exact h) (RowsAt.up (fun z => hf (List.mem_cons_of_mem _ z)) r)
theorem RowsAt.mem {H : Hp} : ∀ {as : List Addr} {rs : List (List Cell)} {x : Addr}, RowsAt H as rs → x ∈ as → ∃ o, H x = some o
  | a :: as, _, x, .cons h r, hx => by
    rcases List.mem_cons.mp hx with e | e
    · exact ⟨_, e ▸ h⟩
    · exact RowsAt.mem r e
/-- the table: new lists -/
def NewRows (H : Hp) (rs : List (List Cell)) (Q : VK) : Prop := ∀ R as H2, Ex H H2 → (∀ a ∈ R :: as, H a = none) → (R :: as).Nodup → H2 R = some (.lst (as.map V.ref)) → RowsAt H2 as rs → Q (.ref R) H2
theorem at_row {H : Hp} {as : List Addr} {rs : List (List Cell)} {i : Int} {k : Nat} {r : List Cell} (h : RowsAt H as rs) (hi : i = (k : Int)) (e : rs[k]? = some r) : ∃ a, atI (as.map V.ref) i = some (.ref a) ∧ as[k]? = some a ∧ H a = some (.lst (r.map vO)) := by
  obtain ⟨a, h1, h2⟩ := h.get e
  refine ⟨a, at_of hi ?_, h1, h2⟩
  rw [List.getElem?_map, h1]
  rfl
/-- the bundle, as far as a place -/
def wbUp (r : List Cell) (A s m : Nat) : List Cell := (List.range r.length).map fun d => if A ≤ d ∧ d < m then bund (rAt r d) (rAt r (d - A)) s else rAt r d
theorem wbUp_len (r : List Cell) (A s m : Nat) : (wbUp r A s m).length = r.length := by
  show ((List.range r.length).map _).length = _
  rw [List.length_map, List.length_range]
theorem wbUp_start (r : List Cell) (A s : Nat) : wbUp r A s A = r := by
  refine (row_ext rfl fun i hi => ?_).symm
  rw [if_neg (by omega)]
theorem wbUp_end {r : List Cell} {A s m : Nat} (h : r.length ≤ m) : wbUp r A s m = withBundle r A s := by
  refine row_ext (wbUp_len ..) fun i hi => ?_
  rw [show rAt (wbUp r A s m) i = _ from rAt_map hi]
  by_cases ha : A ≤ i
  · rw [if_pos ha, if_pos ⟨ha, by omega⟩]
  · rw [if_neg ha, if_neg fun z => ha z.1]
theorem wbUp_at {r : List Cell} {A s m : Nat} (h : m < r.length) : rAt (wbUp r A s m) m = rAt r m := by
  rw [show rAt (wbUp r A s m) m = _ from rAt_map h, if_neg (by omega)]
theorem set_map {r : List Cell} {m : Nat} {c : Cell} : (r.map vO).set m (vO c) = (r.set m c).map vO := by
  rw [List.map_set]
theorem wbUp_set {r : List Cell} {A s m : Nat} {c : Cell} (hm : m < r.length) (ha : A ≤ m) (hc : c = bund (rAt r m) (rAt r (m - A)) s) : (wbUp r A s m).set m c = wbUp r A s (m + 1) := by
  apply List.ext_getElem?
  intro i
  by_cases hi : i < r.length
  · rw [rAt_lt (r := wbUp r A s (m + 1)) (by rw [wbUp_len]; exact hi), show rAt (wbUp r A s (m + 1)) i = _ from rAt_map hi]
    by_cases e : i = m
    · subst e
      rw [List.getElem?_set_self (by rw [wbUp_len]; exact hi), if_pos ⟨ha, by omega⟩, hc]
    · rw [List.getElem?_set_ne (by omega), rAt_lt (by rw [wbUp_len]; exact hi), show rAt (wbUp r A s m) i = _ from rAt_map hi]
      by_cases z : A ≤ i ∧ i < m
      · rw [if_pos z, if_pos ⟨z.1, by omega⟩]
      · rw [if_neg z, if_neg (by omega)]
  · rw [List.getElem?_eq_none (by rw [List.length_set, wbUp_len]; omega), List.getElem?_eq_none (by rw [wbUp_len]; omega)]
theorem wbUp_keep {r : List Cell} {A s m : Nat} (hm : m < r.length) (h : rAt r m = bund (rAt r m) (rAt r (m - A)) s) : wbUp r A s (m + 1) = wbUp r A s m := by
  refine row_ext (n := r.length) (wbUp_len ..) fun i hi => ?_
  rw [show rAt (wbUp r A s (m + 1)) i = _ from rAt_map hi]
  by_cases e : i = m
  · subst e
    rw [if_neg (by omega : ¬ (A ≤ i ∧ i < i))]
    split
    · exact h.symm
    · rfl
  · by_cases z : A ≤ i ∧ i < m
    · rw [if_pos z, if_pos ⟨z.1, by omega⟩]
    · rw [if_neg z, if_neg (by omega)]
/-- a new row -/
def NewRow (H : Hp) (r : List Cell) (Q : VK) : Prop := ∀ p H2, Ex H H2 → H p = none → H2 p = some (.lst (r.map vO)) → Q (.ref p) H2
def spBundle (K : PySem.W.Frag) : Sp := fun vs H Q _ => ∃ (a : Addr) (r : List Cell) (A s : Nat), vs = [.ref a, .int (A : Int), .int (s : Int)] ∧ Row K H a r ∧ r.length ≤ 2000 ∧ A ≤ 1000000 ∧ NewRow H (withBundle r A s) Q
theorem ok_with_bundle (T : Tx K mg) : FnOk P w K mg base CX0 1 T.a__with_bundle T.d__with_bundle P__with_bundle (spBundle K) := by
  refine T.f__with_bundle.ok sc__with_bundle (fun vs H Q E h => ?_) (fun cdv A outer s H vs Q E hr h => ?_)
  · obtain ⟨a, r, B, s, rfl, _⟩ := h
    rfl
  · obtain ⟨a, r, B, s, rfl, hS, hl, hB, q⟩ := h
    refine ⟨_, (pss_cons (ps_set (i := 3) sc__with_bundle.nd rfl (.inl rfl) (pe_callTy call_list_of (by rfl) T.m_list (by decide +kernel) (pa_cons (pv 0) pa_nil)))
    (pss_cons (ps_for PassesOwn.never rfl (pi_range2 (by rfl) T.m_range (pa_cons (pv 1) (pa_cons (pe_callB call_len_seq (by rfl) T.m_len (by decide +kernel) (pa_cons (pv 0) pa_nil)) pa_nil))) (pg_name (i := 4) sc__with_bundle.nd rfl (.inl rfl))
      (pss_cons (ps_set (i := 5) sc__with_bundle.nd rfl (.inl rfl) (pe_ix ix_list (pv 0) (pe_op op_sub (pv 4) (pv 1)) (fun _ _ => rfl)))
      (pss_one (ps_if (PW.pt (pw_and (pt_cmpR op_notN (pv 5) pe_non (nomark _)) (pw_and1 (PW.pt (pw_or (pt_cmpR op_isN (pe_ix ix_list (pv 3) (pv 4) (fun _ _ => rfl)) pe_non (nomark _)) (pw_or1 (pt_cmpR op_lt (pe_op op_add (pv 5) (pv 2)) (pe_ix ix_list (pv 3) (pv 4) (fun _ _ => rfl)) (nomark _))))))))
        (pss_one (ps_asg (pe_op op_add (pv 5) (pv 2)) (pg_sub (pv 3) (pv 4) set_list)))
        pss_nil))))
    (pss_one (ps_ret (pv 3))))), ?_⟩
    have hS' : SqL K H a (r.map vO) := hS
    refine ⟨_, rfl, a, _, rfl, .inl hS', fun l hl0 => ?_⟩
    have hrl : (r.map vO).length = r.length := List.length_map _
    have nal : ∀ ys, H a = some (.lst ys) → a ≠ l := fun ys z => ne_of_none z hl0
    refine ⟨_, rfl, _, rfl, a, _, rfl, .inl ((Ex.nw hl0).seq hS'), _, _, rfl, ⟨by omega, by omega, by omega, by omega⟩, ?_⟩
    refine for_range (fun i σ H' => ∃ y4 y5, σ = [some (.ref a), some (.int (B : Int)), some (.int (s : Int)), some (.ref l), y4, y5] ∧ Ex H H' ∧ H' l = some (.lst ((wbUp r B s (B + i)).map vO)))
      ⟨_, _, rfl, Ex.nw hl0, by rw [Nat.add_zero, wbUp_start]; exact upd_same⟩ ?_ ?_
    · rintro i σ H1 hi ⟨y4, y5, rfl, ex, el⟩
      have hlt : B + i < r.length := by omega
      have a1 : atI (r.map vO) ((B : Int) + (i : Int) - (B : Int)) = some (vO (rAt r i)) := at_of (j := i) (by omega) (vO_at (by omega))
      have a2 : atI ((wbUp r B s (B + i)).map vO) ((B : Int) + (i : Int)) = some (vO (rAt r (B + i))) := at_of (j := B + i) (by omega) (by
        rw [vO_at (by rw [wbUp_len]; exact hlt), wbUp_at hlt])
      have sub : B + i - B = i := by omega
      refine ⟨_, rfl, _, rfl, _, rfl, _, _, rfl, rfl, a, _, _, _, rfl, rfl, ex.seq hS', a1, ?_⟩
      have keep : bund (rAt r (B + i)) (rAt r i) (s : Int) = rAt r (B + i) → wbUp r B s (B + (i + 1)) = wbUp r B s (B + i) := fun z => wbUp_keep hlt (by
        show rAt r (B + i) = bund (rAt r (B + i)) (rAt r (B + i - B)) s
        rw [sub]
        exact z.symm)
      have put : ∀ {x : Int} {o : Cell}, rAt r i = some x → rAt r (B + i) = o → bund o (some x) (s : Int) = some (x + (s : Int)) → ((wbUp r B s (B + i)).map vO).set (B + i) (.int (x + (s : Int))) = (wbUp r B s (B + (i + 1))).map vO := by
        intro x o h1 h2 h3
        rw [show V.int (x + (s : Int)) = vO (some (x + (s : Int))) from rfl, set_map]
        congr 1
        refine wbUp_set hlt (by omega) ?_
        rw [sub, h1, h2, h3]
      have hix : ixN ((wbUp r B s (B + i)).map vO).length ((B : Int) + (i : Int)) = some (B + i) := by
        rw [show ((B : Int) + (i : Int)) = ((B + i : Nat) : Int) from rfl]
        exact Evl.ixN_nat (by rw [List.length_map, wbUp_len]; exact hlt)
      cases hx : rAt r i with
      | none =>
        refine ⟨_, rfl, rfl, _, rfl, iteDN (fun z => absurd rfl z) (fun _ => iteF ?_)⟩
        exact ⟨_, _, rfl, ex, by rw [keep (by rw [hx]; rfl)]; exact el⟩
      | some x =>
        refine ⟨_, rfl, rfl, _, rfl, iteDN (fun _ => ?_) (fun z => nomatch z)⟩
        cases hy : rAt r (B + i) with
        | none =>
          rw [hy] at a2
          refine ⟨_, rfl, _, rfl, l, _, _, _, rfl, rfl, .of el, a2, rfl, _, rfl, iteD (fun _ => iteT ?_) (fun z => absurd rfl z)⟩
          refine ⟨_, rfl, _, rfl, _, _, rfl, rfl, _, rfl, _, rfl, l, _, _, B + i, rfl, rfl, el, hix, _, _, rfl, Ex.mu ex hl0, ?_⟩
          rw [upd_same, put hx hy rfl]
        | some y =>
          rw [hy] at a2
          refine ⟨_, rfl, _, rfl, l, _, _, _, rfl, rfl, .of el, a2, rfl, _, rfl, iteD (fun z => nomatch z) (fun _ => ?_)⟩
          refine ⟨_, rfl, _, rfl, _, _, rfl, rfl, _, rfl, _, rfl, l, _, _, _, rfl, rfl, .of el, a2, _, _, rfl, rfl, _, rfl, iteD (fun e => ?_) (fun e => ?_)⟩
          · refine ⟨_, rfl, _, rfl, _, _, rfl, rfl, _, rfl, _, rfl, l, _, _, B + i, rfl, rfl, el, hix, _, _, rfl, Ex.mu ex hl0, ?_⟩
            rw [upd_same, put hx hy (if_pos e)]
          · refine ⟨_, _, rfl, ex, ?_⟩
            rw [keep (by rw [hx, hy]; exact if_neg e)]
            exact el
    · rintro σ H1 ⟨y4, y5, rfl, ex, el⟩
      rw [wbUp_end (by omega)] at el
      exact ⟨_, rfl, q l H1 ex hl0 el⟩
/-- the bundles -/
def spBundles : Sp := fun vs H Q _ => ∃ n : Nat, vs = [.int (n : Int)] ∧ n ≤ 100000 ∧ ∀ p ss H2, Ex H H2 → H p = none → H2 p = some (.lst (ss.map fun k : Nat => V.int (k : Int))) → Steps 0 ss → ss.sum = n → ss.length ≤ n → Q (.ref p) H2
theorem ok_bundles (T : Tx K mg) : FnOk P w K mg base CX0 1 T.a__bundles T.d__bundles P__bundles spBundles := by
  refine T.f__bundles.ok sc__bundles (fun vs H Q E h => ?_) (fun cdv A outer s H vs Q E hr h => ?_)
  · obtain ⟨n, rfl, _⟩ := h
    rfl
  · obtain ⟨n, rfl, hn, q⟩ := h
    refine ⟨_, (pss_cons (ps_set (i := 1) sc__bundles.nd rfl (.inl rfl) (pe_lst pa_nil))
    (pss_cons (ps_set (i := 2) sc__bundles.nd rfl (.inl rfl) pe_int)
    (pss_cons (ps_while PassesOwn.never (pt_cmpR op_gt (pv 0) pe_int (nomark _))
      (pss_cons (ps_set (i := 3) sc__bundles.nd rfl (.inl rfl) (pe_callB (call_min2 rfl) (by rfl) T.m_min (by decide +kernel) (pa_cons (pv 2) (pa_cons (pv 0) pa_nil))))
      (pss_cons (ps_expr (pe_bm PySem.F.plainAttrs_list PySem.F.slot_list_append PySem.F.type_list_append mt_append (pv 1) (pa_cons (pv 3) pa_nil)))
      (pss_cons (ps_aug (i := 0) sc__bundles.nd rfl (.inl rfl) (pv 3) ip_sub)
      (pss_one (ps_aug (i := 2) sc__bundles.nd rfl (.inl rfl) pe_int ip_mulR))))))
    (pss_one (ps_ret (pv 1)))))), ?_⟩
    refine ⟨Nat.zero_le _, fun l hl0 => ?_⟩
    refine ⟨fun m σ H' => ∃ (ss : List Nat) (z : Nat) (y3 : Option V), σ = [some (.int (m : Int)), some (.ref l), some (.int (z : Int)), y3] ∧ Ex H H' ∧ H' l = some (.lst (ss.map fun k : Nat => V.int (k : Int))) ∧ Steps 0 ss ∧ ss.sum + m = n ∧ ss.length ≤ ss.sum ∧ 1 ≤ z ∧ (m = 0 ∨ z = ss.sum + 1),
      ⟨n, [], 1, none, rfl, Ex.nw hl0, upd_same, trivial, by simp, by simp, Nat.le_refl _, .inr (by simp)⟩, ?_⟩
    rintro m σ H' ⟨ss, z, y3, rfl, ex, el, hst, hsum, hlen, hz, hmz⟩
    refine ⟨_, rfl, _, _, rfl, rfl, _, rfl, iteD (fun e => ?_) (fun e => ?_)⟩
    · have hm : 0 < m := by omega
      obtain ⟨t, ht, ht1, ht2, ht3⟩ : ∃ t : Nat, (if (m : Int) < (z : Int) then (m : Int) else (z : Int)) = (t : Int) ∧ 1 ≤ t ∧ t ≤ m ∧ t ≤ z ∧ (t = m ∨ t = z) := by
        by_cases h : (m : Int) < (z : Int)
        · exact ⟨m, if_pos h, by omega, by omega, by omega, .inl rfl⟩
        · exact ⟨z, if_neg h, hz, by omega, by omega, .inr rfl⟩
      refine ⟨fun σ' H2 => ∃ m', m' < m ∧ ∃ (ss : List Nat) (z : Nat) (y3 : Option V), σ' = [some (.int (m' : Int)), some (.ref l), some (.int (z : Int)), y3] ∧ Ex H H2 ∧ H2 l = some (.lst (ss.map fun k : Nat => V.int (k : Int))) ∧ Steps 0 ss ∧ ss.sum + m' = n ∧ ss.length ≤ ss.sum ∧ 1 ≤ z ∧ (m' = 0 ∨ z = ss.sum + 1), fun _ _ z => z, ?_⟩
      refine ⟨_, rfl, _, rfl, _, _, rfl, ?_⟩
      rw [ht]
      have hl2 : (ss ++ [t]).map (fun k : Nat => V.int (k : Int)) = ss.map (fun k : Nat => V.int (k : Int)) ++ [V.int (t : Int)] := by rw [List.map_append]; rfl
      have hs2 : (ss ++ [t]).sum = ss.sum + t := by rw [List.sum_append]; simp
      refine ⟨_, rfl, .inl ⟨rfl, _, .of el⟩, _, rfl, l, _, _, rfl, rfl, el, len63' (by rw [List.length_map]; omega), ?_⟩
      refine ⟨_, rfl, _, rfl, _, _, rfl, rfl, ?_⟩
      refine ⟨_, rfl, _, _, rfl, rfl, .inr ⟨by decide, by decide⟩, ?_⟩
      refine ⟨m - t, by omega, ss ++ [t], z * 2, some (.int (t : Int)), ?_, Ex.mu ex hl0, ?_, steps_snoc hst (by omega), by omega, by rw [List.length_append, hs2]; simp; omega, by omega, by omega⟩
      · show [some (V.int ((m : Int) - (t : Int))), some (.ref l), some (.int ((z : Int) * 2)), some (.int (t : Int))] = _
        rw [show (m : Int) - (t : Int) = ((m - t : Nat) : Int) by omega, show (z : Int) * 2 = ((z * 2 : Nat) : Int) by omega]
      · rw [hl2]
        exact upd_same
    · exact ⟨_, rfl, q l ss H' ex hl0 el hst (by omega) (by omega)⟩
theorem le_sum : ∀ {l : List Nat} {x : Nat}, x ∈ l → x ≤ l.sum
  | a :: l, x, h => by
    rw [List.sum_cons]
    rcases List.mem_cons.mp h with e | e
    · omega
    · have := le_sum e
      omega
theorem fold_len (r : List Cell) (v : Nat) : ∀ (l : List Nat), (l.foldl (fun o s => withBundle o (s * v) s) r).length = r.length := by
  intro l
  induction l generalizing r with
  | nil => rfl
  | cons s l ih => rw [List.foldl_cons, ih, withBundle_len]
/-- a kind more -/
def spKind (K : PySem.W.Frag) : Sp := fun vs H Q _ => ∃ (a : Addr) (r : List Cell) (v c : Nat), vs = [.ref a, .int (v : Int), .int (c : Int)] ∧ Row K H a r ∧ 1 ≤ r.length ∧ r.length ≤ 2000 ∧ 1 ≤ v ∧ v ≤ 100000 ∧ NewRow H (nextRow r v c) Q
theorem ok_with_kind (T : Tx K mg) : FnOk P w K mg base CX0 2 T.a_with_kind T.d_with_kind P_with_kind (spKind K) := by
  have G__bundles := ok_bundles (P := P) (w := w) (base := base) T
  have G__with_bundle := ok_with_bundle (P := P) (w := w) (base := base) T
  refine T.f_with_kind.ok sc_with_kind (fun vs H Q E h => ?_) (fun cdv A outer s H vs Q E hr h => ?_)
  · obtain ⟨a, r, v, c, rfl, _⟩ := h
    rfl
  · obtain ⟨a, r, v, c, rfl, hS, hl1, hl, hv1, hv2, q⟩ := h
    refine ⟨_, (pss_cons (ps_set (i := 3) sc_with_kind.nd rfl (.inl rfl) (pe_callTy call_list_of (by rfl) T.m_list (by decide +kernel) (pa_cons (pv 0) pa_nil)))
    (pss_cons (ps_set (i := 4) sc_with_kind.nd rfl (.inl rfl) (pe_callB (call_min2 rfl) (by rfl) T.m_min (by decide +kernel) (pa_cons (pv 2) (pa_cons (pe_op op_fdiv (pe_op op_sub (pe_callB call_len_seq (by rfl) T.m_len (by decide +kernel) (pa_cons (pv 0) pa_nil)) pe_int) (pv 1)) pa_nil))))
    (pss_cons (ps_for PassesOwn.never rfl (pi_list (pe_call G__bundles (hr.mono (by decide)) (by rfl) T.g__bundles T.f__bundles.kp T.p__bundles .nil pass0 (pa_cons (pv 4) pa_nil))) (pg_name (i := 5) sc_with_kind.nd rfl (.inl rfl))
      (pss_one (ps_set (i := 3) sc_with_kind.nd rfl (.inl rfl) (pe_call G__with_bundle (hr.mono (by decide)) (by rfl) T.g__with_bundle T.f__with_bundle.kp T.p__with_bundle .nil pass0 (pa_cons (pv 3) (pa_cons (pe_op op_mul (pv 5) (pv 1)) (pa_cons (pv 5) pa_nil)))))))
    (pss_one (ps_ret (pv 3)))))), ?_⟩
    have hS' : SqL K H a (r.map vO) := hS
    have hrl : (r.map vO).length = r.length := List.length_map _
    refine ⟨_, rfl, a, _, rfl, .inl hS', fun l hl0 => ?_⟩
    (generalize hh : upd H l _ = H1; have e1 : Ex H H1 := (by rw [← hh]; exact Ex.nw hl0); have cl := (show H1 l = some _ by rw [← hh]; exact upd_same); clear hh)
    obtain ⟨n, hn, hnn⟩ : ∃ n : Nat, (if (((r.map vO).length : Int) - 1) / (v : Int) < (c : Int) then (((r.map vO).length : Int) - 1) / (v : Int) else (c : Int)) = (n : Int) ∧ n = min c ((r.length - 1) / v) := by
      rw [hrl, show ((r.length : Int) - 1) / (v : Int) = (((r.length - 1) / v : Nat) : Int) by
        rw [Int.natCast_ediv]
        congr 1
        omega]
      by_cases h : (((r.length - 1) / v : Nat) : Int) < (c : Int)
      · exact ⟨(r.length - 1) / v, if_pos h, by omega⟩
      · exact ⟨c, if_neg h, by omega⟩
    have hn2 : n ≤ 2000 := by
      have : (r.length - 1) / v ≤ r.length - 1 := Nat.div_le_self ..
      omega
    refine ⟨_, rfl, _, rfl, a, _, rfl, .inl (e1.seq hS'), _, _, rfl, rfl, _, rfl, _, _, rfl, rfl, ⟨by omega, by omega⟩, _, _, rfl, ?_⟩
    rw [hn]
    refine ⟨_, rfl, n, rfl, by omega, fun p ss H2 e2 hp ep hst hsum hlen => ?_⟩
    refine ⟨p, rfl, ⟨_, .of ep⟩, for_list (xs := ss.map fun k : Nat => V.int (k : Int)) (fun i σ H' => ∃ o y5, σ = [some (.ref a), some (.int (v : Int)), some (.int (c : Int)), some (.ref o), some (.int (n : Int)), y5] ∧ Ex H2 H' ∧ H o = none ∧ H' o = some (.lst (((ss.take i).foldl (fun o s => withBundle o (s * v) s) r).map vO)))
      ⟨l, _, rfl, Ex.rfl', hl0, e2 _ _ cl⟩ (fun i σ H' _ h => by obtain ⟨_, _, _, e, _⟩ := h; exact .of (e _ _ ep)) ?_ ?_⟩
    · rintro i x σ H3 hx ⟨o, y5, rfl, ex, ho, eo⟩
      rw [List.getElem?_map] at hx
      obtain ⟨s, hs, rfl⟩ := Option.map_eq_some_iff.mp hx
      have hsl : s ≤ n := by
        rw [← hsum]
        exact le_sum (List.mem_of_getElem? hs)
      have hsv : s * v ≤ r.length - 1 := by
        have h1 : n * v ≤ r.length - 1 := by
          rw [hnn]
          exact Nat.le_trans (Nat.mul_le_mul_right _ (Nat.min_le_right ..)) (Nat.div_mul_le_self ..)
        exact Nat.le_trans (Nat.mul_le_mul_right _ hsl) h1
      have hfl : ((ss.take i).foldl (fun o s => withBundle o (s * v) s) r).length = r.length := fold_len ..
      refine ⟨_, rfl, _, rfl, _, rfl, _, _, rfl, rfl, .inr ⟨by omega, by omega⟩, _, rfl, o, _, s * v, s, congrArg (fun z => [V.ref o, V.int z, V.int (s : Int)]) (Int.natCast_mul ..).symm, .of eo, by omega, by omega, fun p' H4 e4 hp' ep' => ?_⟩
      refine ⟨p', _, rfl, ex.tr e4, none_back ((e1.tr e2).tr ex) hp', ?_⟩
      rw [List.take_add_one, hs, List.foldl_append]
      exact ep'
    · rintro σ H3 ⟨o, y5, rfl, ex, ho, eo⟩
      rw [List.take_of_length_le (by rw [List.length_map]; exact Nat.le_refl _), fold_next (v := v) (c := c) (by omega) hst (by omega)] at eo
      exact ⟨_, rfl, q o H3 ((e1.tr e2).tr ex) ho eo⟩
def spCheck (lo hi : Int) (cN : Addr) : Sp := fun vs H Q E => ∃ v : Int, vs = [.int v] ∧ ((lo ≤ v ∧ v ≤ hi) → Q .non H) ∧ (¬ (lo ≤ v ∧ v ≤ hi) → E (.ref cN) none H)
theorem ok_check_sum (T : Tx K mg) : FnOk P w K mg base (L2.CX P w) 1 T.a_check_sum T.d_check_sum P_check_sum (spCheck 0 1000 T.c_NoSum) := by
  refine T.f_check_sum.okX sc_check_sum (fun vs H Q E h => ?_) (fun cdv A outer s H vs Q E hr h => ?_)
  · obtain ⟨v, rfl, _⟩ := h
    rfl
  · obtain ⟨v, rfl, q1, q2⟩ := h
    refine ⟨_, (pss_one (ps_if (pt_not (pt_chain op_le op_le pe_int (pv 0) (pe_glob (v := .int 1000) (by rfl) T.w_MOST_SUM.choose_spec ⟨_, rfl⟩)))
      (pss_one (ps_raise rfl (takes_of rfl rfl rfl rfl) (pmk_own PySem.F.excBase_ValueError T.x_NoSum T.g_NoSum T.k_NoSum (raises_own T.b_NoSum T.t_NoSum) rfl)))
      pss_nil)), ?_⟩
    repeat (first | refine ⟨_, rfl, ?_⟩ | refine ⟨(by show (0 : Int) < _; decide), ?_⟩ | refine ⟨⟨by decide, by decide⟩, ?_⟩ | refine ⟨.inr ⟨by decide, by decide⟩, ?_⟩ | refine ⟨.inl ⟨by decide, by decide⟩, ?_⟩ | refine ⟨⟨by decide, by decide, by decide⟩, ?_⟩ | refine ⟨_, _, rfl, rfl, ?_⟩ | refine ⟨rfl, _, rfl, ?_⟩)
    first | refine iteVI (fun e => ?_) (fun e => ?_) | refine iteVN (fun e => ?_) (fun e => ?_) | refine iteD (fun e => ?_) (fun e => ?_) | refine iteDN (fun e => ?_) (fun e => ?_) | refine iteB (fun e => ?_) (fun e => ?_)
    · repeat (first | refine ⟨_, rfl, ?_⟩ | refine ⟨(by show (0 : Int) < _; decide), ?_⟩ | refine ⟨⟨by decide, by decide⟩, ?_⟩ | refine ⟨.inr ⟨by decide, by decide⟩, ?_⟩ | refine ⟨.inl ⟨by decide, by decide⟩, ?_⟩ | refine ⟨⟨by decide, by decide, by decide⟩, ?_⟩ | refine ⟨_, _, rfl, rfl, ?_⟩ | refine ⟨rfl, _, rfl, ?_⟩)
      first | refine iteVI (fun e' => ?_) (fun e' => ?_) | refine iteVN (fun e' => ?_) (fun e' => ?_) | refine iteD (fun e' => ?_) (fun e' => ?_) | refine iteDN (fun e' => ?_) (fun e' => ?_) | refine iteB (fun e' => ?_) (fun e' => ?_)
      · exact q2 fun z => e' z.2
      · exact q1 ⟨e, e'⟩
    · exact ⟨_, rfl, iteT (q2 fun z => e z.1)⟩
theorem row0_map (n : Nat) : [V.int 0] ++ (List.replicate n [V.non]).flatten = (row0 n).map vO := by
  show V.int 0 :: (List.replicate n [V.non]).flatten = V.int 0 :: (List.replicate n (none : Cell)).map vO
  congr 1
  induction n with
  | zero => rfl
  | succ n ih =>
    rw [List.replicate_succ, List.replicate_succ, List.flatten_cons, List.map_cons, ih]
    rfl
def spTable (K : PySem.W.Frag) (cN : Addr) : Sp := fun vs H Q E => ∃ (a : Addr) (ps : List (Int × Int)) (m : Int), vs = [.ref a, .int m] ∧ Till K H a ps ∧ ps.length ≤ 1000 ∧ (∀ p ∈ ps, 1 ≤ p.1 ∧ p.1 ≤ 1000 ∧ 0 ≤ p.2) ∧
  ((0 ≤ m ∧ m ≤ 1000) → NewRows H (rowsOf (row0 m.toNat) ps) Q) ∧ (¬ (0 ≤ m ∧ m ≤ 1000) → E (.ref cN) none H)
theorem ok_table (T : Tx K mg) : FnOk P w K mg base (L2.CX P w) 3 T.a_table T.d_table P_table (spTable K T.c_NoSum) := by
  have G_check_sum := ok_check_sum (P := P) (w := w) (base := base) T
  have G_with_kind := ok_with_kind (P := P) (w := w) (base := base) T
  refine T.f_table.okX sc_table (fun vs H Q E h => ?_) (fun cdv A outer s H vs Q E hr h => ?_)
  · obtain ⟨a, ps, m, rfl, _⟩ := h
    rfl
  · obtain ⟨a, ps, m, rfl, ⟨xs, hS, hp⟩, hl, hv, q1, q2⟩ := h
    refine ⟨_, (pss_cons (ps_expr (pe_call G_check_sum (hr.mono (by decide)) (by rfl) T.g_check_sum T.f_check_sum.kp T.p_check_sum .nil (passes_call (takes_of rfl rfl rfl rfl) fun _ _ _ _ h => h) (pa_cons (pv 1) pa_nil)))
    (pss_cons (ps_set (i := 2) sc_table.nd rfl (.inl rfl) (pe_op op_cat (pe_lst (pa_cons pe_int pa_nil)) (pe_op op_rep (pe_lst (pa_cons pe_non pa_nil)) (pv 1))))
    (pss_cons (ps_set (i := 3) sc_table.nd rfl (.inl rfl) (pe_lst (pa_cons (pv 2) pa_nil)))
    (pss_cons (ps_for (passes_of rfl) rfl (pi_list (pv 0)) (pg_tup rfl (pgs_cons (pg_name (i := 4) sc_table.nd rfl (.inl rfl)) (pgs_cons (pg_name (i := 5) sc_table.nd rfl (.inl rfl)) pgs_nil)))
      (pss_cons (ps_set (i := 2) sc_table.nd rfl (.inl rfl) (pe_call G_with_kind (hr.mono (by decide)) (by rfl) T.g_with_kind T.f_with_kind.kp T.p_with_kind .nil pass0 (pa_cons (pv 2) (pa_cons (pv 4) (pa_cons (pv 5) pa_nil)))))
      (pss_one (ps_expr (pe_bm PySem.F.plainAttrs_list PySem.F.slot_list_append PySem.F.type_list_append mt_append (pv 3) (pa_cons (pv 2) pa_nil))))))
    (pss_one (ps_ret (pv 3))))))), ?_⟩
    refine ⟨_, rfl, m, rfl, fun hm => ?_, q2⟩
    obtain ⟨n, rfl⟩ : ∃ n : Nat, m = (n : Int) := ⟨m.toNat, (Int.toNat_of_nonneg hm.1).symm⟩
    have hn : n ≤ 1000 := by omega
    rw [Int.toNat_natCast] at q1
    refine ⟨len63 (by show 1 ≤ _; decide), fun l1 hl1 => ?_⟩
    (generalize hh : upd H l1 _ = H1; have e1 : Ex H H1 := (by rw [← hh]; exact Ex.nw hl1); have c1 := (show H1 l1 = some _ by rw [← hh]; exact upd_same); clear hh)
    refine ⟨len63 (by show 1 ≤ _; decide), fun l2 hl2 => ?_⟩
    (generalize hh : upd H1 l2 _ = H2; have e2 : Ex H1 H2 := (by rw [← hh]; exact Ex.nw hl2); have c2 := (show H2 l2 = some _ by rw [← hh]; exact upd_same); clear hh)
    refine ⟨_, rfl, l2, _, _, rfl, rfl, c2, by omega, by omega, len63 (by rw [Int.toNat_natCast]; show 1 * n ≤ _; omega), fun l3 hl3 => ?_⟩
    rw [Int.toNat_natCast]
    (generalize hh : upd H2 l3 _ = H3; have e3 : Ex H2 H3 := (by rw [← hh]; exact Ex.nw hl3); have c3 := (show H3 l3 = some _ by rw [← hh]; exact upd_same); clear hh)
    refine ⟨l1, l3, _, _, rfl, rfl, e3 _ _ (e2 _ _ c1), c3, len63 (by simp; omega), fun l4 hl4 => ?_⟩
    rw [row0_map]
    (generalize hh : upd H3 l4 _ = H4; have e4 : Ex H3 H4 := (by rw [← hh]; exact Ex.nw hl4); have c4 := (show H4 l4 = some _ by rw [← hh]; exact upd_same); clear hh)
    have ex4 := ((e1.tr e2).tr e3).tr e4
    have hl40 : H l4 = none := none_back ((e1.tr e2).tr e3) hl4
    refine ⟨_, rfl, len63 (by show 1 ≤ _; decide), fun R hR => ?_⟩
    have hR0 : H R = none := none_back ex4 hR
    have n4R : l4 ≠ R := ne_of_none c4 hR
    refine ⟨_, rfl, a, rfl, ⟨xs, (ex4.tr (Ex.nw hR)).seq hS⟩, for_list (xs := xs) (fun i σ H' => ∃ as b y4 y5, σ = [some (.ref a), some (.int (n : Int)), some (.ref b), some (.ref R), y4, y5] ∧ Ex H H' ∧ (∀ x ∈ R :: as, H x = none) ∧ (R :: as).Nodup ∧
        H' R = some (.lst (as.map V.ref)) ∧ RowsAt H' as (rowsOf (row0 n) (ps.take i)) ∧ H' b = some (.lst ((lastRow (row0 n) (ps.take i)).map vO)))
      ⟨[l4], l4, _, _, rfl, ex4.tr (Ex.nw hR), ?_, ?_, upd_same, .cons ((Ex.nw hR) _ _ c4) .nil, (Ex.nw hR) _ _ c4⟩ (fun i σ H' _ h => by
        obtain ⟨_, _, _, _, _, e, _⟩ := h
        exact e.seq hS) ?_ ?_⟩
    · intro x hx
      rcases List.mem_cons.mp hx with e | e
      · exact e ▸ hR0
      · rw [List.mem_singleton.mp e]
        exact hl40
    · rw [List.nodup_cons, List.mem_singleton]
      exact ⟨fun e => n4R e.symm, List.nodup_cons.mpr ⟨by simp, List.nodup_nil⟩⟩
    · rintro i x σ H5 hx ⟨as, b, y4, y5, rfl, ex, hfr, hnd, eR, hrows, eb⟩
      obtain ⟨p, t, h1, rfl, h3⟩ := Prs.get hp hx
      have hpm := hv p (List.mem_of_getElem? h1)
      have hi : i < ps.length := (List.getElem?_eq_some_iff.mp h1).1
      have hll : (lastRow (row0 n) (ps.take i)).length = n + 1 := by rw [lastRow_len, row0_len]
      refine ⟨t, _, rfl, .of (ex _ _ h3), rfl, _, _, rfl, _, _, rfl, rfl, ?_⟩
      refine ⟨_, rfl, _, rfl, _, rfl, b, _, p.1.toNat, p.2.toNat, by rw [Int.toNat_of_nonneg (by omega), Int.toNat_of_nonneg (by omega)]; rfl, .of eb, by omega, by omega, by omega, by omega, fun p' H6 e6 hp' ep' => ?_⟩
      rw [← lastRow_snoc, ← take_snoc h1] at ep'
      have hal := hrows.len
      rw [rowsOf_len, List.length_take] at hal
      refine ⟨_, rfl, .inl ⟨rfl, _, .of (e6 _ _ eR)⟩, _, rfl, R, _, _, rfl, rfl, e6 _ _ eR, len63' (by rw [List.length_map]; omega), ?_⟩
      have hRa : R ∉ as := (List.nodup_cons.mp hnd).1
      have hpR : p' ≠ R := (ne_of_none eR hp').symm
      have hpa : p' ∉ as := fun z => by
        obtain ⟨o, ho⟩ := hrows.mem z
        rw [ho] at hp'
        cases hp'
      refine ⟨as ++ [p'], p', _, _, rfl, Ex.mu (ex.tr e6) hR0, ?_, ?_, ?_, ?_, ?_⟩
      · intro x hx
        rcases List.mem_cons.mp hx with e | e
        · exact e ▸ hR0
        · rcases List.mem_append.mp e with e | e
          · exact hfr x (List.mem_cons_of_mem _ e)
          · rw [List.mem_singleton.mp e]
            exact none_back ex hp'
      · rw [← List.cons_append]
        refine nd_snoc hnd fun z => ?_
        rcases List.mem_cons.mp z with e | e
        · exact hpR e
        · exact hpa e
      · rw [upd_same, List.map_append]
        rfl
      · rw [take_snoc h1, rowsOf_snoc, ← take_snoc h1]
        exact RowsAt.snoc ((hrows.ex e6).up hRa) (by rw [upd_ne hpR]; exact ep')
      · rw [upd_ne hpR]
        exact ep'
    · rintro σ H5 ⟨as, b, y4, y5, rfl, ex, hfr, hnd, eR, hrows, eb⟩
      rw [List.take_of_length_le (by rw [hp.len]; exact Nat.le_refl _)] at hrows
      exact ⟨_, rfl, q1 hm R as H5 ex hfr hnd eR hrows⟩
theorem at_last {H : Hp} {as : List Addr} {r0 : List Cell} {ps : List (Int × Int)} (h : RowsAt H as (rowsOf r0 ps)) : ∃ a, atI (as.map V.ref) (-1) = some (.ref a) ∧ as[ps.length]? = some a ∧ H a = some (.lst ((lastRow r0 ps).map vO)) := by
  obtain ⟨a, h1, h2⟩ := h.get (rowsOf_at _ _ ps.length (Nat.le_refl _))
  rw [List.take_length] at h2
  refine ⟨a, ?_, h1, h2⟩
  have hal : (as.map V.ref).length = ps.length + 1 := by rw [List.length_map, h.len, rowsOf_len]
  unfold atI
  rw [show ixN (as.map V.ref).length (-1) = some ps.length by
    unfold ixN
    rw [if_neg (by omega), if_pos (by omega)]
    congr 1
    omega]
  show (as.map V.ref)[ps.length]? = _
  rw [List.getElem?_map, h1]
  rfl
/-! ### a whole number -/
def spWhole : Sp := fun vs H Q _ => ∃ i : Int, vs = [.int i] ∧ Q (.bl true) H
theorem ok_whole (T : Tx K mg) : FnOk P w K mg base CX0 1 T.a__law_whole T.d__law_whole P__law_whole spWhole := by
  refine T.f__law_whole.ok sc__law_whole (fun vs H Q E h => ?_) (fun cdv A outer s H vs Q E hr h => ?_)
  · obtain ⟨i, rfl, _⟩ := h
    rfl
  · obtain ⟨i, rfl, q⟩ := h
    refine ⟨_, (pss_one (ps_ret (pe_and (pe_callB call_isi (by rfl) T.m_isinstance (by decide +kernel) (pa_cons (pv 0) (pa_cons (pe_bltn (v := .ty "int") (by rfl) T.m_int (by decide +kernel) rfl) pa_nil))) (pe_one (pe_not (pe_callB call_isi (by rfl) T.m_isinstance (by decide +kernel) (pa_cons (pv 0) (pa_cons (pe_bltn (v := .ty "bool") (by rfl) T.m_bool (by decide +kernel) rfl) pa_nil)))))))), ?_⟩
    refine ⟨_, rfl, _, _, _, _, true, rfl, .ty "int", .base (.int _), kit_ty (by decide +kernel), true, rfl, iteT ?_⟩
    exact ⟨_, rfl, _, _, _, _, false, rfl, .ty "bool", .base (.int _), kit_ty (by decide +kernel), false, rfl, q⟩
/-! ### the law's own walk over the table -/
def spLeast (K : PySem.W.Frag) : Sp := fun vs H Q _ => ∃ (a : Addr) (r : List Cell) (d v c : Nat), vs = [.ref a, .int (d : Int), .int (v : Int), .int (c : Int)] ∧ Row K H a r ∧ d < r.length ∧ 1 ≤ v ∧ v ≤ 100000 ∧ d ≤ 100000 ∧ Q (vO (leastF r v c d)) H
theorem ok_least (T : Tx K mg) : FnOk P w K mg base CX0 1 T.a__law_least T.d__law_least P__law_least (spLeast K) := by
  refine T.f__law_least.ok sc__law_least (fun vs H Q E h => ?_) (fun cdv A outer s H vs Q E hr h => ?_)
  · obtain ⟨a, r, d, v, c, rfl, _⟩ := h
    rfl
  · obtain ⟨a, r, d, v, c, rfl, hS, hd, hv1, hv2, hd2, q⟩ := h
    refine ⟨_, (pss_cons (ps_set (i := 4) sc__law_least.nd rfl (.inl rfl) pe_non)
    (pss_cons (ps_for PassesOwn.never rfl (pi_range1 (by rfl) T.m_range (pa_cons (pe_op op_add (pe_callB (call_min2 rfl) (by rfl) T.m_min (by decide +kernel) (pa_cons (pv 3) (pa_cons (pe_op op_fdiv (pv 1) (pv 2)) pa_nil))) pe_int) pa_nil)) (pg_name (i := 5) sc__law_least.nd rfl (.inl rfl))
      (pss_cons (ps_set (i := 6) sc__law_least.nd rfl (.inl rfl) (pe_ix ix_list (pv 0) (pe_op op_sub (pv 1) (pe_op op_mul (pv 5) (pv 2))) (fun _ _ => rfl)))
      (pss_one (ps_if (PW.pt (pw_and (pt_cmpR op_notN (pv 6) pe_non (nomark _)) (pw_and1 (PW.pt (pw_or (pt_cmpR op_isN (pv 4) pe_non (nomark _)) (pw_or1 (pt_cmpR op_lt (pe_op op_add (pv 6) (pv 5)) (pv 4) (nomark _))))))))
        (pss_one (ps_set (i := 4) sc__law_least.nd rfl (.inl rfl) (pe_op op_add (pv 6) (pv 5))))
        pss_nil))))
    (pss_one (ps_ret (pv 4))))), ?_⟩
    have hS' : SqL K H a (r.map vO) := hS
    obtain ⟨n, hn, hnn⟩ : ∃ n : Nat, (if (d : Int) / (v : Int) < (c : Int) then (d : Int) / (v : Int) else (c : Int)) = (n : Int) ∧ n = min c (d / v) := by
      rw [← Int.natCast_ediv]
      by_cases h : ((d / v : Nat) : Int) < (c : Int)
      · exact ⟨d / v, if_pos h, by omega⟩
      · exact ⟨c, if_neg h, by omega⟩
    have hnd : n ≤ d := by
      have : d / v ≤ d := Nat.div_le_self ..
      omega
    have hnv : n * v ≤ d := by
      rw [hnn]
      exact Nat.le_trans (Nat.mul_le_mul_right _ (Nat.min_le_right ..)) (Nat.div_mul_le_self ..)
    refine ⟨_, rfl, _, rfl, _, rfl, _, _, rfl, rfl, ⟨by omega, by omega⟩, _, _, rfl, ?_⟩
    rw [hn]
    refine ⟨_, _, rfl, rfl, _, rfl, by omega, by omega, ?_⟩
    refine for_range (fun i σ H' => ∃ y5 y6, σ = [some (.ref a), some (.int (d : Int)), some (.int (v : Int)), some (.int (c : Int)), some (vO (leastUp r v d i)), y5, y6] ∧ H' = H) ⟨_, _, rfl, rfl⟩ ?_ ?_
    · rintro i σ H' hi ⟨y5, y6, rfl, rfl⟩
      have hiv : i * v ≤ d := Nat.le_trans (Nat.mul_le_mul_right _ (by omega : i ≤ n)) hnv
      have a1 : atI (r.map vO) ((d : Int) - (0 + (i : Int)) * (v : Int)) = some (vO (rAt r (d - i * v))) := at_of (j := d - i * v) (by
        rw [Int.zero_add, ← Int.natCast_mul]
        omega) (vO_at (by omega))
      refine ⟨_, rfl, _, rfl, _, rfl, _, rfl, _, _, rfl, rfl, .inr ⟨by omega, by omega⟩, _, _, rfl, rfl, a, _, _, _, rfl, rfl, hS', a1, ?_⟩
      cases hx : rAt r (d - i * v) with
      | none =>
        refine ⟨_, rfl, rfl, _, rfl, iteDN (fun z => absurd rfl z) (fun _ => iteF ?_)⟩
        refine ⟨some (.int (0 + (i : Int))), some .non, ?_, rfl⟩
        rw [show leastUp r v d (i + 1) = leastUp r v d i by show bund _ _ _ = _; rw [hx]; rfl]
        rfl
      | some x =>
        refine ⟨_, rfl, rfl, _, rfl, iteDN (fun _ => ?_) (fun z => nomatch z)⟩
        have hup : leastUp r v d (i + 1) = bund (leastUp r v d i) (some x) (i : Int) := by show bund _ _ _ = _; rw [hx]
        cases hy : leastUp r v d i with
        | none =>
          refine ⟨_, rfl, rfl, _, rfl, iteD (fun _ => iteT ?_) (fun z => absurd rfl z)⟩
          refine ⟨_, rfl, _, rfl, _, _, rfl, rfl, some (.int (0 + (i : Int))), some (.int x), ?_, rfl⟩
          rw [hup, hy, show bund none (some x) (i : Int) = some (x + (0 + (i : Int))) by rw [Int.zero_add]; rfl]
          rfl
        | some y =>
          refine ⟨_, rfl, rfl, _, rfl, iteD (fun z => nomatch z) (fun _ => ?_)⟩
          refine ⟨_, rfl, _, rfl, _, _, rfl, rfl, _, rfl, _, _, rfl, rfl, _, rfl, iteD (fun e => ?_) (fun e => ?_)⟩
          · refine ⟨_, rfl, _, rfl, _, _, rfl, rfl, some (.int (0 + (i : Int))), some (.int x), ?_, rfl⟩
            have e' : x + (0 + (i : Int)) < y := e
            rw [hup, hy, show bund (some y) (some x) (i : Int) = some (x + (0 + (i : Int))) by
              rw [Int.zero_add] at e' ⊢
              exact if_pos e']
            rfl
          · refine ⟨some (.int (0 + (i : Int))), some (.int x), ?_, rfl⟩
            have e' : ¬ x + (0 + (i : Int)) < y := e
            rw [Int.zero_add] at e'
            rw [hup, hy, show bund (some y) (some x) (i : Int) = some y from if_neg e', ← hy]
            rfl
    · rintro σ H' ⟨y5, y6, rfl, rfl⟩
      refine ⟨_, rfl, ?_⟩
      rw [show ((n : Int) + 1).toNat = n + 1 by omega, hnn]
      exact q
/-! ### a row, looked at -/
def spRow : Sp := fun vs H Q _ => ∃ (a : Addr) (r : List Cell) (n : Int), vs = [.ref a, .int n] ∧ H a = some (.lst (r.map vO)) ∧ (r.length : Int) = n ∧ Q (.bl true) H
theorem ok_row (T : Tx K mg) : FnOk P w K mg base CX0 2 T.a__law_row T.d__law_row P__law_row spRow := by
  have G__law_whole := ok_whole (P := P) (w := w) (base := base) T
  refine T.f__law_row.ok sc__law_row (fun vs H Q E h => ?_) (fun cdv A outer s H vs Q E hr h => ?_)
  · obtain ⟨a, r, n, rfl, _⟩ := h
    rfl
  · obtain ⟨a, r, n, rfl, ha, hn, q⟩ := h
    refine ⟨_, (pss_cons (ps_if (PW.pt (pw_or (pt_not (pt_val (pe_callB call_isi (by rfl) T.m_isinstance (by decide +kernel) (pa_cons (pv 0) (pa_cons (pe_bltn (v := .ty "list") (by rfl) T.m_list (by decide +kernel) rfl) pa_nil))))) (pw_or1 (pt_cmpR op_ne (pe_callB call_len_seq (by rfl) T.m_len (by decide +kernel) (pa_cons (pv 0) pa_nil)) (pv 1) (nomark _)))))
      (pss_one (ps_ret pe_bl))
      pss_nil)
    (pss_cons (ps_for PassesOwn.never rfl (pi_list (pv 0)) (pg_name (i := 2) sc__law_row.nd rfl (.inl rfl))
      (pss_one (ps_if (PW.pt (pw_and (pt_cmpR op_notN (pv 2) pe_non (nomark _)) (pw_and1 (pt_not (pt_val (pe_call G__law_whole (hr.mono (by decide)) (by rfl) T.g__law_whole T.f__law_whole.kp T.p__law_whole .nil pass0 (pa_cons (pv 2) pa_nil)))))))
        (pss_one (ps_ret pe_bl))
        pss_nil)))
    (pss_one (ps_ret pe_bl)))), ?_⟩
    subst hn
    refine ⟨_, rfl, _, _, _, _, true, rfl, .ty "list", .base (.lst ha), kit_ty (by decide +kernel), _, rfl, iteF ?_⟩
    refine ⟨_, rfl, a, _, rfl, .inl (.of ha), _, rfl, rfl, _, rfl, iteVN (fun z => absurd (by rw [List.length_map]) z) (fun _ => ?_)⟩
    refine ⟨_, rfl, a, rfl, ⟨_, .of ha⟩, for_list (xs := r.map vO) (fun i σ H' => ∃ y2, σ = [some (.ref a), some (.int (r.length : Int)), y2] ∧ H' = H) ⟨_, rfl, rfl⟩ (fun i σ H' _ h => by obtain ⟨_, _, rfl⟩ := h; exact .of ha) ?_ ?_⟩
    · rintro i x σ H' hx ⟨y2, rfl, rfl⟩
      rw [List.getElem?_map] at hx
      obtain ⟨c, _, rfl⟩ := Option.map_eq_some_iff.mp hx
      cases c with
      | none => exact ⟨_, rfl, rfl, _, rfl, iteDN (fun z => absurd rfl z) (fun _ => iteF ⟨_, rfl, rfl⟩)⟩
      | some j => exact ⟨_, rfl, rfl, _, rfl, iteDN (fun _ => ⟨_, rfl, j, rfl, true, rfl, iteF ⟨_, rfl, rfl⟩⟩) (fun z => nomatch z)⟩
    · rintro σ H' ⟨y2, rfl, rfl⟩
      exact q
/-! ### rows as data -/
def dO : Cell → PyData
  | none => .none
  | some i => .int i
def rowD (r : List Cell) : PyData := .list (r.map dO)
theorem cell_dp {K : PySem.W.Frag} {H : Hp} (c : Cell) : Dp K H (vO c) (dO c) := by
  cases c with
  | none => exact .non
  | some i => exact .int i
theorem cells_dp {K : PySem.W.Frag} {H : Hp} : ∀ r : List Cell, DpAll K H (r.map vO) (r.map dO)
  | [] => .nil
  | c :: r => .cons (cell_dp c) (cells_dp r)
theorem row_dp {K : PySem.W.Frag} {H : Hp} {a : Addr} {r : List Cell} (h : SqL K H a (r.map vO)) : Dp K H (.ref a) (rowD r) := .lst h (cells_dp r)
theorem canLay_cells : ∀ r : List Cell, PyData.canLayAll0 (r.map dO) = true
  | [] => rfl
  | c :: r => by
    rw [List.map_cons]
    show (PyData.canLay0 (dO c) && PyData.canLayAll0 (r.map dO)) = true
    rw [canLay_cells r]
    cases c <;> rfl
theorem depth_cells : ∀ r : List Cell, PyData.depthAll (r.map dO) ≤ 3
  | [] => by decide
  | c :: r => by
    have h := depth_cells r
    rw [List.map_cons]
    show max (PyData.depth (dO c)) (PyData.depthAll (r.map dO)) ≤ 3
    have : PyData.depth (dO c) ≤ 3 := by cases c <;> simp [dO, PyData.depth]
    omega
theorem shaped_row (r : List Cell) : SeqAt.shaped (rowD r) = true := by
  unfold SeqAt.shaped
  have h1 : PyData.canLay0 (rowD r) = true := canLay_cells r
  have h2 : PyData.depth (rowD r) ≤ 64 := by
    have := depth_cells r
    simp only [rowD, PyData.depth]
    omega
  rw [h1, decide_eq_true h2]
  rfl
def rowsD (rs : List (List Cell)) : PyData := .list (rs.map rowD)
theorem canLay_rows : ∀ rs : List (List Cell), PyData.canLayAll0 (rs.map rowD) = true
  | [] => rfl
  | r :: rs => by
    rw [List.map_cons]
    show (PyData.canLay0 (rowD r) && PyData.canLayAll0 (rs.map rowD)) = true
    rw [canLay_rows rs]
    rw [show PyData.canLay0 (rowD r) = true from canLay_cells r]
    rfl
theorem depth_rows : ∀ rs : List (List Cell), PyData.depthAll (rs.map rowD) ≤ 10
  | [] => by decide
  | r :: rs => by
    have h := depth_rows rs
    rw [List.map_cons]
    show max (PyData.depth (rowD r)) (PyData.depthAll (rs.map rowD)) ≤ 10
    have : PyData.depth (rowD r) ≤ 10 := by
      have := depth_cells r
      simp only [rowD, PyData.depth]
      omega
    omega
theorem shaped_rows (rs : List (List Cell)) : SeqAt.shaped (rowsD rs) = true := by
  unfold SeqAt.shaped
  have h1 : PyData.canLay0 (rowsD rs) = true := canLay_rows rs
  have h2 : PyData.depth (rowsD rs) ≤ 64 := by
    have := depth_rows rs
    simp only [rowsD, PyData.depth]
    omega
  rw [h1, decide_eq_true h2]
  rfl
theorem rows_dpAll {K : PySem.W.Frag} {H : Hp} : ∀ {as : List Addr} {rs : List (List Cell)}, RowsAt H as rs → DpAll K H (as.map V.ref) (rs.map rowD)
  | _, _, .nil => .nil
  | _, _, .cons h r => .cons (row_dp (.of h)) (rows_dpAll r)
theorem rows_dp {K : PySem.W.Frag} {H : Hp} {R : Addr} {as : List Addr} {rs : List (List Cell)} (h : SqL K H R (as.map V.ref)) (k : RowsAt H as rs) : Dp K H (.ref R) (rowsD rs) := .lst h (rows_dpAll k)
def spWalked (K : PySem.W.Frag) : Sp := fun vs H Q _ => ∃ (R t : Addr) (as : List Addr) (ps : List (Int × Int)) (n : Nat), vs = [.ref R, .ref t, .int (n : Int)] ∧ H R = some (.lst (as.map V.ref)) ∧ RowsAt H as (rowsOf (row0 n) ps) ∧ Till K H t ps ∧ n ≤ 1000 ∧ ps.length ≤ 1000 ∧
  (∀ p ∈ ps, 1 ≤ p.1 ∧ p.1 ≤ 1000 ∧ 0 ≤ p.2) ∧ Ret (.bl true) H Q
theorem ok_walked (T : Tx K mg) : FnOk P w K mg base CX0 3 T.a__law_walked T.d__law_walked P__law_walked (spWalked K) := by
  have G__law_row := ok_row (P := P) (w := w) (base := base) T
  have G__law_least := ok_least (P := P) (w := w) (base := base) T
  refine T.f__law_walked.ok sc__law_walked (fun vs H Q E h => ?_) (fun cdv A outer s H vs Q E hr h => ?_)
  · obtain ⟨R, t, as, ps, n, rfl, _⟩ := h
    rfl
  · obtain ⟨R, t, as, ps, n, rfl, eR, hrows, ⟨xs, hS, hp⟩, hn, hl, hv, q⟩ := h
    refine ⟨_, (pss_cons (ps_if (PW.pt (pw_or (pt_not (pt_val (pe_callB call_isi (by rfl) T.m_isinstance (by decide +kernel) (pa_cons (pv 0) (pa_cons (pe_bltn (v := .ty "list") (by rfl) T.m_list (by decide +kernel) rfl) pa_nil))))) (pw_or (pt_cmpR op_ne (pe_callB call_len_seq (by rfl) T.m_len (by decide +kernel) (pa_cons (pv 0) pa_nil)) (pe_op op_add (pe_callB call_len_seq (by rfl) T.m_len (by decide +kernel) (pa_cons (pv 1) pa_nil)) pe_int) (nomark _)) (pw_or1 (pt_not (pt_val (pe_call G__law_row (hr.mono (by decide)) (by rfl) T.g__law_row T.f__law_row.kp T.p__law_row .nil pass0 (pa_cons (pe_ix ix_list (pv 0) pe_int (fun _ _ => rfl)) (pa_cons (pe_op op_add (pv 2) pe_int) pa_nil)))))))))
      (pss_one (ps_ret pe_bl))
      pss_nil)
    (pss_cons (ps_if (pt_cmpR (op_neD hr.units) (pe_ix ix_list (pv 0) pe_int (fun _ _ => rfl)) (pe_op op_cat (pe_lst (pa_cons pe_int pa_nil)) (pe_op op_rep (pe_lst (pa_cons pe_non pa_nil)) (pv 2))) (nomark _))
      (pss_one (ps_ret pe_bl))
      pss_nil)
    (pss_cons (ps_for PassesOwn.never rfl (pi_range1 (by rfl) T.m_range (pa_cons (pe_callB call_len_seq (by rfl) T.m_len (by decide +kernel) (pa_cons (pv 1) pa_nil)) pa_nil)) (pg_name (i := 3) sc__law_walked.nd rfl (.inl rfl))
      (pss_cons (ps_if (pt_not (pt_val (pe_call G__law_row (hr.mono (by decide)) (by rfl) T.g__law_row T.f__law_row.kp T.p__law_row .nil pass0 (pa_cons (pe_ix ix_list (pv 0) (pe_op op_add (pv 3) pe_int) (fun _ _ => rfl)) (pa_cons (pe_op op_add (pv 2) pe_int) pa_nil)))))
        (pss_one (ps_ret pe_bl))
        pss_nil)
      (pss_one (ps_for PassesOwn.never rfl (pi_range1 (by rfl) T.m_range (pa_cons (pe_op op_add (pv 2) pe_int) pa_nil)) (pg_name (i := 4) sc__law_walked.nd rfl (.inl rfl))
        (pss_one (ps_if (pt_cmpR op_ne (pe_ix ix_list (pe_ix ix_list (pv 0) (pe_op op_add (pv 3) pe_int) (fun _ _ => rfl)) (pv 4) (fun _ _ => rfl)) (pe_call G__law_least (hr.mono (by decide)) (by rfl) T.g__law_least T.f__law_least.kp T.p__law_least .nil pass0 (pa_cons (pe_ix ix_list (pv 0) (pv 3) (fun _ _ => rfl)) (pa_cons (pv 4) (pa_cons (pe_ix ix_tup (pe_ix ix_list (pv 1) (pv 3) (fun _ _ => rfl)) pe_int (fun _ _ => rfl)) (pa_cons (pe_ix ix_tup (pe_ix ix_list (pv 1) (pv 3) (fun _ _ => rfl)) pe_int (fun _ _ => rfl)) pa_nil))))) (nomark _))
          (pss_one (ps_ret pe_bl))
          pss_nil))))))
    (pss_one (ps_ret pe_bl))))), ?_⟩
    have hal : (as.map V.ref).length = ps.length + 1 := by rw [List.length_map, hrows.len, rowsOf_len]
    obtain ⟨a0, i0, _, ea0⟩ := at_row hrows (i := 0) (k := 0) rfl (rowsOf_at _ _ 0 (Nat.zero_le _))
    have ea0' : H a0 = some (.lst ((row0 n).map vO)) := ea0
    refine ⟨_, rfl, _, _, _, _, true, rfl, .ty "list", .base (.lst eR), kit_ty (by decide +kernel), _, rfl, iteF ?_⟩
    refine ⟨_, rfl, R, _, rfl, .inl (.of eR), _, rfl, t, xs, rfl, .inl hS, _, _, rfl, rfl, rfl, _, rfl, iteVN (fun z => absurd (by rw [hal, hp.len]; rfl) z) (fun _ => ?_)⟩
    refine ⟨_, rfl, R, _, _, .ref a0, rfl, rfl, .of eR, i0, _, rfl, _, _, rfl, rfl, a0, row0 n, _, rfl, ea0', by rw [row0_len]; rfl, true, rfl, iteF ?_⟩
    refine ⟨_, rfl, R, _, _, .ref a0, rfl, rfl, .of eR, i0, ?_⟩
    refine ⟨len63 (by show 1 ≤ _; decide), fun l1 hl1 => ?_⟩
    (generalize hh : upd H l1 _ = H1; have e1 : Ex H H1 := (by rw [← hh]; exact Ex.nw hl1); have c1 := (show H1 l1 = some _ by rw [← hh]; exact upd_same); clear hh)
    refine ⟨len63 (by show 1 ≤ _; decide), fun l2 hl2 => ?_⟩
    (generalize hh : upd H1 l2 _ = H2; have e2 : Ex H1 H2 := (by rw [← hh]; exact Ex.nw hl2); have c2 := (show H2 l2 = some _ by rw [← hh]; exact upd_same); clear hh)
    refine ⟨_, rfl, l2, _, _, rfl, rfl, c2, by omega, by omega, len63 (by rw [Int.toNat_natCast]; show 1 * n ≤ _; omega), fun l3 hl3 => ?_⟩
    rw [Int.toNat_natCast]
    (generalize hh : upd H2 l3 _ = H3; have e3 : Ex H2 H3 := (by rw [← hh]; exact Ex.nw hl3); have c3 := (show H3 l3 = some _ by rw [← hh]; exact upd_same); clear hh)
    refine ⟨l1, l3, _, _, rfl, rfl, e3 _ _ (e2 _ _ c1), c3, len63 (by simp; omega), fun l4 hl4 => ?_⟩
    rw [row0_map]
    (generalize hh : upd H3 l4 _ = H4; have e4 : Ex H3 H4 := (by rw [← hh]; exact Ex.nw hl4); have c4 := (show H4 l4 = some _ by rw [← hh]; exact upd_same); clear hh)
    have ex4 := ((e1.tr e2).tr e3).tr e4
    refine ⟨_, _, row_dp (K := K) (.of (ex4 _ _ ea0')), row_dp (K := K) (.of c4), shaped_row _, shaped_row _, ?_⟩
    rw [eqv_of_shaped (shaped_row _)]
    refine ⟨_, rfl, iteF ?_⟩
    have eR4 := ex4 _ _ eR
    have hrows4 := hrows.ex ex4
    have hS4 := ex4.seq hS
    have hp4 := hp.ex ex4
    refine ⟨_, rfl, t, xs, rfl, .inl hS4, _, rfl, by rw [hp.len]; omega, by rw [hp.len]; omega, ?_⟩
    refine for_range (fun i σ H' => ∃ y3 y4, σ = [some (.ref R), some (.ref t), some (.int (n : Int)), y3, y4] ∧ H' = H4) ⟨_, _, rfl, rfl⟩ ?_ ?_
    · rintro k σ H' hk ⟨y3, y4, rfl, rfl⟩
      have hk' : k < ps.length := by rw [Int.toNat_natCast, hp.len] at hk; exact hk
      obtain ⟨b, ib, _, eb⟩ := at_row hrows4 (i := 0 + (k : Int) + 1) (k := k + 1) (by omega) (rowsOf_at _ _ (k + 1) (by omega))
      obtain ⟨a, ia, _, ea⟩ := at_row hrows4 (i := 0 + (k : Int)) (k := k) (by omega) (rowsOf_at _ _ k (by omega))
      have hpk := List.getElem?_eq_getElem hk'
      obtain ⟨t2, hx0, h3⟩ := Prs.getL hp4 hpk
      have hpv := hv _ (List.getElem_mem hk')
      generalize ps[k] = p at hpk h3 hpv
      have hx : atI xs (0 + (k : Int)) = some (.ref t2) := at_of (Int.zero_add _) hx0
      have hll : ∀ j, (lastRow (row0 n) (ps.take j)).length = n + 1 := fun j => by rw [lastRow_len, row0_len]
      refine ⟨_, rfl, _, rfl, _, _, rfl, rfl, R, _, _, _, rfl, rfl, .of eR4, ib, _, rfl, _, _, rfl, rfl, b, _, _, rfl, eb, by rw [hll]; rfl, true, rfl, iteF ?_⟩
      refine ⟨_, rfl, _, _, rfl, rfl, _, rfl, by omega, by omega, ?_⟩
      refine for_range (fun i σ H9 => ∃ y4, σ = [some (.ref R), some (.ref t), some (.int (n : Int)), some (.int (0 + (k : Int))), y4] ∧ H9 = H') ⟨_, rfl, rfl⟩ ?_ ?_
      · rintro d σ H9 hd ⟨y4, rfl, rfl⟩
        have hd' : d < n + 1 := by omega
        have c1 : rAt (lastRow (row0 n) (ps.take (k + 1))) d = leastF (lastRow (row0 n) (ps.take k)) p.1.toNat p.2.toNat d := by
          rw [take_snoc hpk, lastRow_snoc]
          exact rAt_map (by rw [hll]; exact hd')
        have id : atI ((lastRow (row0 n) (ps.take (k + 1))).map vO) (0 + (d : Int)) = some (vO (leastF (lastRow (row0 n) (ps.take k)) p.1.toNat p.2.toNat d)) := at_of (Int.zero_add _) (by
          rw [vO_at (by rw [hll]; exact hd'), c1])
        refine ⟨_, rfl, _, rfl, _, _, rfl, rfl, R, _, _, _, rfl, rfl, .of eR4, ib, _, rfl, b, _, _, _, rfl, rfl, .of eb, id, ?_⟩
        refine ⟨_, rfl, _, rfl, R, _, _, _, rfl, rfl, .of eR4, ia, _, rfl, _, rfl, _, rfl, t, xs, _, _, rfl, rfl, hS4, hx, t2, _, 0, .int p.1, rfl, rfl, .of h3, rfl, ?_⟩
        refine ⟨_, rfl, _, rfl, t, xs, _, _, rfl, rfl, hS4, hx, t2, _, 1, .int p.2, rfl, rfl, .of h3, rfl, ?_⟩
        refine ⟨a, _, d, p.1.toNat, p.2.toNat, by rw [Int.toNat_of_nonneg (by omega), Int.toNat_of_nonneg (by omega), Int.zero_add]; rfl, .of ea, by rw [hll]; exact hd', by omega, by omega, by omega, ?_⟩
        generalize leastF _ _ _ _ = o
        have hsc : scal (vO o) (vO o) = true := by cases o <;> rfl
        exact ⟨hsc, _, rfl, iteDN (fun z => absurd rfl z) (fun _ => ⟨_, rfl, rfl⟩)⟩
      · rintro σ H9 ⟨y4, rfl, rfl⟩
        exact ⟨_, _, rfl, rfl⟩
    · rintro σ H' ⟨y3, y4, rfl, rfl⟩
      exact q _ ex4
/-! ### the sum asked -/
def spMost : Sp := fun vs H Q _ => ∃ (c m : Int), vs = [.int c, .int m] ∧ ∀ n : Nat, n ≤ 1000 → Q (.int (n : Int)) H
theorem ok_most (T : Tx K mg) : FnOk P w K mg base CX0 1 T.a__law_most T.d__law_most P__law_most spMost := by
  refine T.f__law_most.ok sc__law_most (fun vs H Q E h => ?_) (fun cdv A outer s H vs Q E hr h => ?_)
  · obtain ⟨c, m, rfl, _⟩ := h
    rfl
  · obtain ⟨c, m, rfl, q⟩ := h
    refine ⟨_, (pss_cons (ps_if (PW.pt (pw_or (PW.pt (pw_and (pt_cmpR op_eq (pe_op op_mod (pe_op op_fdiv (pv 0) pe_int) pe_int) pe_int (nomark _)) (pw_and1 (pt_cmpR op_lt (pv 1) pe_int (nomark _))))) (pw_or1 (pt_cmpR op_eq (pe_op op_mod (pe_op op_fdiv (pv 0) pe_int) pe_int) pe_int (nomark _)))))
      (pss_one (ps_ret (pe_op op_mod (pe_op op_fdiv (pv 0) pe_int) pe_int)))
      pss_nil)
    (pss_cons (ps_if (pt_cmpR op_eq (pe_op op_mod (pv 0) pe_int) pe_int (nomark _))
      (pss_one (ps_ret (pe_op op_mod (pe_op op_fdiv (pv 0) pe_int) pe_int)))
      pss_nil)
    (pss_one (ps_ret (pe_op op_mod (pe_op op_fdiv (pv 0) pe_int) pe_int))))), ?_⟩
    have qq : ∀ z : Int, 0 ≤ z → z ≤ 1000 → Q (.int z) H := fun z h0 h1 => by
      have := q z.toNat (by omega)
      rw [Int.toNat_of_nonneg h0] at this
      exact this
    have q1 : Q (.int (c / 90 % 1001)) H := qq _ (Int.emod_nonneg _ (by decide)) (by have := Int.emod_lt_of_pos (c / 90) (by decide : (0 : Int) < 1001); omega)
    have q2 : Q (.int (c / 5 % 200)) H := qq _ (Int.emod_nonneg _ (by decide)) (by have := Int.emod_lt_of_pos (c / 5) (by decide : (0 : Int) < 200); omega)
    have q3 : Q (.int (c / 5 % 60)) H := qq _ (Int.emod_nonneg _ (by decide)) (by have := Int.emod_lt_of_pos (c / 5) (by decide : (0 : Int) < 60); omega)
    repeat (first | refine ⟨_, rfl, ?_⟩ | refine ⟨(by show (0 : Int) < _; decide), ?_⟩ | refine ⟨⟨by decide, by decide⟩, ?_⟩ | refine ⟨.inr ⟨by decide, by decide⟩, ?_⟩ | refine ⟨.inl ⟨by decide, by decide⟩, ?_⟩ | refine ⟨⟨by decide, by decide, by decide⟩, ?_⟩ | refine ⟨_, _, rfl, rfl, ?_⟩ | refine ⟨rfl, _, rfl, ?_⟩)
    first | refine iteVI (fun e => ?_) (fun e => ?_) | refine iteVN (fun e => ?_) (fun e => ?_) | refine iteD (fun e => ?_) (fun e => ?_) | refine iteDN (fun e => ?_) (fun e => ?_) | refine iteB (fun e => ?_) (fun e => ?_)
    · repeat (first | refine ⟨_, rfl, ?_⟩ | refine ⟨(by show (0 : Int) < _; decide), ?_⟩ | refine ⟨⟨by decide, by decide⟩, ?_⟩ | refine ⟨.inr ⟨by decide, by decide⟩, ?_⟩ | refine ⟨.inl ⟨by decide, by decide⟩, ?_⟩ | refine ⟨⟨by decide, by decide, by decide⟩, ?_⟩ | refine ⟨_, _, rfl, rfl, ?_⟩ | refine ⟨rfl, _, rfl, ?_⟩)
      first | refine iteVI (fun e2 => ?_) (fun e2 => ?_) | refine iteVN (fun e2 => ?_) (fun e2 => ?_) | refine iteD (fun e2 => ?_) (fun e2 => ?_) | refine iteDN (fun e2 => ?_) (fun e2 => ?_) | refine iteB (fun e2 => ?_) (fun e2 => ?_)
      · refine iteT ?_
        repeat (first | refine ⟨_, rfl, ?_⟩ | refine ⟨(by show (0 : Int) < _; decide), ?_⟩ | refine ⟨⟨by decide, by decide⟩, ?_⟩ | refine ⟨.inr ⟨by decide, by decide⟩, ?_⟩ | refine ⟨.inl ⟨by decide, by decide⟩, ?_⟩ | refine ⟨⟨by decide, by decide, by decide⟩, ?_⟩ | refine ⟨_, _, rfl, rfl, ?_⟩ | refine ⟨rfl, _, rfl, ?_⟩)
        exact q1
      · repeat (first | refine ⟨_, rfl, ?_⟩ | refine ⟨(by show (0 : Int) < _; decide), ?_⟩ | refine ⟨⟨by decide, by decide⟩, ?_⟩ | refine ⟨.inr ⟨by decide, by decide⟩, ?_⟩ | refine ⟨.inl ⟨by decide, by decide⟩, ?_⟩ | refine ⟨⟨by decide, by decide, by decide⟩, ?_⟩ | refine ⟨_, _, rfl, rfl, ?_⟩ | refine ⟨rfl, _, rfl, ?_⟩)
        first | refine iteVI (fun e3 => ?_) (fun e3 => ?_) | refine iteVN (fun e3 => ?_) (fun e3 => ?_) | refine iteD (fun e3 => ?_) (fun e3 => ?_) | refine iteDN (fun e3 => ?_) (fun e3 => ?_) | refine iteB (fun e3 => ?_) (fun e3 => ?_)
        · repeat (first | refine ⟨_, rfl, ?_⟩ | refine ⟨(by show (0 : Int) < _; decide), ?_⟩ | refine ⟨⟨by decide, by decide⟩, ?_⟩ | refine ⟨.inr ⟨by decide, by decide⟩, ?_⟩ | refine ⟨.inl ⟨by decide, by decide⟩, ?_⟩ | refine ⟨⟨by decide, by decide, by decide⟩, ?_⟩ | refine ⟨_, _, rfl, rfl, ?_⟩ | refine ⟨rfl, _, rfl, ?_⟩)
          exact q1
        · repeat (first | refine ⟨_, rfl, ?_⟩ | refine ⟨(by show (0 : Int) < _; decide), ?_⟩ | refine ⟨⟨by decide, by decide⟩, ?_⟩ | refine ⟨.inr ⟨by decide, by decide⟩, ?_⟩ | refine ⟨.inl ⟨by decide, by decide⟩, ?_⟩ | refine ⟨⟨by decide, by decide, by decide⟩, ?_⟩ | refine ⟨_, _, rfl, rfl, ?_⟩ | refine ⟨rfl, _, rfl, ?_⟩)
          first | refine iteVI (fun e4 => ?_) (fun e4 => ?_) | refine iteVN (fun e4 => ?_) (fun e4 => ?_) | refine iteD (fun e4 => ?_) (fun e4 => ?_) | refine iteDN (fun e4 => ?_) (fun e4 => ?_) | refine iteB (fun e4 => ?_) (fun e4 => ?_)
          · repeat (first | refine ⟨_, rfl, ?_⟩ | refine ⟨(by show (0 : Int) < _; decide), ?_⟩ | refine ⟨⟨by decide, by decide⟩, ?_⟩ | refine ⟨.inr ⟨by decide, by decide⟩, ?_⟩ | refine ⟨.inl ⟨by decide, by decide⟩, ?_⟩ | refine ⟨⟨by decide, by decide, by decide⟩, ?_⟩ | refine ⟨_, _, rfl, rfl, ?_⟩ | refine ⟨rfl, _, rfl, ?_⟩)
            exact q2
          · repeat (first | refine ⟨_, rfl, ?_⟩ | refine ⟨(by show (0 : Int) < _; decide), ?_⟩ | refine ⟨⟨by decide, by decide⟩, ?_⟩ | refine ⟨.inr ⟨by decide, by decide⟩, ?_⟩ | refine ⟨.inl ⟨by decide, by decide⟩, ?_⟩ | refine ⟨⟨by decide, by decide, by decide⟩, ?_⟩ | refine ⟨_, _, rfl, rfl, ?_⟩ | refine ⟨rfl, _, rfl, ?_⟩)
            exact q3
    · repeat (first | refine ⟨_, rfl, ?_⟩ | refine ⟨(by show (0 : Int) < _; decide), ?_⟩ | refine ⟨⟨by decide, by decide⟩, ?_⟩ | refine ⟨.inr ⟨by decide, by decide⟩, ?_⟩ | refine ⟨.inl ⟨by decide, by decide⟩, ?_⟩ | refine ⟨⟨by decide, by decide, by decide⟩, ?_⟩ | refine ⟨_, _, rfl, rfl, ?_⟩ | refine ⟨rfl, _, rfl, ?_⟩)
      first | refine iteVI (fun e3 => ?_) (fun e3 => ?_) | refine iteVN (fun e3 => ?_) (fun e3 => ?_) | refine iteD (fun e3 => ?_) (fun e3 => ?_) | refine iteDN (fun e3 => ?_) (fun e3 => ?_) | refine iteB (fun e3 => ?_) (fun e3 => ?_)
      · repeat (first | refine ⟨_, rfl, ?_⟩ | refine ⟨(by show (0 : Int) < _; decide), ?_⟩ | refine ⟨⟨by decide, by decide⟩, ?_⟩ | refine ⟨.inr ⟨by decide, by decide⟩, ?_⟩ | refine ⟨.inl ⟨by decide, by decide⟩, ?_⟩ | refine ⟨⟨by decide, by decide, by decide⟩, ?_⟩ | refine ⟨_, _, rfl, rfl, ?_⟩ | refine ⟨rfl, _, rfl, ?_⟩)
        exact q1
      · repeat (first | refine ⟨_, rfl, ?_⟩ | refine ⟨(by show (0 : Int) < _; decide), ?_⟩ | refine ⟨⟨by decide, by decide⟩, ?_⟩ | refine ⟨.inr ⟨by decide, by decide⟩, ?_⟩ | refine ⟨.inl ⟨by decide, by decide⟩, ?_⟩ | refine ⟨⟨by decide, by decide, by decide⟩, ?_⟩ | refine ⟨_, _, rfl, rfl, ?_⟩ | refine ⟨rfl, _, rfl, ?_⟩)
        first | refine iteVI (fun e4 => ?_) (fun e4 => ?_) | refine iteVN (fun e4 => ?_) (fun e4 => ?_) | refine iteD (fun e4 => ?_) (fun e4 => ?_) | refine iteDN (fun e4 => ?_) (fun e4 => ?_) | refine iteB (fun e4 => ?_) (fun e4 => ?_)
        · repeat (first | refine ⟨_, rfl, ?_⟩ | refine ⟨(by show (0 : Int) < _; decide), ?_⟩ | refine ⟨⟨by decide, by decide⟩, ?_⟩ | refine ⟨.inr ⟨by decide, by decide⟩, ?_⟩ | refine ⟨.inl ⟨by decide, by decide⟩, ?_⟩ | refine ⟨⟨by decide, by decide, by decide⟩, ?_⟩ | refine ⟨_, _, rfl, rfl, ?_⟩ | refine ⟨rfl, _, rfl, ?_⟩)
          exact q2
        · repeat (first | refine ⟨_, rfl, ?_⟩ | refine ⟨(by show (0 : Int) < _; decide), ?_⟩ | refine ⟨⟨by decide, by decide⟩, ?_⟩ | refine ⟨.inr ⟨by decide, by decide⟩, ?_⟩ | refine ⟨.inl ⟨by decide, by decide⟩, ?_⟩ | refine ⟨⟨by decide, by decide, by decide⟩, ?_⟩ | refine ⟨_, _, rfl, rfl, ?_⟩ | refine ⟨rfl, _, rfl, ?_⟩)
          exact q3
def spWithin (K : PySem.W.Frag) : Sp := fun vs H Q _ => ∃ (t : Addr) (ps : List (Int × Int)) (n : Nat), vs = [.ref t, .int (n : Int)] ∧ Till K H t ps ∧ n ≤ 1000 ∧ ps.length ≤ 1000 ∧ (∀ p ∈ ps, 1 ≤ p.1 ∧ p.1 ≤ 1000 ∧ 0 ≤ p.2) ∧
  ∀ (k : Nat) H2, k ≤ 1000 → Ex H H2 → Q (.int (k : Int)) H2
theorem ok_within (T : Tx K mg) : FnOk P w K mg base CX0 1 T.a__law_within T.d__law_within P__law_within (spWithin K) := by
  refine T.f__law_within.ok sc__law_within (fun vs H Q E h => ?_) (fun cdv A outer s H vs Q E hr h => ?_)
  · obtain ⟨t, ps, n, rfl, _⟩ := h
    rfl
  · obtain ⟨t, ps, n, rfl, ⟨xs, hS, hp⟩, hn, hl, hv, q⟩ := h
    refine ⟨_, (pss_cons (ps_while PassesOwn.never (pt_cmpR op_gt (pe_callB (cr_sum rfl) (by rfl) T.m_sum (by decide +kernel) (pa_cons (pe_lc (own := [("_law_pair", 2)]) (g := gName 2) rfl sc__law_within.nd (pi_list (pv 0)) (blkOk_by (own := [("_law_pair", 2)]) (N := N__law_within) (sc := defScope s__law_within) (by decide +kernel)) (fun _ _ _ _ _ => pg_name (i := 2) sc__law_within.nd rfl (.inl rfl) (.inr rfl)) (fun _ _ _ _ _ => pts_nil) (fun _ _ _ _ _ => (pe_callB (call_min2 rfl) (by rfl) T.m_min (by decide +kernel) (pa_cons (pe_op op_mul (pe_ix (r := rIxT K) ix_tup (pv 2) pe_int (fun _ _ => rfl)) (pv 1)) (pa_cons (pe_op op_fdiv (pe_op op_mul (pv 1) (pv 1)) (pe_op op_mul pe_int (pe_ix (r := rIxT K) ix_tup (pv 2) pe_int (fun _ _ => rfl)))) pa_nil))))) pa_nil)) pe_int (nomark _))
      (pss_one (ps_set (i := 1) sc__law_within.nd rfl (.inr rfl) (pe_op op_fdiv (pv 1) pe_int))))
    (pss_one (ps_ret (pv 1)))), ?_⟩
    have hxl := hp.len
    refine ⟨fun m σ H' => ∃ y2, σ = [some (.ref t), some (.int (m : Int)), y2] ∧ m ≤ 1000 ∧ Ex H H', ⟨n, _, rfl, hn, Ex.rfl'⟩, ?_⟩
    rintro m σ H1 ⟨y2, rfl, hm, ex⟩
    have hp1 := hp.ex ex
    refine ⟨_, rfl, t, rfl, ⟨xs, ex.seq hS⟩, fun D hD => lc_list (xs := xs) (fun i H' => ∃ zs : List Int, Ex H1 H' ∧ H' D = some (.lst (zs.map V.int)) ∧ zs.length = i ∧ (m = 0 → zs.sum = 0)) ⟨[], Ex.nw hD, upd_same, rfl, fun _ => rfl⟩ (fun i H' _ h => by
      obtain ⟨_, e, _⟩ := h
      exact (ex.tr e).seq hS) ?_ ?_⟩
    · rintro i x H' hx ⟨zs, ex2, eD, hz, h0⟩
      obtain ⟨p, t2, h1, rfl, h3⟩ := Prs.get hp1 hx
      have hpv := hv _ (List.mem_of_getElem? h1)
      have hi : i < ps.length := (List.getElem?_eq_some_iff.mp h1).1
      refine ⟨rfl, t_yes ?_⟩
      refine ⟨_, rfl, t2, _, 1, .int p.2, rfl, rfl, .of (ex2 _ _ h3), rfl, _, rfl, _, _, rfl, rfl, .inr ⟨by omega, by omega⟩, ?_⟩
      refine ⟨_, rfl, _, rfl, _, _, rfl, rfl, .inr ⟨by omega, by omega⟩, ?_⟩
      refine ⟨_, rfl, t2, _, 0, .int p.1, rfl, rfl, .of (ex2 _ _ h3), rfl, _, _, rfl, rfl, .inl ⟨by decide, by decide⟩, _, _, rfl, rfl, ⟨by omega, by omega⟩, _, _, rfl, ?_⟩
      refine ⟨_, eD, len63' (by rw [List.length_map]; omega), zs ++ [_], Ex.mu ex2 hD, by rw [upd_same, List.map_append]; rfl, by rw [List.length_append, hz]; rfl, fun hm0 => ?_⟩
      rw [List.sum_append, h0 hm0]
      subst hm0
      simp
    · rintro H' ⟨zs, ex2, eD, hz, h0⟩
      refine ⟨D, zs, rfl, .of eD, ?_⟩
      repeat (first | refine ⟨_, rfl, ?_⟩ | refine ⟨(by show (0 : Int) < _; decide), ?_⟩ | refine ⟨⟨by decide, by decide⟩, ?_⟩ | refine ⟨.inr ⟨by decide, by decide⟩, ?_⟩ | refine ⟨.inl ⟨by decide, by decide⟩, ?_⟩ | refine ⟨⟨by decide, by decide, by decide⟩, ?_⟩ | refine ⟨_, _, rfl, rfl, ?_⟩ | refine ⟨rfl, _, rfl, ?_⟩)
      first | refine iteVI (fun e => ?_) (fun e => ?_) | refine iteVN (fun e => ?_) (fun e => ?_) | refine iteD (fun e => ?_) (fun e => ?_) | refine iteDN (fun e => ?_) (fun e => ?_) | refine iteB (fun e => ?_) (fun e => ?_)
      · refine ⟨_, fun σ' H' z => ⟨m / 2, ?_, z⟩, ?_⟩
        · have hm0 : m ≠ 0 := fun z => by
            have := h0 z
            omega
          omega
        · repeat (first | refine ⟨_, rfl, ?_⟩ | refine ⟨(by show (0 : Int) < _; decide), ?_⟩ | refine ⟨⟨by decide, by decide⟩, ?_⟩ | refine ⟨.inr ⟨by decide, by decide⟩, ?_⟩ | refine ⟨.inl ⟨by decide, by decide⟩, ?_⟩ | refine ⟨⟨by decide, by decide, by decide⟩, ?_⟩ | refine ⟨_, _, rfl, rfl, ?_⟩ | refine ⟨rfl, _, rfl, ?_⟩)
          exact ⟨by omega, ex.tr ex2⟩
      · exact ⟨_, rfl, q m H' hm (ex.tr ex2)⟩
/-! ### the law -/
theorem not_within (c : Int) (i : Nat) (hi : i < 4) : ¬ (0 ≤ [-1, 1001, -2 - c % 10 ^ (9 : Int).toNat, 1002 + c % 10 ^ (9 : Int).toNat].getD i 0 ∧ [-1, 1001, -2 - c % 10 ^ (9 : Int).toNat, 1002 + c % 10 ^ (9 : Int).toNat].getD i 0 ≤ 1000) := by
  have h0 : 0 ≤ c % 10 ^ (9 : Int).toNat := Int.emod_nonneg _ (by decide)
  match i, hi with
  | 0, _ => show ¬ (0 ≤ (-1 : Int) ∧ (-1 : Int) ≤ 1000); decide
  | 1, _ => show ¬ (0 ≤ (1001 : Int) ∧ (1001 : Int) ≤ 1000); decide
  | 2, _ => show ¬ (0 ≤ -2 - c % 10 ^ (9 : Int).toNat ∧ -2 - c % 10 ^ (9 : Int).toNat ≤ 1000); omega
  | 3, _ => show ¬ (0 ≤ 1002 + c % 10 ^ (9 : Int).toNat ∧ 1002 + c % 10 ^ (9 : Int).toNat ≤ 1000); omega
def spOut (K : PySem.W.Frag) : Sp := fun vs H Q _ => ∃ (a : Addr) (ps : List (Int × Int)) (m : Int), vs = [.ref a, .int m] ∧ Till K H a ps ∧ ps.length ≤ 1000 ∧ (∀ p ∈ ps, 1 ≤ p.1 ∧ p.1 ≤ 1000 ∧ 0 ≤ p.2) ∧ ¬ (0 ≤ m ∧ m ≤ 1000) ∧ Ret (.bl true) H Q
theorem Drawn.fit {ps : List (Int × Int)} (d : Drawn ps) : ∀ p ∈ ps, 1 ≤ p.1 ∧ p.1 ≤ 1000 ∧ 0 ≤ p.2 := fun p hp => ⟨(d.val p hp).1, (d.val p hp).2, (d.cnt p hp).1⟩
theorem ok_refused (T : Tx K mg) : FnOk P w K mg base CX0 4 T.a__law_refused T.d__law_refused P__law_refused (spOut K) := by
  have G_table := ok_table (P := P) (w := w) (base := base) T
  refine T.f__law_refused.ok sc__law_refused (fun vs H Q E h => ?_) (fun cdv A outer s H vs Q E hr h => ?_)
  · obtain ⟨a, ps, m, rfl, _⟩ := h
    rfl
  · obtain ⟨a, ps, m, rfl, hT, hl, hv, hm, q⟩ := h
    refine ⟨_, (pss_cons (ps_try_only rfl rfl ⟨by rfl, by decide, .inl T.g_NoSum⟩ takes0
      (fun W pn xe tk hp => (pss_one (ps_expr (pe_callS G_table (hr.mono (by decide)) rfl T.g_table T.f_table.kp T.p_table (fun σ => passAt tk σ) (pa_cons (pv 0) (pa_cons (pv 1) pa_nil))))))
      (fun a oe cls d pn hz hf => (pss_one (ps_ret pe_bl))))
    (pss_one (ps_ret pe_bl))), ?_⟩
    refine ⟨_, rfl, _, rfl, a, ps, m, rfl, hT, hl, hv, fun z => absurd z hm, fun _ => ?_⟩
    refine ⟨true, exm_mk T.b_NoSum T.i_NoSum T.t_NoSum T.u_NoSum_NoSum, (fun _ x hx => ?_), fun z => nomatch z⟩
    exact q _ Ex.rfl'
theorem ok_any (T : Tx K mg) : FnOk P w K mg base CX0 4 T.a__law_any T.d__law_any P__law_any (spOut K) := by
  have G_table := ok_table (P := P) (w := w) (base := base) T
  refine T.f__law_any.ok sc__law_any (fun vs H Q E h => ?_) (fun cdv A outer s H vs Q E hr h => ?_)
  · obtain ⟨a, ps, m, rfl, _⟩ := h
    rfl
  · obtain ⟨a, ps, m, rfl, hT, hl, hv, hm, q⟩ := h
    refine ⟨_, (pss_cons (ps_try_as (i := 2) rfl rfl sc__law_any.nd rfl rfl ⟨by rfl, by decide, .inl T.g_TillError⟩ takes0
      (fun W pn xe tk hp => (pss_one (ps_expr (pe_callS G_table (hr.mono (by decide)) rfl T.g_table T.f_table.kp T.p_table (fun σ => passAt tk σ) (pa_cons (pv 0) (pa_cons (pv 1) pa_nil))))))
      (fun a oe cls d pn hz hf => (pss_cons (ps_if (pt_val (pe_callB (call_isET hz hf) (by rfl) T.m_isinstance (by decide +kernel) (pa_cons (pv 2) (pa_cons (pe_tup (pa_cons (pe_glob (v := .ref T.c_NoChange) (by rfl) T.g_NoChange rfl) (pa_cons (pe_glob (v := .ref T.c_NoCount) (by rfl) T.g_NoCount rfl) (pa_cons (pe_glob (v := .ref T.c_NoDeed) (by rfl) T.g_NoDeed rfl) (pa_cons (pe_glob (v := .ref T.c_NoKind) (by rfl) T.g_NoKind rfl) (pa_cons (pe_glob (v := .ref T.c_NoTill) (by rfl) T.g_NoTill rfl) (pa_cons (pe_glob (v := .ref T.c_StillHeld) (by rfl) T.g_StillHeld rfl) (pa_cons (pe_glob (v := .ref T.c_TooFew) (by rfl) T.g_TooFew rfl) (pa_cons (pe_glob (v := .ref T.c_TooLittle) (by rfl) T.g_TooLittle rfl) (pa_cons (pe_glob (v := .ref T.c_Twice) (by rfl) T.g_Twice rfl) pa_nil)))))))))) pa_nil))))
        (pss_one (ps_ret pe_bl))
        pss_nil)
      (pss_one (ps_ret (pe_callB (call_isE1 hz hf) (by rfl) T.m_isinstance (by decide +kernel) (pa_cons (pv 2) (pa_cons (pe_bltn (v := .ty "ValueError") (by rfl) T.m_ValueError (by decide +kernel) rfl) pa_nil))))))))
    (pss_one (ps_ret pe_bl))), ?_⟩
    refine ⟨_, rfl, _, rfl, a, ps, m, rfl, hT, hl, hv, fun z => absurd z hm, fun _ => ?_⟩
    refine ⟨true, exm_mk T.b_TillError T.i_TillError T.t_TillError T.u_NoSum_TillError, (fun _ x hx => ?_), fun z => nomatch z⟩
    refine ⟨_, rfl, len63 (by show 9 ≤ _; decide), fun p hp => ?_⟩
    refine ⟨_, p, _, _, false, rfl, rfl, T.e_NoSum, rfl, upd_same, ?_, T.y_NoSum, false, rfl, iteF ?_⟩
    · repeat (first | exact .nil | refine .cons (.own _) ?_)
    · exact ⟨_, rfl, _, _, _, true, rfl, rfl, T.e_NoSum, rfl, (fun u r => r), T.z_NoSum, q _ (Ex.nw hp)⟩
def spLaw (K : PySem.W.Frag) : Sp := fun vs H Q _ => ∃ (a : Addr) (ns : List Int), vs = [.ref a] ∧ SqL K H a (ns.map V.int) ∧ ∀ H', Q (.bl true) H'
theorem ok_law (T : Tx K mg) : FnOk P w K mg base CX0 5 T.a_law T.d_law P_law (spLaw K) := by
  have G__law_cell_at := ok_cell_at (P := P) (w := w) (base := base) T
  have G__law_pairs := ok_pairs (P := P) (w := w) (base := base) T
  have G__law_refused := ok_refused (P := P) (w := w) (base := base) T
  have G__law_any := ok_any (P := P) (w := w) (base := base) T
  have G__law_within := ok_within (P := P) (w := w) (base := base) T
  have G__law_most := ok_most (P := P) (w := w) (base := base) T
  have G__law_walked := ok_walked (P := P) (w := w) (base := base) T
  have G_table := ok_table (P := P) (w := w) (base := base) T
  refine T.f_law.ok sc_law (fun vs H Q E h => ?_) (fun cdv A outer s H vs Q E hr h => ?_)
  · obtain ⟨a, ns, rfl, _⟩ := h
    rfl
  · obtain ⟨a, ns, rfl, hS, q⟩ := h
    refine ⟨_, (pss_cons (ps_set (i := 1) sc_law.nd rfl (.inl rfl) (pe_callB cr_sortedPO (by rfl) T.m_sorted (by decide +kernel) (pa_cons (pe_call G__law_pairs (hr.mono (by decide)) (by rfl) T.g__law_pairs T.f__law_pairs.kp T.p__law_pairs .nil pass0 (pa_cons (pv 0) pa_nil)) pa_nil)))
    (pss_cons (ps_set (i := 2) sc_law.nd rfl (.inl rfl) (pe_callTy call_list_of (by rfl) T.m_list (by decide +kernel) (pa_cons (pv 1) pa_nil)))
    (pss_cons (ps_set (i := 3) sc_law.nd rfl (.inl rfl) (pe_call G__law_cell_at (hr.mono (by decide)) (by rfl) T.g__law_cell_at T.f__law_cell_at.kp T.p__law_cell_at .nil pass0 (pa_cons (pv 0) (pa_cons pe_int pa_nil))))
    (pss_cons (ps_if (pt_cmpR op_eq (pe_op op_mod (pe_call G__law_cell_at (hr.mono (by decide)) (by rfl) T.g__law_cell_at T.f__law_cell_at.kp T.p__law_cell_at .nil pass0 (pa_cons (pv 0) (pa_cons pe_int pa_nil))) pe_int) pe_int (nomark _))
      (pss_cons (ps_set (i := 4) sc_law.nd rfl (.inl rfl) (pe_ix ix_list (pe_lst (pa_cons (pe_un un_neg pe_int) (pa_cons pe_int (pa_cons (pe_op op_sub (pe_un un_neg pe_int) (pe_op op_mod (pv 3) (pe_op op_pow pe_int pe_int))) (pa_cons (pe_op op_add pe_int (pe_op op_mod (pv 3) (pe_op op_pow pe_int pe_int))) pa_nil))))) (pe_op op_mod (pe_op op_fdiv (pe_call G__law_cell_at (hr.mono (by decide)) (by rfl) T.g__law_cell_at T.f__law_cell_at.kp T.p__law_cell_at .nil pass0 (pa_cons (pv 0) (pa_cons pe_int pa_nil))) pe_int) pe_int) (fun _ _ => rfl)))
      (pss_one (ps_ret (pe_and (pe_call G__law_refused (hr.mono (by decide)) (by rfl) T.g__law_refused T.f__law_refused.kp T.p__law_refused .nil pass0 (pa_cons (pv 2) (pa_cons (pv 4) pa_nil))) (pe_and (pe_call G__law_any (hr.mono (by decide)) (by rfl) T.g__law_any T.f__law_any.kp T.p__law_any .nil pass0 (pa_cons (pv 2) (pa_cons (pv 4) pa_nil))) (pe_one (pe_cmpR (op_eqD hr.units) (pv 2) (pv 1) (nomark _))))))))
      pss_nil)
    (pss_cons (ps_set (i := 4) sc_law.nd rfl (.inl rfl) (pe_call G__law_within (hr.mono (by decide)) (by rfl) T.g__law_within T.f__law_within.kp T.p__law_within .nil pass0 (pa_cons (pv 1) (pa_cons (pe_call G__law_most (hr.mono (by decide)) (by rfl) T.g__law_most T.f__law_most.kp T.p__law_most .nil pass0 (pa_cons (pv 3) (pa_cons (pe_callB call_len_seq (by rfl) T.m_len (by decide +kernel) (pa_cons (pv 1) pa_nil)) pa_nil))) pa_nil))))
    (pss_cons (ps_set (i := 5) sc_law.nd rfl (.inl rfl) (pe_call G_table (hr.mono (by decide)) (by rfl) T.g_table T.f_table.kp T.p_table .nil passL (pa_cons (pv 2) (pa_cons (pv 4) pa_nil))))
    (pss_cons (ps_if (PW.pt (pw_or (pt_not (pt_val (pe_call G__law_walked (hr.mono (by decide)) (by rfl) T.g__law_walked T.f__law_walked.kp T.p__law_walked .nil pass0 (pa_cons (pv 5) (pa_cons (pv 1) (pa_cons (pv 4) pa_nil)))))) (pw_or1 (pt_cmpR (op_neD hr.units) (pv 2) (pv 1) (nomark _)))))
      (pss_one (ps_ret pe_bl))
      pss_nil)
    (pss_cons (ps_setLc (i := 6) (own := [("_law_row_here", 9)]) (g := gName 9) rfl sc_law.nd rfl rfl (sw_true rfl rfl rfl (by decide +kernel)) (pi_list (pv 5)) (blkOk_by (own := [("_law_row_here", 9)]) (N := N_law) (sc := defScope s_law) (by decide +kernel)) (fun _ _ _ _ _ => pg_name (i := 9) sc_law.nd rfl (.inl rfl) (.inr rfl)) (fun _ _ _ _ _ => pts_nil) (fun _ _ _ _ _ => (pe_callTy (r := rListK K) call_list_of (by rfl) T.m_list (by decide +kernel) (pa_cons (pv 9) pa_nil))))
    (pss_cons (ps_expr (pe_call G_table (hr.mono (by decide)) (by rfl) T.g_table T.f_table.kp T.p_table .nil passL (pa_cons (pv 2) (pa_cons (pe_op op_fdiv (pv 4) pe_int) pa_nil))))
    (pss_cons (ps_expr (pe_call G_table (hr.mono (by decide)) (by rfl) T.g_table T.f_table.kp T.p_table .nil passL (pa_cons (pe_slice sl_list (pv 2) po_none (po_some pe_int)) (pa_cons (pv 4) pa_nil))))
    (pss_cons (ps_if (pt_cmpR (op_neD hr.units) (pv 5) (pv 6) (nomark _))
      (pss_one (ps_ret pe_bl))
      pss_nil)
    (pss_cons (ps_set (i := 7) sc_law.nd rfl (.inl rfl) (pe_op op_mod (pe_op op_fdiv (pe_call G__law_cell_at (hr.mono (by decide)) (by rfl) T.g__law_cell_at T.f__law_cell_at.kp T.p__law_cell_at .nil pass0 (pa_cons (pv 0) (pa_cons pe_int pa_nil))) pe_int) (pe_callB call_len_seq (by rfl) T.m_len (by decide +kernel) (pa_cons (pv 5) pa_nil))))
    (pss_cons (ps_expr (pe_bm PySem.F.plainAttrs_list PySem.F.slot_list_append PySem.F.type_list_append mt_append (pe_ix ix_list (pv 5) (pv 7) (fun _ _ => rfl)) (pa_cons pe_int pa_nil)))
    (pss_cons (ps_for PassesOwn.never rfl (pi_range1 (by rfl) T.m_range (pa_cons (pe_callB call_len_seq (by rfl) T.m_len (by decide +kernel) (pa_cons (pv 5) pa_nil)) pa_nil)) (pg_name (i := 8) sc_law.nd rfl (.inl rfl))
      (pss_one (ps_if (PW.pt (pw_and (pt_cmpR op_ne (pv 8) (pv 7) (nomark _)) (pw_and1 (pt_cmpR (op_neD hr.units) (pe_ix ix_list (pv 5) (pv 8) (fun _ _ => rfl)) (pe_ix ix_list (pv 6) (pv 8) (fun _ _ => rfl)) (nomark _)))))
        (pss_one (ps_ret pe_bl))
        pss_nil)))
    (pss_cons (ps_asg pe_int (pg_sub (pe_ix ix_list (pv 5) (pe_callB call_len_seq (by rfl) T.m_len (by decide +kernel) (pa_cons (pv 1) pa_nil)) (fun _ _ => rfl)) pe_int set_list))
    (pss_one (ps_ret (pe_cmpR (op_eqD hr.units) (pe_call G_table (hr.mono (by decide)) (by rfl) T.g_table T.f_table.kp T.p_table .nil passL (pa_cons (pv 2) (pa_cons (pv 4) pa_nil))) (pv 6) (nomark _))))))))))))))))))), ?_⟩
    -- the till, sorted
    refine ⟨_, rfl, a, ns, rfl, hS, fun p xs ps H2 e2 hp ep hpr dr h1 h10 => ?_⟩
    refine ⟨p, xs, pairAt H2, rfl, .of ep, hpr.all, fun ys t z1 z2 ht => ?_⟩
    obtain ⟨qs, hq0, hpm, hris⟩ := sorted_prs hpr dr.nd z1 z2
    have drq := dr.perm hpm
    have hl10 : qs.length ≤ 10 := by rw [hpm.length_eq]; exact h10
    (generalize hh : upd H2 t _ = H3; have e3 : Ex H2 H3 := (by rw [← hh]; exact Ex.nw ht); have ct := (show H3 t = some _ by rw [← hh]; exact upd_same); clear hh)
    have ex3 := Ex.tr e2 e3
    have hq3 := hq0.ex e3
    -- handed in
    refine ⟨_, rfl, t, ys, rfl, .inl (.of ct), fun hd hhd => ?_⟩
    have nth : t ≠ hd := ne_of_none ct hhd
    (generalize hh : upd H3 hd _ = H4; have e4 : Ex H3 H4 := (by rw [← hh]; exact Ex.nw hhd); have chd := (show H4 hd = some _ by rw [← hh]; exact upd_same); clear hh)
    have ex4 := ex3.tr e4
    have ct4 := e4 _ _ ct
    have hq4 := hq3.ex e4
    have hT4 : Till K H4 hd qs := ⟨ys, .of chd, hq4⟩
    refine ⟨_, rfl, a, ns, 3, rfl, ex4.seq hS, ?_⟩
    refine ⟨_, rfl, a, ns, 4, rfl, ex4.seq hS, ?_⟩
    repeat (first | refine ⟨_, rfl, ?_⟩ | refine ⟨(by show (0 : Int) < _; decide), ?_⟩ | refine ⟨⟨by decide, by decide⟩, ?_⟩ | refine ⟨.inr ⟨by decide, by decide⟩, ?_⟩ | refine ⟨.inl ⟨by decide, by decide⟩, ?_⟩ | refine ⟨⟨by decide, by decide, by decide⟩, ?_⟩ | refine ⟨_, _, rfl, rfl, ?_⟩ | refine ⟨rfl, _, rfl, ?_⟩)
    first | refine iteVI (fun e => ?_) (fun e => ?_) | refine iteVN (fun e => ?_) (fun e => ?_) | refine iteD (fun e => ?_) (fun e => ?_) | refine iteDN (fun e => ?_) (fun e => ?_) | refine iteB (fun e => ?_) (fun e => ?_)
    · -- a sum that is none
      repeat (first | refine ⟨_, rfl, ?_⟩ | refine ⟨(by show (0 : Int) < _; decide), ?_⟩ | refine ⟨⟨by decide, by decide⟩, ?_⟩ | refine ⟨.inr ⟨by decide, by decide⟩, ?_⟩ | refine ⟨.inl ⟨by decide, by decide⟩, ?_⟩ | refine ⟨⟨by decide, by decide, by decide⟩, ?_⟩ | refine ⟨_, _, rfl, rfl, ?_⟩ | refine ⟨rfl, _, rfl, ?_⟩)
      refine ⟨len63 (by show 4 ≤ _; decide), fun m hm => ?_⟩
      refine ⟨_, rfl, a, ns, 4, rfl, (ex4.tr (Ex.nw hm)).seq hS, ?_⟩
      have d1 : 0 ≤ cell ns 4 / 8 % 4 := Int.emod_nonneg _ (by decide)
      have d2 : cell ns 4 / 8 % 4 < 4 := Int.emod_lt_of_pos _ (by decide)
      repeat (first | refine ⟨_, rfl, ?_⟩ | refine ⟨(by show (0 : Int) < _; decide), ?_⟩ | refine ⟨⟨by decide, by decide⟩, ?_⟩ | refine ⟨.inr ⟨by decide, by decide⟩, ?_⟩ | refine ⟨.inl ⟨by decide, by decide⟩, ?_⟩ | refine ⟨⟨by decide, by decide, by decide⟩, ?_⟩ | refine ⟨_, _, rfl, rfl, ?_⟩ | refine ⟨rfl, _, rfl, ?_⟩)
      refine ⟨m, [-1, 1001, -2 - cell ns 3 % 10 ^ (9 : Int).toNat, 1002 + cell ns 3 % 10 ^ (9 : Int).toNat].map V.int, _, _, rfl, rfl, .of upd_same, menu_at rfl d1 d2, ?_⟩
      have nw := not_within (cell ns 3) (cell ns 4 / 8 % 4).toNat (by omega)
      generalize List.getD _ _ _ = v0 at nw ⊢
      (generalize hh : upd H4 m _ = H5; have e5 : Ex H4 H5 := (by rw [← hh]; exact Ex.nw hm); have c5 := (show H5 m = some _ by rw [← hh]; exact upd_same); clear hh)
      refine ⟨_, rfl, _, rfl, hd, qs, v0, rfl, hT4.ex e5, by omega, drq.fit, nw, fun H6 e6 => ⟨true, rfl, iteT ?_⟩⟩
      refine ⟨_, rfl, _, rfl, hd, qs, v0, rfl, (hT4.ex e5).ex e6, by omega, drq.fit, nw, fun H7 e7 => ⟨true, rfl, iteT ?_⟩⟩
      refine ⟨_, rfl, _, rfl, _, _, till_dp (((hT4.ex e5).ex e6).ex e7), till_dp (K := K) ⟨ys, .of (e7 _ _ (e6 _ _ (e5 _ _ ct4))), ((hq4.ex e5).ex e6).ex e7⟩, shaped_till qs, shaped_till qs, ?_⟩
      rw [eqv_of_shaped (shaped_till qs)]
      exact q _
    · -- the sum
      refine ⟨_, rfl, _, rfl, _, rfl, t, ys, rfl, .inl (.of ct4), _, _, rfl, fun n0 hn0 => ?_⟩
      refine ⟨t, qs, n0, rfl, ⟨ys, .of ct4, hq4⟩, hn0, by omega, drq.fit, fun n H5 hn e5 => ?_⟩
      have hT5 := hT4.ex e5
      have hTt5 : Till K H5 t qs := ⟨ys, .of (e5 _ _ ct4), hq4.ex e5⟩
      -- the table
      refine ⟨_, rfl, _, rfl, hd, qs, (n : Int), rfl, hT5, by omega, drq.fit, fun _ => ?_, fun z => absurd ⟨by omega, by omega⟩ z⟩
      rw [Int.toNat_natCast]
      intro R as H6 e6 hfr hnd eR hrows
      have hT6 := hT5.ex e6
      have hTt6 := hTt5.ex e6
      refine ⟨_, rfl, _, rfl, _, rfl, R, t, as, qs, n, rfl, eR, hrows, hTt6, hn, by omega, drq.fit, fun H7 e7 => ⟨true, rfl, iteF ?_⟩⟩
      have hT7 := hT6.ex e7
      have hTt7 := hTt6.ex e7
      have eR7 := e7 _ _ eR
      have hrows7 := hrows.ex e7
      refine ⟨_, rfl, _, rfl, _, _, till_dp hT7, till_dp hTt7, shaped_till qs, shaped_till qs, ?_⟩
      rw [eqv_of_shaped (shaped_till qs)]
      refine ⟨_, rfl, iteF ?_⟩
      -- kept
      refine ⟨_, rfl, R, rfl, ⟨_, .of eR7⟩, fun KP hKP => lc_list (xs := as.map V.ref) (fun i H' => ∃ bs, Ex H7 H' ∧ H' KP = some (.lst (bs.map V.ref)) ∧ RowsAt H' bs ((rowsOf (row0 n) qs).take i) ∧ (∀ x ∈ bs, H7 x = none) ∧ KP ∉ bs ∧ bs.length = i)
        ⟨[], Ex.nw hKP, upd_same, .nil, by simp, by simp, rfl⟩ (fun i H' _ h => by
          obtain ⟨_, e, _⟩ := h
          exact .of (e _ _ eR7)) ?_ ?_⟩
      · rintro i x H' hx ⟨bs, ex, eK, hb, hf, hkb, hbl⟩
        rw [List.getElem?_map] at hx
        obtain ⟨b, hb1, rfl⟩ := Option.map_eq_some_iff.mp hx
        obtain ⟨r, hr1, er⟩ := hrows7.getA hb1
        have hi : i < as.length := (List.getElem?_eq_some_iff.mp hb1).1
        have hasl := hrows7.len
        rw [rowsOf_len] at hasl
        refine ⟨rfl, t_yes ?_⟩
        refine ⟨_, rfl, b, _, rfl, .inl (.of (ex _ _ er)), fun l hl => ?_⟩
        have nKl : KP ≠ l := ne_of_none eK hl
        refine ⟨_, by rw [upd_ne nKl]; exact eK, len63' (by rw [List.length_map]; omega), bs ++ [l], Ex.mu (ex.tr (Ex.nw hl)) hKP, by rw [upd_same, List.map_append]; rfl, ?_, ?_, ?_, by rw [List.length_append, hbl]; rfl⟩
        · rw [take_snoc hr1]
          refine RowsAt.up ?_ (RowsAt.snoc (hb.ex (Ex.nw hl)) upd_same)
          intro z
          rcases List.mem_append.mp z with z | z
          · exact hkb z
          · exact nKl (List.mem_singleton.mp z)
        · intro x hx
          rcases List.mem_append.mp hx with z | z
          · exact hf x z
          · rw [List.mem_singleton.mp z]
            exact none_back ex hl
        · intro z
          rcases List.mem_append.mp z with z | z
          · exact hkb z
          · exact nKl (List.mem_singleton.mp z)
      rintro H8 ⟨bs, ex8, eK, hb, hf, hkb, hbl⟩
      rw [List.take_of_length_le (by rw [List.length_map, hrows7.len]; exact Nat.le_refl _)] at hb
      -- half of it, and a shorter till
      refine ⟨_, rfl, _, rfl, _, _, rfl, rfl, ⟨by decide, by decide⟩, hd, qs, (n : Int) / 2, rfl, hT7.ex ex8, by omega, drq.fit, fun _ => ?_, fun z => absurd ⟨by omega, by omega⟩ z⟩
      intro R2 as2 H9 e9 _ _ _ _
      have chd9 : H9 hd = some (.lst ys) := e9 _ _ (ex8 _ _ (e7 _ _ (e6 _ _ (e5 _ _ chd))))
      have ct9 : H9 t = some (.lst ys) := e9 _ _ (ex8 _ _ (e7 _ _ (e6 _ _ (e5 _ _ ct4))))
      have hq9 : Prs H9 ys qs := ((((hq4.ex e5).ex e6).ex e7).ex ex8).ex e9
      have hyl := hq9.len
      have hc1 : cutV ys none (some 1) = ys.take 1 := cut_take ys 1 (by rw [hyl, hpm.length_eq]; exact h1)
      refine ⟨_, rfl, _, rfl, hd, ys, rfl, .of chd9, fun l hl => ?_⟩
      rw [hc1]
      (generalize hh : upd H9 l _ = H10; have e10 : Ex H9 H10 := (by rw [← hh]; exact Ex.nw hl); have c10 := (show H10 l = some _ by rw [← hh]; exact upd_same); clear hh)
      refine ⟨_, rfl, l, qs.take 1, (n : Int), rfl, ⟨_, .of c10, (hq9.ex e10).take 1⟩, by rw [List.length_take]; omega, fun p hp => drq.fit p (List.mem_of_mem_take hp), fun _ => ?_, fun z => absurd ⟨by omega, by omega⟩ z⟩
      intro R3 as3 H11 e11 _ _ _ _
      have ex11 : Ex H8 H11 := (e9.tr e10).tr e11
      have eR11 : H11 R = some (.lst (as.map V.ref)) := ex11 _ _ (ex8 _ _ eR7)
      have hrows11 := (hrows7.ex ex8).ex ex11
      have eK11 := ex11 _ _ eK
      have hb11 := hb.ex ex11
      have chd11 := e11 _ _ (e10 _ _ chd9)
      have ct11 := e11 _ _ (e10 _ _ ct9)
      have hq11 := (hq9.ex e10).ex e11
      refine ⟨_, rfl, _, rfl, _, _, rows_dp (K := K) (.of eR11) hrows11, rows_dp (K := K) (.of eK11) hb11, shaped_rows _, shaped_rows _, ?_⟩
      rw [eqv_of_shaped (shaped_rows _)]
      refine ⟨_, rfl, iteF ?_⟩
      -- one row grows
      have hasl : as.length = qs.length + 1 := by rw [hrows11.len, rowsOf_len]
      have hral : (as.map V.ref).length = qs.length + 1 := by rw [List.length_map, hasl]
      have ex5 : Ex H H11 := ((((ex4.tr e5).tr e6).tr e7).tr ex8).tr ex11
      refine ⟨_, rfl, a, ns, 4, rfl, ex5.seq hS, _, _, rfl, rfl, ⟨by decide, by decide⟩, _, rfl, R, _, rfl, .inl (.of eR11), _, _, rfl, rfl, by omega, ?_⟩
      have b1 : 0 ≤ cell ns 4 / 32 % ((as.map V.ref).length : Int) := Int.emod_nonneg _ (by omega)
      have b2 : cell ns 4 / 32 % ((as.map V.ref).length : Int) < ((as.map V.ref).length : Int) := Int.emod_lt_of_pos _ (by omega)
      obtain ⟨k, hk⟩ : ∃ k : Nat, cell ns 4 / 32 % ((as.map V.ref).length : Int) = (k : Int) := ⟨_, (Int.toNat_of_nonneg b1).symm⟩
      have hkl : k < as.length := by omega
      have hx1 := List.getElem?_eq_getElem hkl
      generalize as[k] = x at hx1
      obtain ⟨rk, hrk, ex⟩ := hrows11.getA hx1
      have hxm : x ∈ as := List.mem_of_getElem? hx1
      have hrl : rk.length = n + 1 := by
        have := rowsOf_at (row0 n) qs k (by omega)
        rw [hrk] at this
        cases this
        rw [lastRow_len, row0_len]
      have hndas := (List.nodup_cons.mp hnd).2
      have hRas : R ∉ as := (List.nodup_cons.mp hnd).1
      refine ⟨_, rfl, _, rfl, R, _, _, .ref x, rfl, rfl, .of eR11, at_of hk (by rw [List.getElem?_map, hx1]; rfl), .inl ⟨rfl, _, .of ex⟩, x, _, _, rfl, rfl, ex, len63' (by rw [List.length_map]; omega), ?_⟩
      have hx5 : H5 x = none := hfr x (List.mem_cons_of_mem _ hxm)
      have hxR : R ≠ x := fun z => hRas (z ▸ hxm)
      have hxh : hd ≠ x := fun z => by rw [← z, e5 _ _ chd] at hx5; cases hx5
      have hxt : t ≠ x := fun z => by rw [← z, e5 _ _ ct4] at hx5; cases hx5
      have hxbs : x ∉ bs := fun z => by
        have h1 := hf x z
        obtain ⟨o, ho⟩ := hrows7.mem hxm
        rw [ho] at h1
        cases h1
      have hxK : KP ≠ x := fun z => by
        obtain ⟨o, ho⟩ := hrows7.mem hxm
        rw [← z, hKP] at ho
        cases ho
      generalize hH12 : upd H11 x (.lst (rk.map vO ++ [.int 5])) = H12
      have e12x : H12 x = some (.lst (rk.map vO ++ [.int 5])) := by rw [← hH12]; exact upd_same
      have e12 : ∀ y, y ≠ x → H12 y = H11 y := fun y hy => by rw [← hH12]; exact upd_ne hy
      have eR12 : H12 R = some (.lst (as.map V.ref)) := (e12 R hxR).trans eR11
      have eK12 : H12 KP = some (.lst (bs.map V.ref)) := (e12 KP hxK).trans eK11
      have hb12 : RowsAt H12 bs (rowsOf (row0 n) qs) := hH12 ▸ hb11.up hxbs
      have chd12 : H12 hd = some (.lst ys) := (e12 hd hxh).trans chd11
      have ct12 : H12 t = some (.lst ys) := (e12 t hxt).trans ct11
      have hq12 : Prs H12 ys qs := hH12 ▸ hq11.up (by intro bs z; rw [ex] at z; cases z)
      -- the others stand
      refine ⟨_, rfl, R, _, rfl, .inl (.of eR12), _, rfl, by omega, by omega, ?_⟩
      refine for_range (fun i σ H9 => ∃ y8, σ = [some (.ref a), some (.ref t), some (.ref hd), some (.int (cell ns 3)), some (.int (n : Int)), some (.ref R), some (.ref KP), some (.int (k : Int)), y8, none] ∧ H9 = H12) ⟨_, by rw [← hk]; rfl, rfl⟩ ?_ ?_
      · rintro i σ H9 hi ⟨y8, rfl, rfl⟩
        have hi' : i < qs.length + 1 := by omega
        have hrow := rowsOf_at (row0 n) qs i (by omega)
        obtain ⟨u, iu, hu1, eu⟩ := at_row hrows11 (i := 0 + (i : Int)) (by omega) hrow
        obtain ⟨v, iv, hv1, ev⟩ := at_row hb12 (i := 0 + (i : Int)) (by omega) hrow
        refine ⟨_, rfl, _, rfl, rfl, _, rfl, iteVN (fun ne => ?_) (fun _ => iteF ⟨_, rfl, rfl⟩)⟩
        have hux : u ≠ x := fun z => by
          subst z
          have := nodup_at hndas hu1 hx1
          omega
        refine ⟨_, rfl, _, rfl, R, _, _, _, rfl, rfl, .of eR12, iu, _, rfl, _, rfl, KP, _, _, _, rfl, rfl, .of eK12, iv, ?_⟩
        refine ⟨_, _, row_dp (K := K) (.of ((e12 u hux).trans eu)), row_dp (K := K) (.of ev), shaped_row _, shaped_row _, ?_⟩
        rw [eqv_of_shaped (shaped_row _)]
        exact ⟨_, rfl, iteF ⟨_, rfl, rfl⟩⟩
      · rintro σ H9 ⟨y8, rfl, rfl⟩
        -- another is written over
        have hlast := rowsOf_at (row0 n) qs qs.length (Nat.le_refl _)
        have hyl12 := hq12.len
        obtain ⟨z, iz, hz1, ez⟩ := at_row hrows11 (i := (ys.length : Int)) (k := qs.length) (by omega) hlast
        have hzm : z ∈ as := List.mem_of_getElem? hz1
        obtain ⟨zs, ezs, hzs⟩ : ∃ zs, H9 z = some (.lst zs) ∧ 0 < zs.length := by
          by_cases e : z = x
          · exact ⟨_, e ▸ e12x, by simp⟩
          · exact ⟨_, (e12 z e).trans ez, by rw [List.length_map, lastRow_len, row0_len]; omega⟩
        refine ⟨_, rfl, _, rfl, t, ys, rfl, .inl (.of ct12), R, _, _, .ref z, rfl, rfl, .of eR12, iz, z, zs, 0, 0, rfl, rfl, ezs, Evl.ixN_nat hzs, ?_⟩
        have hz5 : H5 z = none := hfr z (List.mem_cons_of_mem _ hzm)
        have hzh : hd ≠ z := fun e => by rw [← e, e5 _ _ chd] at hz5; cases hz5
        have hzbs : z ∉ bs := fun e => by
          have h1 := hf z e
          obtain ⟨o, ho⟩ := hrows7.mem hzm
          rw [ho] at h1
          cases h1
        have hzK : KP ≠ z := fun e => by
          obtain ⟨o, ho⟩ := hrows7.mem hzm
          rw [← e, hKP] at ho
          cases ho
        generalize hH13 : upd H9 z (.lst (zs.set 0 (.int 7))) = H13
        have e13 : ∀ y, y ≠ z → H13 y = H9 y := fun y hy => by rw [← hH13]; exact upd_ne hy
        have chd13 : H13 hd = some (.lst ys) := (e13 hd hzh).trans chd12
        have eK13 : H13 KP = some (.lst (bs.map V.ref)) := (e13 KP hzK).trans eK12
        have hb13 : RowsAt H13 bs (rowsOf (row0 n) qs) := hH13 ▸ hb12.up hzbs
        have hq13 : Prs H13 ys qs := hH13 ▸ hq12.up (by intro bs e; rw [ezs] at e; cases e)
        refine ⟨_, rfl, _, rfl, hd, qs, (n : Int), rfl, ⟨ys, .of chd13, hq13⟩, by omega, drq.fit, fun _ => ?_, fun z => absurd ⟨by omega, by omega⟩ z⟩
        rw [Int.toNat_natCast]
        intro R4 as4 H14 e14 _ _ eR4 hrows4
        refine ⟨_, rfl, _, _, rows_dp (K := K) (.of eR4) hrows4, rows_dp (K := K) (.of (e14 _ _ eK13)) (hb13.ex e14), shaped_rows _, shaped_rows _, ?_⟩
        rw [eqv_of_shaped (shaped_rows _)]
        exact q _
theorem law_start {K : PySem.W.Frag} {H : Hp} {a : Addr} {ns : List Int} (hl : ns.length ≤ 63) (hO : Only H) (hS : SqL K H a (ns.map V.int)) : spLaw K [.ref a] H (fun v _ => v = .bl true) fun _ _ _ => False :=
  ⟨a, ns, rfl, hS, fun _ => rfl⟩
end
theorem tx_mk {K : PySem.W.Frag} {h : Heap} {mg : Str → Option Value} (X : K.In h) (G : h.Ns mainGlobals mg) {c_TillError : Addr} {c_NoTill : Addr} {c_NoKind : Addr} {c_Twice : Addr} {c_NoCount : Addr} {c_NoSum : Addr} {c_TooLittle : Addr} {c_NoChange : Addr} {c_TooFew : Addr} {c_StillHeld : Addr} {c_NoDeed : Addr} {a_check_sum : Addr} {od_0 an_0 : Option Addr} {sl_0 : Array (Option Value)} {oc_0 kV_0 dc_0 pm_0 cd_0 ct_0 : Value} {a_table : Addr} {od_1 an_1 : Option Addr} {sl_1 : Array (Option Value)} {oc_1 kV_1 dc_1 pm_1 cd_1 ct_1 : Value} {a_with_kind : Addr} {od_2 an_2 : Option Addr} {sl_2 : Array (Option Value)} {oc_2 kV_2 dc_2 pm_2 cd_2 ct_2 : Value} {a__bundles : Addr} {od_3 an_3 : Option Addr} {sl_3 : Array (Option Value)} {oc_3 kV_3 dc_3 pm_3 cd_3 ct_3 : Value} {a__with_bundle : Addr} {od_4 an_4 : Option Addr} {sl_4 : Array (Option Value)} {oc_4 kV_4 dc_4 pm_4 cd_4 ct_4 : Value} {a__law_cell_at : Addr} {od_5 an_5 : Option Addr} {sl_5 : Array (Option Value)} {oc_5 kV_5 dc_5 pm_5 cd_5 ct_5 : Value} {a__law_whole : Addr} {od_6 an_6 : Option Addr} {sl_6 : Array (Option Value)} {oc_6 kV_6 dc_6 pm_6 cd_6 ct_6 : Value} {a__law_mixed : Addr} {od_7 an_7 : Option Addr} {sl_7 : Array (Option Value)} {oc_7 kV_7 dc_7 pm_7 cd_7 ct_7 : Value} {a__law_value : Addr} {od_8 an_8 : Option Addr} {sl_8 : Array (Option Value)} {oc_8 kV_8 dc_8 pm_8 cd_8 ct_8 : Value} {a__law_count : Addr} {od_9 an_9 : Option Addr} {sl_9 : Array (Option Value)} {oc_9 kV_9 dc_9 pm_9 cd_9 ct_9 : Value} {a__law_pairs : Addr} {od_10 an_10 : Option Addr} {sl_10 : Array (Option Value)} {oc_10 kV_10 dc_10 pm_10 cd_10 ct_10 : Value} {a__law_least : Addr} {od_11 an_11 : Option Addr} {sl_11 : Array (Option Value)} {oc_11 kV_11 dc_11 pm_11 cd_11 ct_11 : Value} {a__law_row : Addr} {od_12 an_12 : Option Addr} {sl_12 : Array (Option Value)} {oc_12 kV_12 dc_12 pm_12 cd_12 ct_12 : Value} {a__law_walked : Addr} {od_13 an_13 : Option Addr} {sl_13 : Array (Option Value)} {oc_13 kV_13 dc_13 pm_13 cd_13 ct_13 : Value} {a__law_most : Addr} {od_14 an_14 : Option Addr} {sl_14 : Array (Option Value)} {oc_14 kV_14 dc_14 pm_14 cd_14 ct_14 : Value} {a__law_refused : Addr} {od_15 an_15 : Option Addr} {sl_15 : Array (Option Value)} {oc_15 kV_15 dc_15 pm_15 cd_15 ct_15 : Value} {a__law_any : Addr} {od_16 an_16 : Option Addr} {sl_16 : Array (Option Value)} {oc_16 kV_16 dc_16 pm_16 cd_16 ct_16 : Value} {a__law_within : Addr} {od_17 an_17 : Option Addr} {sl_17 : Array (Option Value)} {oc_17 kV_17 dc_17 pm_17 cd_17 ct_17 : Value} {a_law : Addr} {od_18 an_18 : Option Addr} {sl_18 : Array (Option Value)} {oc_18 kV_18 dc_18 pm_18 cd_18 ct_18 : Value} {tk_MOST_SUM : Tok}
    (g_TillError : PySem.W.nsIn K mainGlobals "TillError" = some (some (.ref c_TillError)))
    (x_TillError : PySem.W.excIn K c_TillError [.type "ValueError", .type "Exception", .type "BaseException", .type "object"] "ValueError.__new__" = true)
    (k_TillError : PySem.W.keepIn K (.ref c_TillError) = true)
    (b_TillError : PySem.W.subIn K (.ref c_TillError) (.type "BaseException") = some true)
    (t_TillError : PySem.W.typeIn K (.ref c_TillError) = some (.type "type"))
    (i_TillError : PySem.W.isClsIn K c_TillError = true)
    (g_NoTill : PySem.W.nsIn K mainGlobals "NoTill" = some (some (.ref c_NoTill)))
    (x_NoTill : PySem.W.excIn K c_NoTill [.type "ValueError", .type "Exception", .type "BaseException", .type "object"] "ValueError.__new__" = true)
    (k_NoTill : PySem.W.keepIn K (.ref c_NoTill) = true)
    (b_NoTill : PySem.W.subIn K (.ref c_NoTill) (.type "BaseException") = some true)
    (t_NoTill : PySem.W.typeIn K (.ref c_NoTill) = some (.type "type"))
    (i_NoTill : PySem.W.isClsIn K c_NoTill = true)
    (g_NoKind : PySem.W.nsIn K mainGlobals "NoKind" = some (some (.ref c_NoKind)))
    (x_NoKind : PySem.W.excIn K c_NoKind [.type "ValueError", .type "Exception", .type "BaseException", .type "object"] "ValueError.__new__" = true)
    (k_NoKind : PySem.W.keepIn K (.ref c_NoKind) = true)
    (b_NoKind : PySem.W.subIn K (.ref c_NoKind) (.type "BaseException") = some true)
    (t_NoKind : PySem.W.typeIn K (.ref c_NoKind) = some (.type "type"))
    (i_NoKind : PySem.W.isClsIn K c_NoKind = true)
    (g_Twice : PySem.W.nsIn K mainGlobals "Twice" = some (some (.ref c_Twice)))
    (x_Twice : PySem.W.excIn K c_Twice [.type "ValueError", .type "Exception", .type "BaseException", .type "object"] "ValueError.__new__" = true)
    (k_Twice : PySem.W.keepIn K (.ref c_Twice) = true)
    (b_Twice : PySem.W.subIn K (.ref c_Twice) (.type "BaseException") = some true)
    (t_Twice : PySem.W.typeIn K (.ref c_Twice) = some (.type "type"))
    (i_Twice : PySem.W.isClsIn K c_Twice = true)
    (g_NoCount : PySem.W.nsIn K mainGlobals "NoCount" = some (some (.ref c_NoCount)))
    (x_NoCount : PySem.W.excIn K c_NoCount [.type "ValueError", .type "Exception", .type "BaseException", .type "object"] "ValueError.__new__" = true)
    (k_NoCount : PySem.W.keepIn K (.ref c_NoCount) = true)
    (b_NoCount : PySem.W.subIn K (.ref c_NoCount) (.type "BaseException") = some true)
    (t_NoCount : PySem.W.typeIn K (.ref c_NoCount) = some (.type "type"))
    (i_NoCount : PySem.W.isClsIn K c_NoCount = true)
    (g_NoSum : PySem.W.nsIn K mainGlobals "NoSum" = some (some (.ref c_NoSum)))
    (x_NoSum : PySem.W.excIn K c_NoSum [.type "ValueError", .type "Exception", .type "BaseException", .type "object"] "ValueError.__new__" = true)
    (k_NoSum : PySem.W.keepIn K (.ref c_NoSum) = true)
    (b_NoSum : PySem.W.subIn K (.ref c_NoSum) (.type "BaseException") = some true)
    (t_NoSum : PySem.W.typeIn K (.ref c_NoSum) = some (.type "type"))
    (i_NoSum : PySem.W.isClsIn K c_NoSum = true)
    (g_TooLittle : PySem.W.nsIn K mainGlobals "TooLittle" = some (some (.ref c_TooLittle)))
    (x_TooLittle : PySem.W.excIn K c_TooLittle [.type "ValueError", .type "Exception", .type "BaseException", .type "object"] "ValueError.__new__" = true)
    (k_TooLittle : PySem.W.keepIn K (.ref c_TooLittle) = true)
    (b_TooLittle : PySem.W.subIn K (.ref c_TooLittle) (.type "BaseException") = some true)
    (t_TooLittle : PySem.W.typeIn K (.ref c_TooLittle) = some (.type "type"))
    (i_TooLittle : PySem.W.isClsIn K c_TooLittle = true)
    (g_NoChange : PySem.W.nsIn K mainGlobals "NoChange" = some (some (.ref c_NoChange)))
    (x_NoChange : PySem.W.excIn K c_NoChange [.type "ValueError", .type "Exception", .type "BaseException", .type "object"] "ValueError.__new__" = true)
    (k_NoChange : PySem.W.keepIn K (.ref c_NoChange) = true)
    (b_NoChange : PySem.W.subIn K (.ref c_NoChange) (.type "BaseException") = some true)
    (t_NoChange : PySem.W.typeIn K (.ref c_NoChange) = some (.type "type"))
    (i_NoChange : PySem.W.isClsIn K c_NoChange = true)
    (g_TooFew : PySem.W.nsIn K mainGlobals "TooFew" = some (some (.ref c_TooFew)))
    (x_TooFew : PySem.W.excIn K c_TooFew [.type "ValueError", .type "Exception", .type "BaseException", .type "object"] "ValueError.__new__" = true)
    (k_TooFew : PySem.W.keepIn K (.ref c_TooFew) = true)
    (b_TooFew : PySem.W.subIn K (.ref c_TooFew) (.type "BaseException") = some true)
    (t_TooFew : PySem.W.typeIn K (.ref c_TooFew) = some (.type "type"))
    (i_TooFew : PySem.W.isClsIn K c_TooFew = true)
    (g_StillHeld : PySem.W.nsIn K mainGlobals "StillHeld" = some (some (.ref c_StillHeld)))
    (x_StillHeld : PySem.W.excIn K c_StillHeld [.type "ValueError", .type "Exception", .type "BaseException", .type "object"] "ValueError.__new__" = true)
    (k_StillHeld : PySem.W.keepIn K (.ref c_StillHeld) = true)
    (b_StillHeld : PySem.W.subIn K (.ref c_StillHeld) (.type "BaseException") = some true)
    (t_StillHeld : PySem.W.typeIn K (.ref c_StillHeld) = some (.type "type"))
    (i_StillHeld : PySem.W.isClsIn K c_StillHeld = true)
    (g_NoDeed : PySem.W.nsIn K mainGlobals "NoDeed" = some (some (.ref c_NoDeed)))
    (x_NoDeed : PySem.W.excIn K c_NoDeed [.type "ValueError", .type "Exception", .type "BaseException", .type "object"] "ValueError.__new__" = true)
    (k_NoDeed : PySem.W.keepIn K (.ref c_NoDeed) = true)
    (b_NoDeed : PySem.W.subIn K (.ref c_NoDeed) (.type "BaseException") = some true)
    (t_NoDeed : PySem.W.typeIn K (.ref c_NoDeed) = some (.type "type"))
    (i_NoDeed : PySem.W.isClsIn K c_NoDeed = true)
    (u_NoSum_NoSum : PySem.W.subIn K (.ref c_NoSum) (.ref c_NoSum) = some true)
    (u_NoSum_TillError : PySem.W.subIn K (.ref c_NoSum) (.ref c_TillError) = some true)
    (u_NoSum_NoChange : PySem.W.subIn K (.ref c_NoSum) (.ref c_NoChange) = some false)
    (u_NoSum_NoCount : PySem.W.subIn K (.ref c_NoSum) (.ref c_NoCount) = some false)
    (u_NoSum_NoDeed : PySem.W.subIn K (.ref c_NoSum) (.ref c_NoDeed) = some false)
    (u_NoSum_NoKind : PySem.W.subIn K (.ref c_NoSum) (.ref c_NoKind) = some false)
    (u_NoSum_NoTill : PySem.W.subIn K (.ref c_NoSum) (.ref c_NoTill) = some false)
    (u_NoSum_StillHeld : PySem.W.subIn K (.ref c_NoSum) (.ref c_StillHeld) = some false)
    (u_NoSum_TooFew : PySem.W.subIn K (.ref c_NoSum) (.ref c_TooFew) = some false)
    (u_NoSum_TooLittle : PySem.W.subIn K (.ref c_NoSum) (.ref c_TooLittle) = some false)
    (u_NoSum_Twice : PySem.W.subIn K (.ref c_NoSum) (.ref c_Twice) = some false)
    (hg_NoSum : PySem.W.findIn K (.ref c_NoSum) "__getattribute__" = some (some (.builtin "BaseException.__getattribute__")))
    (hk_NoSum : PySem.W.findIn K (.ref c_NoSum) "__getattr__" = some none)
    (hd_NoSum : PySem.W.hasDictIn K c_NoSum = true)
    (ha_NoSum : PySem.W.findIn K (.ref c_NoSum) "__class__" = some (some (.builtin "object.__class__")))
    (hm_NoSum : PySem.W.mroIn K c_NoSum (.type "object") = some true)
    (z_NoSum : PySem.W.subIn K (.ref c_NoSum) (.type "ValueError") = some true)
    (n_NoSum_NoChange : c_NoSum ≠ c_NoChange)
    (n_NoSum_NoCount : c_NoSum ≠ c_NoCount)
    (n_NoSum_NoDeed : c_NoSum ≠ c_NoDeed)
    (n_NoSum_NoKind : c_NoSum ≠ c_NoKind)
    (n_NoSum_NoTill : c_NoSum ≠ c_NoTill)
    (n_NoSum_StillHeld : c_NoSum ≠ c_StillHeld)
    (n_NoSum_TooFew : c_NoSum ≠ c_TooFew)
    (n_NoSum_TooLittle : c_NoSum ≠ c_TooLittle)
    (n_NoSum_Twice : c_NoSum ≠ c_Twice)
    (hn : PySem.W.specialIn K (.builtin "object.__class__") "__get__" = some (some (.builtin "getset_descriptor.__get__")))
    (ht : PySem.W.takesIn K (.builtin "object.__class__") = some true)
    (g_check_sum : PySem.W.nsIn K mainGlobals "check_sum" = some (some (.ref a_check_sum)))
    (l_check_sum : K.lookup a_check_sum = some ⟨oc_0, od_0, .func (PySem.W.fnOf "check_sum" "check_sum" (defArgs s_check_sum) (defBody s_check_sum) (defScope s_check_sum) .none kV_0 dc_0 pm_0 an_0 cd_0 ct_0), sl_0⟩)
    (o_check_sum : PySem.W.codeIn K cd_0 "check_sum" = true)
    (k_check_sum : PySem.W.keepIn K (.ref a_check_sum) = true)
    (g_table : PySem.W.nsIn K mainGlobals "table" = some (some (.ref a_table)))
    (l_table : K.lookup a_table = some ⟨oc_1, od_1, .func (PySem.W.fnOf "table" "table" (defArgs s_table) (defBody s_table) (defScope s_table) .none kV_1 dc_1 pm_1 an_1 cd_1 ct_1), sl_1⟩)
    (o_table : PySem.W.codeIn K cd_1 "table" = true)
    (k_table : PySem.W.keepIn K (.ref a_table) = true)
    (g_with_kind : PySem.W.nsIn K mainGlobals "with_kind" = some (some (.ref a_with_kind)))
    (l_with_kind : K.lookup a_with_kind = some ⟨oc_2, od_2, .func (PySem.W.fnOf "with_kind" "with_kind" (defArgs s_with_kind) (defBody s_with_kind) (defScope s_with_kind) .none kV_2 dc_2 pm_2 an_2 cd_2 ct_2), sl_2⟩)
    (o_with_kind : PySem.W.codeIn K cd_2 "with_kind" = true)
    (k_with_kind : PySem.W.keepIn K (.ref a_with_kind) = true)
    (g__bundles : PySem.W.nsIn K mainGlobals "_bundles" = some (some (.ref a__bundles)))
    (l__bundles : K.lookup a__bundles = some ⟨oc_3, od_3, .func (PySem.W.fnOf "_bundles" "_bundles" (defArgs s__bundles) (defBody s__bundles) (defScope s__bundles) .none kV_3 dc_3 pm_3 an_3 cd_3 ct_3), sl_3⟩)
    (o__bundles : PySem.W.codeIn K cd_3 "_bundles" = true)
    (k__bundles : PySem.W.keepIn K (.ref a__bundles) = true)
    (g__with_bundle : PySem.W.nsIn K mainGlobals "_with_bundle" = some (some (.ref a__with_bundle)))
    (l__with_bundle : K.lookup a__with_bundle = some ⟨oc_4, od_4, .func (PySem.W.fnOf "_with_bundle" "_with_bundle" (defArgs s__with_bundle) (defBody s__with_bundle) (defScope s__with_bundle) .none kV_4 dc_4 pm_4 an_4 cd_4 ct_4), sl_4⟩)
    (o__with_bundle : PySem.W.codeIn K cd_4 "_with_bundle" = true)
    (k__with_bundle : PySem.W.keepIn K (.ref a__with_bundle) = true)
    (g__law_cell_at : PySem.W.nsIn K mainGlobals "_law_cell_at" = some (some (.ref a__law_cell_at)))
    (l__law_cell_at : K.lookup a__law_cell_at = some ⟨oc_5, od_5, .func (PySem.W.fnOf "_law_cell_at" "_law_cell_at" (defArgs s__law_cell_at) (defBody s__law_cell_at) (defScope s__law_cell_at) .none kV_5 dc_5 pm_5 an_5 cd_5 ct_5), sl_5⟩)
    (o__law_cell_at : PySem.W.codeIn K cd_5 "_law_cell_at" = true)
    (k__law_cell_at : PySem.W.keepIn K (.ref a__law_cell_at) = true)
    (g__law_whole : PySem.W.nsIn K mainGlobals "_law_whole" = some (some (.ref a__law_whole)))
    (l__law_whole : K.lookup a__law_whole = some ⟨oc_6, od_6, .func (PySem.W.fnOf "_law_whole" "_law_whole" (defArgs s__law_whole) (defBody s__law_whole) (defScope s__law_whole) .none kV_6 dc_6 pm_6 an_6 cd_6 ct_6), sl_6⟩)
    (o__law_whole : PySem.W.codeIn K cd_6 "_law_whole" = true)
    (k__law_whole : PySem.W.keepIn K (.ref a__law_whole) = true)
    (g__law_mixed : PySem.W.nsIn K mainGlobals "_law_mixed" = some (some (.ref a__law_mixed)))
    (l__law_mixed : K.lookup a__law_mixed = some ⟨oc_7, od_7, .func (PySem.W.fnOf "_law_mixed" "_law_mixed" (defArgs s__law_mixed) (defBody s__law_mixed) (defScope s__law_mixed) .none kV_7 dc_7 pm_7 an_7 cd_7 ct_7), sl_7⟩)
    (o__law_mixed : PySem.W.codeIn K cd_7 "_law_mixed" = true)
    (k__law_mixed : PySem.W.keepIn K (.ref a__law_mixed) = true)
    (g__law_value : PySem.W.nsIn K mainGlobals "_law_value" = some (some (.ref a__law_value)))
    (l__law_value : K.lookup a__law_value = some ⟨oc_8, od_8, .func (PySem.W.fnOf "_law_value" "_law_value" (defArgs s__law_value) (defBody s__law_value) (defScope s__law_value) .none kV_8 dc_8 pm_8 an_8 cd_8 ct_8), sl_8⟩)
    (o__law_value : PySem.W.codeIn K cd_8 "_law_value" = true)
    (k__law_value : PySem.W.keepIn K (.ref a__law_value) = true)
    (g__law_count : PySem.W.nsIn K mainGlobals "_law_count" = some (some (.ref a__law_count)))
    (l__law_count : K.lookup a__law_count = some ⟨oc_9, od_9, .func (PySem.W.fnOf "_law_count" "_law_count" (defArgs s__law_count) (defBody s__law_count) (defScope s__law_count) .none kV_9 dc_9 pm_9 an_9 cd_9 ct_9), sl_9⟩)
    (o__law_count : PySem.W.codeIn K cd_9 "_law_count" = true)
    (k__law_count : PySem.W.keepIn K (.ref a__law_count) = true)
    (g__law_pairs : PySem.W.nsIn K mainGlobals "_law_pairs" = some (some (.ref a__law_pairs)))
    (l__law_pairs : K.lookup a__law_pairs = some ⟨oc_10, od_10, .func (PySem.W.fnOf "_law_pairs" "_law_pairs" (defArgs s__law_pairs) (defBody s__law_pairs) (defScope s__law_pairs) .none kV_10 dc_10 pm_10 an_10 cd_10 ct_10), sl_10⟩)
    (o__law_pairs : PySem.W.codeIn K cd_10 "_law_pairs" = true)
    (k__law_pairs : PySem.W.keepIn K (.ref a__law_pairs) = true)
    (g__law_least : PySem.W.nsIn K mainGlobals "_law_least" = some (some (.ref a__law_least)))
    (l__law_least : K.lookup a__law_least = some ⟨oc_11, od_11, .func (PySem.W.fnOf "_law_least" "_law_least" (defArgs s__law_least) (defBody s__law_least) (defScope s__law_least) .none kV_11 dc_11 pm_11 an_11 cd_11 ct_11), sl_11⟩)
    (o__law_least : PySem.W.codeIn K cd_11 "_law_least" = true)
    (k__law_least : PySem.W.keepIn K (.ref a__law_least) = true)
    (g__law_row : PySem.W.nsIn K mainGlobals "_law_row" = some (some (.ref a__law_row)))
    (l__law_row : K.lookup a__law_row = some ⟨oc_12, od_12, .func (PySem.W.fnOf "_law_row" "_law_row" (defArgs s__law_row) (defBody s__law_row) (defScope s__law_row) .none kV_12 dc_12 pm_12 an_12 cd_12 ct_12), sl_12⟩)
    (o__law_row : PySem.W.codeIn K cd_12 "_law_row" = true)
    (k__law_row : PySem.W.keepIn K (.ref a__law_row) = true)
    (g__law_walked : PySem.W.nsIn K mainGlobals "_law_walked" = some (some (.ref a__law_walked)))
    (l__law_walked : K.lookup a__law_walked = some ⟨oc_13, od_13, .func (PySem.W.fnOf "_law_walked" "_law_walked" (defArgs s__law_walked) (defBody s__law_walked) (defScope s__law_walked) .none kV_13 dc_13 pm_13 an_13 cd_13 ct_13), sl_13⟩)
    (o__law_walked : PySem.W.codeIn K cd_13 "_law_walked" = true)
    (k__law_walked : PySem.W.keepIn K (.ref a__law_walked) = true)
    (g__law_most : PySem.W.nsIn K mainGlobals "_law_most" = some (some (.ref a__law_most)))
    (l__law_most : K.lookup a__law_most = some ⟨oc_14, od_14, .func (PySem.W.fnOf "_law_most" "_law_most" (defArgs s__law_most) (defBody s__law_most) (defScope s__law_most) .none kV_14 dc_14 pm_14 an_14 cd_14 ct_14), sl_14⟩)
    (o__law_most : PySem.W.codeIn K cd_14 "_law_most" = true)
    (k__law_most : PySem.W.keepIn K (.ref a__law_most) = true)
    (g__law_refused : PySem.W.nsIn K mainGlobals "_law_refused" = some (some (.ref a__law_refused)))
    (l__law_refused : K.lookup a__law_refused = some ⟨oc_15, od_15, .func (PySem.W.fnOf "_law_refused" "_law_refused" (defArgs s__law_refused) (defBody s__law_refused) (defScope s__law_refused) .none kV_15 dc_15 pm_15 an_15 cd_15 ct_15), sl_15⟩)
    (o__law_refused : PySem.W.codeIn K cd_15 "_law_refused" = true)
    (k__law_refused : PySem.W.keepIn K (.ref a__law_refused) = true)
    (g__law_any : PySem.W.nsIn K mainGlobals "_law_any" = some (some (.ref a__law_any)))
    (l__law_any : K.lookup a__law_any = some ⟨oc_16, od_16, .func (PySem.W.fnOf "_law_any" "_law_any" (defArgs s__law_any) (defBody s__law_any) (defScope s__law_any) .none kV_16 dc_16 pm_16 an_16 cd_16 ct_16), sl_16⟩)
    (o__law_any : PySem.W.codeIn K cd_16 "_law_any" = true)
    (k__law_any : PySem.W.keepIn K (.ref a__law_any) = true)
    (g__law_within : PySem.W.nsIn K mainGlobals "_law_within" = some (some (.ref a__law_within)))
    (l__law_within : K.lookup a__law_within = some ⟨oc_17, od_17, .func (PySem.W.fnOf "_law_within" "_law_within" (defArgs s__law_within) (defBody s__law_within) (defScope s__law_within) .none kV_17 dc_17 pm_17 an_17 cd_17 ct_17), sl_17⟩)
    (o__law_within : PySem.W.codeIn K cd_17 "_law_within" = true)
    (k__law_within : PySem.W.keepIn K (.ref a__law_within) = true)
    (g_law : PySem.W.nsIn K mainGlobals "law" = some (some (.ref a_law)))
    (l_law : K.lookup a_law = some ⟨oc_18, od_18, .func (PySem.W.fnOf "law" "law" (defArgs s_law) (defBody s_law) (defScope s_law) .none kV_18 dc_18 pm_18 an_18 cd_18 ct_18), sl_18⟩)
    (o_law : PySem.W.codeIn K cd_18 "law" = true)
    (k_law : PySem.W.keepIn K (.ref a_law) = true)
    (w_MOST_SUM : PySem.W.nsIn K mainGlobals "MOST_SUM" = some (some (.int 1000 tk_MOST_SUM)))
    (m_ValueError : PySem.W.nsIn K mainGlobals "ValueError" = some none)
    (m_bool : PySem.W.nsIn K mainGlobals "bool" = some none)
    (m_int : PySem.W.nsIn K mainGlobals "int" = some none)
    (m_isinstance : PySem.W.nsIn K mainGlobals "isinstance" = some none)
    (m_len : PySem.W.nsIn K mainGlobals "len" = some none)
    (m_list : PySem.W.nsIn K mainGlobals "list" = some none)
    (m_min : PySem.W.nsIn K mainGlobals "min" = some none)
    (m_range : PySem.W.nsIn K mainGlobals "range" = some none)
    (m_sorted : PySem.W.nsIn K mainGlobals "sorted" = some none)
    (m_sum : PySem.W.nsIn K mainGlobals "sum" = some none)
    : ∃ T : Tx K mg, T.a_law = a_law ∧ (∀ (s : Shared) (v : Value), BindsTo s T.d_law ⟨[v], []⟩ [("_law_script", v)]) := by
  have F_check_sum := fun_mk (st := s_check_sum) l_check_sum o_check_sum k_check_sum
  have B_check_sum := F_check_sum.binds (ps := P_check_sum) fun _ _ _ _ _ _ us hl => match us, hl with | [_], _ => rfl
  have F_table := fun_mk (st := s_table) l_table o_table k_table
  have B_table := F_table.binds (ps := P_table) fun _ _ _ _ _ _ us hl => match us, hl with | [_, _], _ => rfl
  have F_with_kind := fun_mk (st := s_with_kind) l_with_kind o_with_kind k_with_kind
  have B_with_kind := F_with_kind.binds (ps := P_with_kind) fun _ _ _ _ _ _ us hl => match us, hl with | [_, _, _], _ => rfl
  have F__bundles := fun_mk (st := s__bundles) l__bundles o__bundles k__bundles
  have B__bundles := F__bundles.binds (ps := P__bundles) fun _ _ _ _ _ _ us hl => match us, hl with | [_], _ => rfl
  have F__with_bundle := fun_mk (st := s__with_bundle) l__with_bundle o__with_bundle k__with_bundle
  have B__with_bundle := F__with_bundle.binds (ps := P__with_bundle) fun _ _ _ _ _ _ us hl => match us, hl with | [_, _, _], _ => rfl
  have F__law_cell_at := fun_mk (st := s__law_cell_at) l__law_cell_at o__law_cell_at k__law_cell_at
  have B__law_cell_at := F__law_cell_at.binds (ps := P__law_cell_at) fun _ _ _ _ _ _ us hl => match us, hl with | [_, _], _ => rfl
  have F__law_whole := fun_mk (st := s__law_whole) l__law_whole o__law_whole k__law_whole
  have B__law_whole := F__law_whole.binds (ps := P__law_whole) fun _ _ _ _ _ _ us hl => match us, hl with | [_], _ => rfl
  have F__law_mixed := fun_mk (st := s__law_mixed) l__law_mixed o__law_mixed k__law_mixed
  have B__law_mixed := F__law_mixed.binds (ps := P__law_mixed) fun _ _ _ _ _ _ us hl => match us, hl with | [_, _], _ => rfl
  have F__law_value := fun_mk (st := s__law_value) l__law_value o__law_value k__law_value
  have B__law_value := F__law_value.binds (ps := P__law_value) fun _ _ _ _ _ _ us hl => match us, hl with | [_, _], _ => rfl
  have F__law_count := fun_mk (st := s__law_count) l__law_count o__law_count k__law_count
  have B__law_count := F__law_count.binds (ps := P__law_count) fun _ _ _ _ _ _ us hl => match us, hl with | [_, _], _ => rfl
  have F__law_pairs := fun_mk (st := s__law_pairs) l__law_pairs o__law_pairs k__law_pairs
  have B__law_pairs := F__law_pairs.binds (ps := P__law_pairs) fun _ _ _ _ _ _ us hl => match us, hl with | [_], _ => rfl
  have F__law_least := fun_mk (st := s__law_least) l__law_least o__law_least k__law_least
  have B__law_least := F__law_least.binds (ps := P__law_least) fun _ _ _ _ _ _ us hl => match us, hl with | [_, _, _, _], _ => rfl
  have F__law_row := fun_mk (st := s__law_row) l__law_row o__law_row k__law_row
  have B__law_row := F__law_row.binds (ps := P__law_row) fun _ _ _ _ _ _ us hl => match us, hl with | [_, _], _ => rfl
  have F__law_walked := fun_mk (st := s__law_walked) l__law_walked o__law_walked k__law_walked
  have B__law_walked := F__law_walked.binds (ps := P__law_walked) fun _ _ _ _ _ _ us hl => match us, hl with | [_, _, _], _ => rfl
  have F__law_most := fun_mk (st := s__law_most) l__law_most o__law_most k__law_most
  have B__law_most := F__law_most.binds (ps := P__law_most) fun _ _ _ _ _ _ us hl => match us, hl with | [_, _], _ => rfl
  have F__law_refused := fun_mk (st := s__law_refused) l__law_refused o__law_refused k__law_refused
  have B__law_refused := F__law_refused.binds (ps := P__law_refused) fun _ _ _ _ _ _ us hl => match us, hl with | [_, _], _ => rfl
  have F__law_any := fun_mk (st := s__law_any) l__law_any o__law_any k__law_any
  have B__law_any := F__law_any.binds (ps := P__law_any) fun _ _ _ _ _ _ us hl => match us, hl with | [_, _], _ => rfl
  have F__law_within := fun_mk (st := s__law_within) l__law_within o__law_within k__law_within
  have B__law_within := F__law_within.binds (ps := P__law_within) fun _ _ _ _ _ _ us hl => match us, hl with | [_, _], _ => rfl
  have F_law := fun_mk (st := s_law) l_law o_law k_law
  have B_law := F_law.binds (ps := P_law) fun _ _ _ _ _ _ us hl => match us, hl with | [_], _ => rfl
  exact ⟨{
    c_TillError := c_TillError,
    c_NoTill := c_NoTill,
    c_NoKind := c_NoKind,
    c_Twice := c_Twice,
    c_NoCount := c_NoCount,
    c_NoSum := c_NoSum,
    c_TooLittle := c_TooLittle,
    c_NoChange := c_NoChange,
    c_TooFew := c_TooFew,
    c_StillHeld := c_StillHeld,
    c_NoDeed := c_NoDeed,
    a_check_sum := a_check_sum, d_check_sum := _,
    a_table := a_table, d_table := _,
    a_with_kind := a_with_kind, d_with_kind := _,
    a__bundles := a__bundles, d__bundles := _,
    a__with_bundle := a__with_bundle, d__with_bundle := _,
    a__law_cell_at := a__law_cell_at, d__law_cell_at := _,
    a__law_whole := a__law_whole, d__law_whole := _,
    a__law_mixed := a__law_mixed, d__law_mixed := _,
    a__law_value := a__law_value, d__law_value := _,
    a__law_count := a__law_count, d__law_count := _,
    a__law_pairs := a__law_pairs, d__law_pairs := _,
    a__law_least := a__law_least, d__law_least := _,
    a__law_row := a__law_row, d__law_row := _,
    a__law_walked := a__law_walked, d__law_walked := _,
    a__law_most := a__law_most, d__law_most := _,
    a__law_refused := a__law_refused, d__law_refused := _,
    a__law_any := a__law_any, d__law_any := _,
    a__law_within := a__law_within, d__law_within := _,
    a_law := a_law, d_law := _,
    g_TillError := PySem.W.mg_of X G g_TillError, x_TillError := x_TillError, k_TillError := k_TillError, b_TillError := b_TillError, t_TillError := t_TillError, i_TillError := i_TillError,
    g_NoTill := PySem.W.mg_of X G g_NoTill, x_NoTill := x_NoTill, k_NoTill := k_NoTill, b_NoTill := b_NoTill, t_NoTill := t_NoTill, i_NoTill := i_NoTill,
    g_NoKind := PySem.W.mg_of X G g_NoKind, x_NoKind := x_NoKind, k_NoKind := k_NoKind, b_NoKind := b_NoKind, t_NoKind := t_NoKind, i_NoKind := i_NoKind,
    g_Twice := PySem.W.mg_of X G g_Twice, x_Twice := x_Twice, k_Twice := k_Twice, b_Twice := b_Twice, t_Twice := t_Twice, i_Twice := i_Twice,
    g_NoCount := PySem.W.mg_of X G g_NoCount, x_NoCount := x_NoCount, k_NoCount := k_NoCount, b_NoCount := b_NoCount, t_NoCount := t_NoCount, i_NoCount := i_NoCount,
    g_NoSum := PySem.W.mg_of X G g_NoSum, x_NoSum := x_NoSum, k_NoSum := k_NoSum, b_NoSum := b_NoSum, t_NoSum := t_NoSum, i_NoSum := i_NoSum,
    g_TooLittle := PySem.W.mg_of X G g_TooLittle, x_TooLittle := x_TooLittle, k_TooLittle := k_TooLittle, b_TooLittle := b_TooLittle, t_TooLittle := t_TooLittle, i_TooLittle := i_TooLittle,
    g_NoChange := PySem.W.mg_of X G g_NoChange, x_NoChange := x_NoChange, k_NoChange := k_NoChange, b_NoChange := b_NoChange, t_NoChange := t_NoChange, i_NoChange := i_NoChange,
    g_TooFew := PySem.W.mg_of X G g_TooFew, x_TooFew := x_TooFew, k_TooFew := k_TooFew, b_TooFew := b_TooFew, t_TooFew := t_TooFew, i_TooFew := i_TooFew,
    g_StillHeld := PySem.W.mg_of X G g_StillHeld, x_StillHeld := x_StillHeld, k_StillHeld := k_StillHeld, b_StillHeld := b_StillHeld, t_StillHeld := t_StillHeld, i_StillHeld := i_StillHeld,
    g_NoDeed := PySem.W.mg_of X G g_NoDeed, x_NoDeed := x_NoDeed, k_NoDeed := k_NoDeed, b_NoDeed := b_NoDeed, t_NoDeed := t_NoDeed, i_NoDeed := i_NoDeed,
    u_NoSum_NoSum := u_NoSum_NoSum,
    u_NoSum_TillError := u_NoSum_TillError,
    u_NoSum_NoChange := u_NoSum_NoChange,
    u_NoSum_NoCount := u_NoSum_NoCount,
    u_NoSum_NoDeed := u_NoSum_NoDeed,
    u_NoSum_NoKind := u_NoSum_NoKind,
    u_NoSum_NoTill := u_NoSum_NoTill,
    u_NoSum_StillHeld := u_NoSum_StillHeld,
    u_NoSum_TooFew := u_NoSum_TooFew,
    u_NoSum_TooLittle := u_NoSum_TooLittle,
    u_NoSum_Twice := u_NoSum_Twice,
    e_NoSum := ⟨hg_NoSum, hk_NoSum, b_NoSum, hd_NoSum, ha_NoSum, hn, ht, hm_NoSum⟩, z_NoSum := kone_ty z_NoSum, y_NoSum := (kany_f (kone_own n_NoSum_NoChange i_NoChange t_NoChange u_NoSum_NoChange) (kany_f (kone_own n_NoSum_NoCount i_NoCount t_NoCount u_NoSum_NoCount) (kany_f (kone_own n_NoSum_NoDeed i_NoDeed t_NoDeed u_NoSum_NoDeed) (kany_f (kone_own n_NoSum_NoKind i_NoKind t_NoKind u_NoSum_NoKind) (kany_f (kone_own n_NoSum_NoTill i_NoTill t_NoTill u_NoSum_NoTill) (kany_f (kone_own n_NoSum_StillHeld i_StillHeld t_StillHeld u_NoSum_StillHeld) (kany_f (kone_own n_NoSum_TooFew i_TooFew t_TooFew u_NoSum_TooFew) (kany_f (kone_own n_NoSum_TooLittle i_TooLittle t_TooLittle u_NoSum_TooLittle) (kany_f (kone_own n_NoSum_Twice i_Twice t_Twice u_NoSum_Twice) kitAny_nil))))))))),
    f_check_sum := F_check_sum, p_check_sum := B_check_sum, g_check_sum := PySem.W.mg_of X G g_check_sum,
    f_table := F_table, p_table := B_table, g_table := PySem.W.mg_of X G g_table,
    f_with_kind := F_with_kind, p_with_kind := B_with_kind, g_with_kind := PySem.W.mg_of X G g_with_kind,
    f__bundles := F__bundles, p__bundles := B__bundles, g__bundles := PySem.W.mg_of X G g__bundles,
    f__with_bundle := F__with_bundle, p__with_bundle := B__with_bundle, g__with_bundle := PySem.W.mg_of X G g__with_bundle,
    f__law_cell_at := F__law_cell_at, p__law_cell_at := B__law_cell_at, g__law_cell_at := PySem.W.mg_of X G g__law_cell_at,
    f__law_whole := F__law_whole, p__law_whole := B__law_whole, g__law_whole := PySem.W.mg_of X G g__law_whole,
    f__law_mixed := F__law_mixed, p__law_mixed := B__law_mixed, g__law_mixed := PySem.W.mg_of X G g__law_mixed,
    f__law_value := F__law_value, p__law_value := B__law_value, g__law_value := PySem.W.mg_of X G g__law_value,
    f__law_count := F__law_count, p__law_count := B__law_count, g__law_count := PySem.W.mg_of X G g__law_count,
    f__law_pairs := F__law_pairs, p__law_pairs := B__law_pairs, g__law_pairs := PySem.W.mg_of X G g__law_pairs,
    f__law_least := F__law_least, p__law_least := B__law_least, g__law_least := PySem.W.mg_of X G g__law_least,
    f__law_row := F__law_row, p__law_row := B__law_row, g__law_row := PySem.W.mg_of X G g__law_row,
    f__law_walked := F__law_walked, p__law_walked := B__law_walked, g__law_walked := PySem.W.mg_of X G g__law_walked,
    f__law_most := F__law_most, p__law_most := B__law_most, g__law_most := PySem.W.mg_of X G g__law_most,
    f__law_refused := F__law_refused, p__law_refused := B__law_refused, g__law_refused := PySem.W.mg_of X G g__law_refused,
    f__law_any := F__law_any, p__law_any := B__law_any, g__law_any := PySem.W.mg_of X G g__law_any,
    f__law_within := F__law_within, p__law_within := B__law_within, g__law_within := PySem.W.mg_of X G g__law_within,
    f_law := F_law, p_law := B_law, g_law := PySem.W.mg_of X G g_law,
    w_MOST_SUM := ⟨_, PySem.W.mg_of X G w_MOST_SUM⟩,
    m_ValueError := PySem.W.mg_none_of X G m_ValueError,
    m_bool := PySem.W.mg_none_of X G m_bool,
    m_int := PySem.W.mg_none_of X G m_int,
    m_isinstance := PySem.W.mg_none_of X G m_isinstance,
    m_len := PySem.W.mg_none_of X G m_len,
    m_list := PySem.W.mg_none_of X G m_list,
    m_min := PySem.W.mg_none_of X G m_min,
    m_range := PySem.W.mg_none_of X G m_range,
    m_sorted := PySem.W.mg_none_of X G m_sorted,
    m_sum := PySem.W.mg_none_of X G m_sum }, rfl, fun s v => .of_eq rfl⟩

theorem fin {l : PySem.W.OpenLaw} {w : World} {K : PySem.W.Frag} {h : Heap} {mg : Str → Option Value} {fa a_law : Addr} (X : K.In h) (G : h.Ns mainGlobals mg) (hfa : mg "law" = some (.ref fa))
    (x : ∃ T : Tx K mg, T.a_law = a_law ∧ (∀ (s : Shared) (v : Value), BindsTo s T.d_law ⟨[v], []⟩ [("_law_script", v)])) :
    ∃ fd : FuncData, (∀ (s : Shared) (v : Value), BindsTo s fd ⟨[v], []⟩ [("_law_script", v)]) ∧ ∀ base : Heap, K.In base → base.Ns mainGlobals mg → FnOk l.prog w K mg base CX0 5 fa fd ["_law_script"] (spLaw K) := by
  obtain ⟨T, _, hb⟩ := x
  have e := hfa.symm.trans T.g_law
  cases e
  exact ⟨T.d_law, hb, fun base _ _ => ok_law T⟩

end K04
open PySem PySem.W PyProof.Rows
set_option maxRecDepth 100000 in
set_option maxHeartbeats 0 in
theorem PySem.Challenge.cw_tilldrawer_k04_whole_table_holds : PySem.Challenge.rw_tilldrawer_k04_whole_table.Holds := by
  w_on; o_law; k_head; (case hw => w_witness2)
  k_fill
  refine L2.walk_ofK (l := PySem.Challenge.rw_tilldrawer_k04_whole_table) (n := 63) (k := 5) (x := "_law_script") (CX := L2.CX0) (sp := K04.spLaw) rfl (by decide) rfl ⟨rfl, by decide, by decide⟩ (fun w h Y => PySem.W.kIn_of Y) ?F (fun K H a ns hl hO hS => K04.law_start hl hO hS) (fun _ _ _ _ h => h)
  case F =>
    intro w mg fa h KX G hmg
    refine' K04.fin KX G hmg (K04.tx_mk KX G ?g_TillError ?x_TillError ?k_TillError ?b_TillError ?t_TillError ?i_TillError ?g_NoTill ?x_NoTill ?k_NoTill ?b_NoTill ?t_NoTill ?i_NoTill ?g_NoKind ?x_NoKind ?k_NoKind ?b_NoKind ?t_NoKind ?i_NoKind ?g_Twice ?x_Twice ?k_Twice ?b_Twice ?t_Twice ?i_Twice ?g_NoCount ?x_NoCount ?k_NoCount ?b_NoCount ?t_NoCount ?i_NoCount ?g_NoSum ?x_NoSum ?k_NoSum ?b_NoSum ?t_NoSum ?i_NoSum ?g_TooLittle ?x_TooLittle ?k_TooLittle ?b_TooLittle ?t_TooLittle ?i_TooLittle ?g_NoChange ?x_NoChange ?k_NoChange ?b_NoChange ?t_NoChange ?i_NoChange ?g_TooFew ?x_TooFew ?k_TooFew ?b_TooFew ?t_TooFew ?i_TooFew ?g_StillHeld ?x_StillHeld ?k_StillHeld ?b_StillHeld ?t_StillHeld ?i_StillHeld ?g_NoDeed ?x_NoDeed ?k_NoDeed ?b_NoDeed ?t_NoDeed ?i_NoDeed ?u_NoSum_NoSum ?u_NoSum_TillError ?u_NoSum_NoChange ?u_NoSum_NoCount ?u_NoSum_NoDeed ?u_NoSum_NoKind ?u_NoSum_NoTill ?u_NoSum_StillHeld ?u_NoSum_TooFew ?u_NoSum_TooLittle ?u_NoSum_Twice ?hg_NoSum ?hk_NoSum ?hd_NoSum ?ha_NoSum ?hm_NoSum ?z_NoSum ?n_NoSum_NoChange ?n_NoSum_NoCount ?n_NoSum_NoDeed ?n_NoSum_NoKind ?n_NoSum_NoTill ?n_NoSum_StillHeld ?n_NoSum_TooFew ?n_NoSum_TooLittle ?n_NoSum_Twice ?hn ?ht ?g_check_sum ?l_check_sum ?o_check_sum ?k_check_sum ?g_table ?l_table ?o_table ?k_table ?g_with_kind ?l_with_kind ?o_with_kind ?k_with_kind ?g__bundles ?l__bundles ?o__bundles ?k__bundles ?g__with_bundle ?l__with_bundle ?o__with_bundle ?k__with_bundle ?g__law_cell_at ?l__law_cell_at ?o__law_cell_at ?k__law_cell_at ?g__law_whole ?l__law_whole ?o__law_whole ?k__law_whole ?g__law_mixed ?l__law_mixed ?o__law_mixed ?k__law_mixed ?g__law_value ?l__law_value ?o__law_value ?k__law_value ?g__law_count ?l__law_count ?o__law_count ?k__law_count ?g__law_pairs ?l__law_pairs ?o__law_pairs ?k__law_pairs ?g__law_least ?l__law_least ?o__law_least ?k__law_least ?g__law_row ?l__law_row ?o__law_row ?k__law_row ?g__law_walked ?l__law_walked ?o__law_walked ?k__law_walked ?g__law_most ?l__law_most ?o__law_most ?k__law_most ?g__law_refused ?l__law_refused ?o__law_refused ?k__law_refused ?g__law_any ?l__law_any ?o__law_any ?k__law_any ?g__law_within ?l__law_within ?o__law_within ?k__law_within ?g_law ?l_law ?o_law ?k_law ?w_MOST_SUM ?m_ValueError ?m_bool ?m_int ?m_isinstance ?m_len ?m_list ?m_min ?m_range ?m_sorted ?m_sum)
    (case g_TillError => k_is)
    (case x_TillError => k_exc)
    (case k_TillError => k_is)
    (case b_TillError => k_is)
    (case t_TillError => k_is)
    (case i_TillError => k_is)
    (case g_NoTill => k_is)
    (case x_NoTill => k_exc)
    (case k_NoTill => k_is)
    (case b_NoTill => k_is)
    (case t_NoTill => k_is)
    (case i_NoTill => k_is)
    (case g_NoKind => k_is)
    (case x_NoKind => k_exc)
    (case k_NoKind => k_is)
    (case b_NoKind => k_is)
    (case t_NoKind => k_is)
    (case i_NoKind => k_is)
    (case g_Twice => k_is)
    (case x_Twice => k_exc)
    (case k_Twice => k_is)
    (case b_Twice => k_is)
    (case t_Twice => k_is)
    (case i_Twice => k_is)
    (case g_NoCount => k_is)
    (case x_NoCount => k_exc)
    (case k_NoCount => k_is)
    (case b_NoCount => k_is)
    (case t_NoCount => k_is)
    (case i_NoCount => k_is)
    (case g_NoSum => k_is)
    (case x_NoSum => k_exc)
    (case k_NoSum => k_is)
    (case b_NoSum => k_is)
    (case t_NoSum => k_is)
    (case i_NoSum => k_is)
    (case g_TooLittle => k_is)
    (case x_TooLittle => k_exc)
    (case k_TooLittle => k_is)
    (case b_TooLittle => k_is)
    (case t_TooLittle => k_is)
    (case i_TooLittle => k_is)
    (case g_NoChange => k_is)
    (case x_NoChange => k_exc)
    (case k_NoChange => k_is)
    (case b_NoChange => k_is)
    (case t_NoChange => k_is)
    (case i_NoChange => k_is)
    (case g_TooFew => k_is)
    (case x_TooFew => k_exc)
    (case k_TooFew => k_is)
    (case b_TooFew => k_is)
    (case t_TooFew => k_is)
    (case i_TooFew => k_is)
    (case g_StillHeld => k_is)
    (case x_StillHeld => k_exc)
    (case k_StillHeld => k_is)
    (case b_StillHeld => k_is)
    (case t_StillHeld => k_is)
    (case i_StillHeld => k_is)
    (case g_NoDeed => k_is)
    (case x_NoDeed => k_exc)
    (case k_NoDeed => k_is)
    (case b_NoDeed => k_is)
    (case t_NoDeed => k_is)
    (case i_NoDeed => k_is)
    (case u_NoSum_NoSum => first | rfl | k_is)
    (case u_NoSum_TillError => first | rfl | k_is)
    (case u_NoSum_NoChange => first | rfl | k_is)
    (case u_NoSum_NoCount => first | rfl | k_is)
    (case u_NoSum_NoDeed => first | rfl | k_is)
    (case u_NoSum_NoKind => first | rfl | k_is)
    (case u_NoSum_NoTill => first | rfl | k_is)
    (case u_NoSum_StillHeld => first | rfl | k_is)
    (case u_NoSum_TooFew => first | rfl | k_is)
    (case u_NoSum_TooLittle => first | rfl | k_is)
    (case u_NoSum_Twice => first | rfl | k_is)
    (case hg_NoSum => k_is)
    (case hk_NoSum => k_is)
    (case hd_NoSum => k_is)
    (case ha_NoSum => k_is)
    (case hm_NoSum => k_is)
    (case z_NoSum => k_is)
    (case n_NoSum_NoChange => decide)
    (case n_NoSum_NoCount => decide)
    (case n_NoSum_NoDeed => decide)
    (case n_NoSum_NoKind => decide)
    (case n_NoSum_NoTill => decide)
    (case n_NoSum_StillHeld => decide)
    (case n_NoSum_TooFew => decide)
    (case n_NoSum_TooLittle => decide)
    (case n_NoSum_Twice => decide)
    (case hn => k_is)
    (case ht => k_is)
    (case g_check_sum => k_is)
    (case l_check_sum => k_is)
    (case o_check_sum => k_is)
    (case k_check_sum => k_is)
    (case g_table => k_is)
    (case l_table => k_is)
    (case o_table => k_is)
    (case k_table => k_is)
    (case g_with_kind => k_is)
    (case l_with_kind => k_is)
    (case o_with_kind => k_is)
    (case k_with_kind => k_is)
    (case g__bundles => k_is)
    (case l__bundles => k_is)
    (case o__bundles => k_is)
    (case k__bundles => k_is)
    (case g__with_bundle => k_is)
    (case l__with_bundle => k_is)
    (case o__with_bundle => k_is)
    (case k__with_bundle => k_is)
    (case g__law_cell_at => k_is)
    (case l__law_cell_at => k_is)
    (case o__law_cell_at => k_is)
    (case k__law_cell_at => k_is)
    (case g__law_whole => k_is)
    (case l__law_whole => k_is)
    (case o__law_whole => k_is)
    (case k__law_whole => k_is)
    (case g__law_mixed => k_is)
    (case l__law_mixed => k_is)
    (case o__law_mixed => k_is)
    (case k__law_mixed => k_is)
    (case g__law_value => k_is)
    (case l__law_value => k_is)
    (case o__law_value => k_is)
    (case k__law_value => k_is)
    (case g__law_count => k_is)
    (case l__law_count => k_is)
    (case o__law_count => k_is)
    (case k__law_count => k_is)
    (case g__law_pairs => k_is)
    (case l__law_pairs => k_is)
    (case o__law_pairs => k_is)
    (case k__law_pairs => k_is)
    (case g__law_least => k_is)
    (case l__law_least => k_is)
    (case o__law_least => k_is)
    (case k__law_least => k_is)
    (case g__law_row => k_is)
    (case l__law_row => k_is)
    (case o__law_row => k_is)
    (case k__law_row => k_is)
    (case g__law_walked => k_is)
    (case l__law_walked => k_is)
    (case o__law_walked => k_is)
    (case k__law_walked => k_is)
    (case g__law_most => k_is)
    (case l__law_most => k_is)
    (case o__law_most => k_is)
    (case k__law_most => k_is)
    (case g__law_refused => k_is)
    (case l__law_refused => k_is)
    (case o__law_refused => k_is)
    (case k__law_refused => k_is)
    (case g__law_any => k_is)
    (case l__law_any => k_is)
    (case o__law_any => k_is)
    (case k__law_any => k_is)
    (case g__law_within => k_is)
    (case l__law_within => k_is)
    (case o__law_within => k_is)
    (case k__law_within => k_is)
    (case g_law => k_is)
    (case l_law => k_is)
    (case o_law => k_is)
    (case k_law => k_is)
    (case w_MOST_SUM => k_is)
    (case m_ValueError => k_is)
    (case m_bool => k_is)
    (case m_int => k_is)
    (case m_isinstance => k_is)
    (case m_len => k_is)
    (case m_list => k_is)
    (case m_min => k_is)
    (case m_range => k_is)
    (case m_sorted => k_is)
    (case m_sum => k_is)

