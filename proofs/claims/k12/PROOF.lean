import PyProof.Rows.All
import Wide.All
import OpenK.AllK
import Wide.FinOn
import PyProof.EqAt
import PyProof.EqKinds
import PyProof.TupleCall
import HandS.ForMost
import HandS.ForExc
import HandS.TryMany
import HandS.Sort
import HandS.SortRule
import HandS.IsInst
import HandS.ExcIs
import HandS.Evl
import HandS.Walk
import HandS.Strs
import HandS.SetFor
import HandS.RevRange
import HandS.Conv
import HandS.Style
import HandS.Zip
import PySem.Challenge.RW_tilldrawer_k12_every_deal
set_option Elab.async false
set_option linter.all false
set_option maxRecDepth 100000
set_option maxHeartbeats 4000000
namespace K12
open PySem PySem.Spec PyProof.Rows L2
def topS (i : Nat) : Stmt := PySem.Challenge.pw_tilldrawer_k12_every_deal.main.body.getD i (.Pass ⟨0, 0, 0, 0⟩)
abbrev s_worth : Stmt := topS 6
abbrev N_worth : List Str := ["till", "value", "count"]
abbrev P_worth : List Str := ["till"]
theorem sc_worth : FnScope N_worth P_worth (defScope s_worth) := ⟨rfl, rfl, rfl, by decide +kernel, rfl, by decide +kernel, by decide +kernel⟩
abbrev s_check_sum : Stmt := topS 9
abbrev N_check_sum : List Str := ["due"]
abbrev P_check_sum : List Str := ["due"]
theorem sc_check_sum : FnScope N_check_sum P_check_sum (defScope s_check_sum) := ⟨rfl, rfl, rfl, by decide +kernel, rfl, by decide +kernel, by decide +kernel⟩
abbrev s_with_kind : Stmt := topS 10
abbrev N_with_kind : List Str := ["row", "value", "count", "out", "usable", "size"]
abbrev P_with_kind : List Str := ["row", "value", "count"]
theorem sc_with_kind : FnScope N_with_kind P_with_kind (defScope s_with_kind) := ⟨rfl, rfl, rfl, by decide +kernel, rfl, by decide +kernel, by decide +kernel⟩
abbrev s__bundles : Stmt := topS 11
abbrev N__bundles : List Str := ["count", "sizes", "size", "taken"]
abbrev P__bundles : List Str := ["count"]
theorem sc__bundles : FnScope N__bundles P__bundles (defScope s__bundles) := ⟨rfl, rfl, rfl, by decide +kernel, rfl, by decide +kernel, by decide +kernel⟩
abbrev s__with_bundle : Stmt := topS 12
abbrev N__with_bundle : List Str := ["row", "value", "size", "out", "due", "rest"]
abbrev P__with_bundle : List Str := ["row", "value", "size"]
theorem sc__with_bundle : FnScope N__with_bundle P__with_bundle (defScope s__with_bundle) := ⟨rfl, rfl, rfl, by decide +kernel, rfl, by decide +kernel, by decide +kernel⟩
abbrev s_scales : Stmt := topS 15
abbrev N_scales : List Str := ["till", "purse", "below", "above", "held", "row", "rows", "value", "lies"]
abbrev P_scales : List Str := ["till", "purse"]
theorem sc_scales : FnScope N_scales P_scales (defScope s_scales) := ⟨rfl, rfl, rfl, by decide +kernel, rfl, by decide +kernel, by decide +kernel⟩
abbrev s_deal : Stmt := topS 16
abbrev N_deal : List Str := ["till", "purse", "price", "rows", "place", "way", "handed", "back", "value", "number"]
abbrev P_deal : List Str := ["till", "purse", "price"]
theorem sc_deal : FnScope N_deal P_deal (defScope s_deal) := ⟨rfl, rfl, rfl, by decide +kernel, rfl, by decide +kernel, by decide +kernel⟩
abbrev s__check_purse : Stmt := topS 17
abbrev N__check_purse : List Str := ["till", "purse", "there", "value", "_"]
abbrev P__check_purse : List Str := ["till", "purse"]
theorem sc__check_purse : FnScope N__check_purse P__check_purse (defScope s__check_purse) := ⟨rfl, rfl, rfl, by decide +kernel, rfl, by decide +kernel, by decide +kernel⟩
abbrev s__with_numbers : Stmt := topS 18
abbrev N__with_numbers : List Str := ["row", "value", "lies", "held", "paying"]
abbrev P__with_numbers : List Str := ["row", "value", "lies", "held"]
theorem sc__with_numbers : FnScope N__with_numbers P__with_numbers (defScope s__with_numbers) := ⟨rfl, rfl, rfl, by decide +kernel, rfl, by decide +kernel, by decide +kernel⟩
abbrev s__best_way : Stmt := topS 19
abbrev N__best_way : List Str := ["rows", "till", "purse", "place", "held", "way", "at", "value", "lies", "number"]
abbrev P__best_way : List Str := ["rows", "till", "purse", "place"]
theorem sc__best_way : FnScope N__best_way P__best_way (defScope s__best_way) := ⟨rfl, rfl, rfl, by decide +kernel, rfl, by decide +kernel, by decide +kernel⟩
abbrev s__greatest_number : Stmt := topS 20
abbrev N__greatest_number : List Str := ["row", "least", "place", "value", "lies", "held", "lowest", "highest", "number"]
abbrev P__greatest_number : List Str := ["row", "least", "place", "value", "lies", "held"]
theorem sc__greatest_number : FnScope N__greatest_number P__greatest_number (defScope s__greatest_number) := ⟨rfl, rfl, rfl, by decide +kernel, rfl, by decide +kernel, by decide +kernel⟩
abbrev s__law_cell_at : Stmt := topS 22
abbrev N__law_cell_at : List Str := ["_law_script", "_law_k"]
abbrev P__law_cell_at : List Str := ["_law_script", "_law_k"]
theorem sc__law_cell_at : FnScope N__law_cell_at P__law_cell_at (defScope s__law_cell_at) := ⟨rfl, rfl, rfl, by decide +kernel, rfl, by decide +kernel, by decide +kernel⟩
abbrev s__law_whole : Stmt := topS 23
abbrev N__law_whole : List Str := ["_law_found"]
abbrev P__law_whole : List Str := ["_law_found"]
theorem sc__law_whole : FnScope N__law_whole P__law_whole (defScope s__law_whole) := ⟨rfl, rfl, rfl, by decide +kernel, rfl, by decide +kernel, by decide +kernel⟩
abbrev s__law_mixed : Stmt := topS 24
abbrev N__law_mixed : List Str := ["_law_cell", "_law_k"]
abbrev P__law_mixed : List Str := ["_law_cell", "_law_k"]
theorem sc__law_mixed : FnScope N__law_mixed P__law_mixed (defScope s__law_mixed) := ⟨rfl, rfl, rfl, by decide +kernel, rfl, by decide +kernel, by decide +kernel⟩
abbrev s__law_value : Stmt := topS 25
abbrev N__law_value : List Str := ["_law_cell", "_law_k", "_law_drawn"]
abbrev P__law_value : List Str := ["_law_cell", "_law_k"]
theorem sc__law_value : FnScope N__law_value P__law_value (defScope s__law_value) := ⟨rfl, rfl, rfl, by decide +kernel, rfl, by decide +kernel, by decide +kernel⟩
abbrev s__law_till_and_purse : Stmt := topS 26
abbrev N__law_till_and_purse : List Str := ["_law_script", "_law_most", "_law_many", "_law_till", "_law_purse", "_law_seen", "_law_low", "_law_k", "_law_value_here", "_law_drawn", "_law_count", "_law_own_here"]
abbrev P__law_till_and_purse : List Str := ["_law_script", "_law_most"]
theorem sc__law_till_and_purse : FnScope N__law_till_and_purse P__law_till_and_purse (defScope s__law_till_and_purse) := ⟨rfl, rfl, rfl, by decide +kernel, rfl, by decide +kernel, by decide +kernel⟩
abbrev s__law_own : Stmt := topS 27
abbrev N__law_own : List Str := ["_law_purse", "_law_value_here", "_law_pair"]
abbrev P__law_own : List Str := ["_law_purse", "_law_value_here"]
theorem sc__law_own : FnScope N__law_own P__law_own (defScope s__law_own) := ⟨rfl, rfl, rfl, by decide +kernel, rfl, by decide +kernel, by decide +kernel⟩
abbrev s__law_deal : Stmt := topS 28
abbrev N__law_deal : List Str := ["_law_till", "_law_purse", "_law_price"]
abbrev P__law_deal : List Str := ["_law_till", "_law_purse", "_law_price"]
theorem sc__law_deal : FnScope N__law_deal P__law_deal (defScope s__law_deal) := ⟨rfl, rfl, rfl, by decide +kernel, rfl, by decide +kernel, by decide +kernel⟩
abbrev s__law_ways : Stmt := topS 29
abbrev N__law_ways : List Str := ["_law_till", "_law_purse", "_law_ways_here", "_law_pair", "_law_more", "_law_one", "_law_many"]
abbrev P__law_ways : List Str := ["_law_till", "_law_purse"]
theorem sc__law_ways : FnScope N__law_ways P__law_ways (defScope s__law_ways) := ⟨rfl, rfl, rfl, by decide +kernel, rfl, by decide +kernel, by decide +kernel⟩
abbrev s__law_worth : Stmt := topS 30
abbrev N__law_worth : List Str := ["_law_till", "_law_way", "_law_total", "_law_pair", "_law_many"]
abbrev P__law_worth : List Str := ["_law_till", "_law_way"]
theorem sc__law_worth : FnScope N__law_worth P__law_worth (defScope s__law_worth) := ⟨rfl, rfl, rfl, by decide +kernel, rfl, by decide +kernel, by decide +kernel⟩
abbrev s__law_few : Stmt := topS 31
abbrev N__law_few : List Str := ["_law_way", "_law_many"]
abbrev P__law_few : List Str := ["_law_way"]
theorem sc__law_few : FnScope N__law_few P__law_few (defScope s__law_few) := ⟨rfl, rfl, rfl, by decide +kernel, rfl, by decide +kernel, by decide +kernel⟩
abbrev s__law_better : Stmt := topS 32
abbrev N__law_better : List Str := ["_law_one", "_law_other", "_law_k", "_law_at"]
abbrev P__law_better : List Str := ["_law_one", "_law_other"]
theorem sc__law_better : FnScope N__law_better P__law_better (defScope s__law_better) := ⟨rfl, rfl, rfl, by decide +kernel, rfl, by decide +kernel, by decide +kernel⟩
abbrev s__law_pairs_alike : Stmt := topS 33
abbrev N__law_pairs_alike : List Str := ["_law_found", "_law_due", "_law_pair"]
abbrev P__law_pairs_alike : List Str := ["_law_found", "_law_due"]
theorem sc__law_pairs_alike : FnScope N__law_pairs_alike P__law_pairs_alike (defScope s__law_pairs_alike) := ⟨rfl, rfl, rfl, by decide +kernel, rfl, by decide +kernel, by decide +kernel⟩
abbrev s_law : Stmt := topS 34
abbrev N_law : List Str := ["_law_script", "_law_drawn", "_law_till", "_law_purse", "_law_ways_here", "_law_cell", "_law_price", "_law_best", "_law_one", "_law_found", "_law_paying", "_law_giving", "_law_pair", "_law_many"]
abbrev P_law : List Str := ["_law_script"]
theorem sc_law : FnScope N_law P_law (defScope s_law) := ⟨rfl, rfl, rfl, by decide +kernel, rfl, by decide +kernel, by decide +kernel⟩
/-- what the top has written -/
structure Tx (K : PySem.W.Frag) (mg : Str → Option Value) : Type where
  c_TillError : Addr
  c_NoKind : Addr
  c_NoSum : Addr
  c_NoChange : Addr
  a_worth : Addr
  d_worth : FuncData
  a_check_sum : Addr
  d_check_sum : FuncData
  a_with_kind : Addr
  d_with_kind : FuncData
  a__bundles : Addr
  d__bundles : FuncData
  a__with_bundle : Addr
  d__with_bundle : FuncData
  a_scales : Addr
  d_scales : FuncData
  a_deal : Addr
  d_deal : FuncData
  a__check_purse : Addr
  d__check_purse : FuncData
  a__with_numbers : Addr
  d__with_numbers : FuncData
  a__best_way : Addr
  d__best_way : FuncData
  a__greatest_number : Addr
  d__greatest_number : FuncData
  a__law_cell_at : Addr
  d__law_cell_at : FuncData
  a__law_whole : Addr
  d__law_whole : FuncData
  a__law_mixed : Addr
  d__law_mixed : FuncData
  a__law_value : Addr
  d__law_value : FuncData
  a__law_till_and_purse : Addr
  d__law_till_and_purse : FuncData
  a__law_own : Addr
  d__law_own : FuncData
  a__law_deal : Addr
  d__law_deal : FuncData
  a__law_ways : Addr
  d__law_ways : FuncData
  a__law_worth : Addr
  d__law_worth : FuncData
  a__law_few : Addr
  d__law_few : FuncData
  a__law_better : Addr
  d__law_better : FuncData
  a__law_pairs_alike : Addr
  d__law_pairs_alike : FuncData
  a_law : Addr
  d_law : FuncData
  g_TillError : mg "TillError" = some (.ref c_TillError)
  x_TillError : PySem.W.excIn K c_TillError [.type "ValueError", .type "Exception", .type "BaseException", .type "object"] "ValueError.__new__" = true
  k_TillError : PySem.W.keepIn K (.ref c_TillError) = true
  b_TillError : PySem.W.subIn K (.ref c_TillError) (.type "BaseException") = some true
  t_TillError : PySem.W.typeIn K (.ref c_TillError) = some (.type "type")
  i_TillError : PySem.W.isClsIn K c_TillError = true
  g_NoKind : mg "NoKind" = some (.ref c_NoKind)
  x_NoKind : PySem.W.excIn K c_NoKind [.type "ValueError", .type "Exception", .type "BaseException", .type "object"] "ValueError.__new__" = true
  k_NoKind : PySem.W.keepIn K (.ref c_NoKind) = true
  b_NoKind : PySem.W.subIn K (.ref c_NoKind) (.type "BaseException") = some true
  t_NoKind : PySem.W.typeIn K (.ref c_NoKind) = some (.type "type")
  i_NoKind : PySem.W.isClsIn K c_NoKind = true
  g_NoSum : mg "NoSum" = some (.ref c_NoSum)
  x_NoSum : PySem.W.excIn K c_NoSum [.type "ValueError", .type "Exception", .type "BaseException", .type "object"] "ValueError.__new__" = true
  k_NoSum : PySem.W.keepIn K (.ref c_NoSum) = true
  b_NoSum : PySem.W.subIn K (.ref c_NoSum) (.type "BaseException") = some true
  t_NoSum : PySem.W.typeIn K (.ref c_NoSum) = some (.type "type")
  i_NoSum : PySem.W.isClsIn K c_NoSum = true
  g_NoChange : mg "NoChange" = some (.ref c_NoChange)
  x_NoChange : PySem.W.excIn K c_NoChange [.type "ValueError", .type "Exception", .type "BaseException", .type "object"] "ValueError.__new__" = true
  k_NoChange : PySem.W.keepIn K (.ref c_NoChange) = true
  b_NoChange : PySem.W.subIn K (.ref c_NoChange) (.type "BaseException") = some true
  t_NoChange : PySem.W.typeIn K (.ref c_NoChange) = some (.type "type")
  i_NoChange : PySem.W.isClsIn K c_NoChange = true
  u_NoSum_NoKind : PySem.W.subIn K (.ref c_NoSum) (.ref c_NoKind) = some false
  u_NoSum_NoSum : PySem.W.subIn K (.ref c_NoSum) (.ref c_NoSum) = some true
  u_NoSum_NoChange : PySem.W.subIn K (.ref c_NoSum) (.ref c_NoChange) = some false
  u_NoChange_NoKind : PySem.W.subIn K (.ref c_NoChange) (.ref c_NoKind) = some false
  u_NoChange_NoSum : PySem.W.subIn K (.ref c_NoChange) (.ref c_NoSum) = some false
  u_NoChange_NoChange : PySem.W.subIn K (.ref c_NoChange) (.ref c_NoChange) = some true
  u_NoKind_NoKind : PySem.W.subIn K (.ref c_NoKind) (.ref c_NoKind) = some true
  u_NoKind_NoSum : PySem.W.subIn K (.ref c_NoKind) (.ref c_NoSum) = some false
  u_NoKind_NoChange : PySem.W.subIn K (.ref c_NoKind) (.ref c_NoChange) = some false
  f_worth : Fun K "worth" "worth" s_worth a_worth d_worth
  p_worth : Binds K d_worth P_worth []
  g_worth : mg "worth" = some (.ref a_worth)
  f_check_sum : Fun K "check_sum" "check_sum" s_check_sum a_check_sum d_check_sum
  p_check_sum : Binds K d_check_sum P_check_sum []
  g_check_sum : mg "check_sum" = some (.ref a_check_sum)
  f_with_kind : Fun K "with_kind" "with_kind" s_with_kind a_with_kind d_with_kind
  p_with_kind : Binds K d_with_kind P_with_kind []
  g_with_kind : mg "with_kind" = some (.ref a_with_kind)
  f__bundles : Fun K "_bundles" "_bundles" s__bundles a__bundles d__bundles
  p__bundles : Binds K d__bundles P__bundles []
  g__bundles : mg "_bundles" = some (.ref a__bundles)
  f__with_bundle : Fun K "_with_bundle" "_with_bundle" s__with_bundle a__with_bundle d__with_bundle
  p__with_bundle : Binds K d__with_bundle P__with_bundle []
  g__with_bundle : mg "_with_bundle" = some (.ref a__with_bundle)
  f_scales : Fun K "scales" "scales" s_scales a_scales d_scales
  p_scales : Binds K d_scales P_scales []
  g_scales : mg "scales" = some (.ref a_scales)
  f_deal : Fun K "deal" "deal" s_deal a_deal d_deal
  p_deal : Binds K d_deal P_deal []
  g_deal : mg "deal" = some (.ref a_deal)
  f__check_purse : Fun K "_check_purse" "_check_purse" s__check_purse a__check_purse d__check_purse
  p__check_purse : Binds K d__check_purse P__check_purse []
  g__check_purse : mg "_check_purse" = some (.ref a__check_purse)
  f__with_numbers : Fun K "_with_numbers" "_with_numbers" s__with_numbers a__with_numbers d__with_numbers
  p__with_numbers : Binds K d__with_numbers P__with_numbers []
  g__with_numbers : mg "_with_numbers" = some (.ref a__with_numbers)
  f__best_way : Fun K "_best_way" "_best_way" s__best_way a__best_way d__best_way
  p__best_way : Binds K d__best_way P__best_way []
  g__best_way : mg "_best_way" = some (.ref a__best_way)
  f__greatest_number : Fun K "_greatest_number" "_greatest_number" s__greatest_number a__greatest_number d__greatest_number
  p__greatest_number : Binds K d__greatest_number P__greatest_number []
  g__greatest_number : mg "_greatest_number" = some (.ref a__greatest_number)
  f__law_cell_at : Fun K "_law_cell_at" "_law_cell_at" s__law_cell_at a__law_cell_at d__law_cell_at
  p__law_cell_at : Binds K d__law_cell_at P__law_cell_at []
  g__law_cell_at : mg "_law_cell_at" = some (.ref a__law_cell_at)
  f__law_whole : Fun K "_law_whole" "_law_whole" s__law_whole a__law_whole d__law_whole
  p__law_whole : Binds K d__law_whole P__law_whole []
  g__law_whole : mg "_law_whole" = some (.ref a__law_whole)
  f__law_mixed : Fun K "_law_mixed" "_law_mixed" s__law_mixed a__law_mixed d__law_mixed
  p__law_mixed : Binds K d__law_mixed P__law_mixed []
  g__law_mixed : mg "_law_mixed" = some (.ref a__law_mixed)
  f__law_value : Fun K "_law_value" "_law_value" s__law_value a__law_value d__law_value
  p__law_value : Binds K d__law_value P__law_value []
  g__law_value : mg "_law_value" = some (.ref a__law_value)
  f__law_till_and_purse : Fun K "_law_till_and_purse" "_law_till_and_purse" s__law_till_and_purse a__law_till_and_purse d__law_till_and_purse
  p__law_till_and_purse : Binds K d__law_till_and_purse P__law_till_and_purse []
  g__law_till_and_purse : mg "_law_till_and_purse" = some (.ref a__law_till_and_purse)
  f__law_own : Fun K "_law_own" "_law_own" s__law_own a__law_own d__law_own
  p__law_own : Binds K d__law_own P__law_own []
  g__law_own : mg "_law_own" = some (.ref a__law_own)
  f__law_deal : Fun K "_law_deal" "_law_deal" s__law_deal a__law_deal d__law_deal
  p__law_deal : Binds K d__law_deal P__law_deal []
  g__law_deal : mg "_law_deal" = some (.ref a__law_deal)
  f__law_ways : Fun K "_law_ways" "_law_ways" s__law_ways a__law_ways d__law_ways
  p__law_ways : Binds K d__law_ways P__law_ways []
  g__law_ways : mg "_law_ways" = some (.ref a__law_ways)
  f__law_worth : Fun K "_law_worth" "_law_worth" s__law_worth a__law_worth d__law_worth
  p__law_worth : Binds K d__law_worth P__law_worth []
  g__law_worth : mg "_law_worth" = some (.ref a__law_worth)
  f__law_few : Fun K "_law_few" "_law_few" s__law_few a__law_few d__law_few
  p__law_few : Binds K d__law_few P__law_few []
  g__law_few : mg "_law_few" = some (.ref a__law_few)
  f__law_better : Fun K "_law_better" "_law_better" s__law_better a__law_better d__law_better
  p__law_better : Binds K d__law_better P__law_better []
  g__law_better : mg "_law_better" = some (.ref a__law_better)
  f__law_pairs_alike : Fun K "_law_pairs_alike" "_law_pairs_alike" s__law_pairs_alike a__law_pairs_alike d__law_pairs_alike
  p__law_pairs_alike : Binds K d__law_pairs_alike P__law_pairs_alike []
  g__law_pairs_alike : mg "_law_pairs_alike" = some (.ref a__law_pairs_alike)
  f_law : Fun K "law" "law" s_law a_law d_law
  p_law : Binds K d_law P_law []
  g_law : mg "law" = some (.ref a_law)
  w_MOST_SUM : ∃ t, mg "MOST_SUM" = some (.int 1000 t)
  w_MOST_WORTH : ∃ t, mg "MOST_WORTH" = some (.int 1500 t)
  m_abs : mg "abs" = none
  m_bool : mg "bool" = none
  m_dict : mg "dict" = none
  m_int : mg "int" = none
  m_isinstance : mg "isinstance" = none
  m_len : mg "len" = none
  m_list : mg "list" = none
  m_max : mg "max" = none
  m_min : mg "min" = none
  m_range : mg "range" = none
  m_reversed : mg "reversed" = none
  m_sorted : mg "sorted" = none
  m_sum : mg "sum" = none
  m_tuple : mg "tuple" = none
  m_zip : mg "zip" = none
section
variable {P : Program} {w : World} {K : PySem.W.Frag} {mg : Str → Option Value} {base : Heap}
/-! ### small things over the layer -/
abbrev CXR (P : Program) (w : World) : CXT := L2.CX P w
abbrev Ex := Evl.Ex
theorem Ex.rfl' {H : Hp} : Ex H H := fun _ _ h => h
theorem Ex.tr {H H1 H2 : Hp} (a : Ex H H1) (b : Ex H1 H2) : Ex H H2 := Evl.Ex.trans a b
theorem Ex.nw {H : Hp} {p : Addr} {o : HO} (h : H p = none) : Ex H (upd H p o) := Evl.Ex.new h
theorem Ex.seq {K : PySem.W.Frag} {H H' : Hp} {a : Addr} {xs : List V} (e : Ex H H') (h : SqL K H a xs) : SqL K H' a xs := Evl.ex_l e h
theorem ipR {X : Cx} {op : Operator} {r : R2} (ho : OpR X (inplaceOp op) r) : PIp X op r := fun pins s σ H x y v u Q I rx ry h => ho pins s σ H x y v u Q I rx ry h
theorem ip_mulR {X : Cx} : PIp X .Mult (rI CMul fun i j => .int (i * j)) := ipR iop_mul
/-- isinstance of the caught error: a class, a tuple of classes just laid; the error's class is told in the reading -/
def rIsE1 (K : PySem.W.Frag) (cls : Value) (d : Option Addr) (a : Addr) : List V → Hp → VK → Prop := fun xs H Q => ∃ (D : Addr) (c : V) (cv : Value) (b : Bool), cls = .ref D ∧ d = none ∧ ExcC K D ∧ xs = [.ref a, c] ∧ (∀ u, RelV c u → u = cv) ∧ PySem.W.kitOne K (.ref D) cv = some b ∧ Q (.bl b) H
theorem call_isE1 {X : Cx} {a : Addr} {cls : Value} {d : Option Addr} {oe : Obj} {pn : List (Addr × Obj)} (hz : Zc cls d oe) (hf : ∃ vs, oe.data = .fields vs) : CallR (X.suite a ((a, oe) :: pn)) (.builtin "isinstance") (rIsE1 X.K cls d a) := by
  intro pins s σ H xs us Q I r h
  obtain ⟨D, c, cv, b, rfl, rfl, C, rfl, hcv, e, q⟩ := h
  exact call_isE C hz hf pins s σ H _ us Q I r ⟨c, cv, b, rfl, hcv, e, q⟩
def rIsET (K : PySem.W.Frag) (cls : Value) (d : Option Addr) (a : Addr) : List V → Hp → VK → Prop := fun xs H Q => ∃ (D tp : Addr) (cs : List V) (us : List Value) (b : Bool), cls = .ref D ∧ d = none ∧ ExcC K D ∧ xs = [.ref a, .ref tp] ∧ H tp = some (.tup cs) ∧ Paired ClsV cs us ∧ PySem.W.kitAny K (.ref D) us = some b ∧ Q (.bl b) H
theorem call_isET {X : Cx} {a : Addr} {cls : Value} {d : Option Addr} {oe : Obj} {pn : List (Addr × Obj)} (hz : Zc cls d oe) (hf : ∃ fs, oe.data = .fields fs) : CallR (X.suite a ((a, oe) :: pn)) (.builtin "isinstance") (rIsET X.K cls d a) := by
  intro pins s σ H xs us Q I r h
  obtain ⟨D, tp, cs, ws, b, rfl, rfl, C, rfl, hT, k, e, q⟩ := h
  obtain ⟨w1, w2, rfl, p1, p2⟩ := vals2 r
  cases (show w2 = Value.ref tp from p2)
  cases (show w1 = Value.ref a from p1)
  obtain ⟨hgt, _⟩ := I.pin (a, oe) (List.mem_append.mpr (.inl List.mem_cons_self))
  obtain ⟨fs, hv⟩ := hf
  have J : PySem.W.InstAt s.heap a oe D none := by
    obtain ⟨oc, od, odt, oss⟩ := oe
    obtain ⟨k1, k2⟩ := hz
    dsimp only at k1 k2 hv
    subst k1 k2 hv
    exact ⟨hgt, rfl, rfl, trivial⟩
  obtain ⟨_, zs, rv, o, k1, k2, n, k3⟩ := (show ObjOk X.prog X.w H s.heap tp (.tup cs) from I.hok tp _ hT)
  have e3 := ClsV.all k rv
  subst e3
  obtain ⟨oc, od, dt, sl⟩ := o
  simp only at k2 k3
  subst k2 k3
  exact PySem.W.kia_tup (PySem.W.handS_kitx_exc C.hg C.hk C.hs C.hd C.ha C.hn C.ht C.hm) I.kIn J k1 e (fun z => nomatch z) fun tk => ⟨.bl b, H, I.tok tk, rfl, q⟩
/-- len, list(x), told by a K that is named -/
abbrev rLenK (K : PySem.W.Frag) : List V → Hp → VK → Prop := fun zs H Q => ∃ p ys, zs = [.ref p] ∧ (SqL K H p ys ∨ SqT K H p ys) ∧ Q (.int ys.length) H
abbrev rListK (K : PySem.W.Frag) : List V → Hp → VK → Prop := fun zs H Q => ∃ p ys, zs = [.ref p] ∧ (SqL K H p ys ∨ SqT K H p ys) ∧ ∀ l, H l = none → Q (.ref l) (upd H l (.lst ys))
/-- pairs of ints, each a tracked tuple -/
def Prs (H : Hp) : List V → List (Int × Int) → Prop := Paired fun x p => ∃ t, x = .ref t ∧ H t = some (.tup [.int p.1, .int p.2])
theorem Prs.ex {H H' : Hp} (e : Ex H H') : ∀ {xs : List V} {ps : List (Int × Int)}, Prs H xs ps → Prs H' xs ps
  | _, _, .nil => .nil
  | _, _, .cons ⟨t, h1, h2⟩ r => .cons ⟨t, h1, e _ _ h2⟩ (Prs.ex e r)
theorem Prs.len {H : Hp} {xs : List V} {ps : List (Int × Int)} (h : Prs H xs ps) : xs.length = ps.length := Paired.length h
theorem Prs.snoc {H : Hp} : ∀ {xs : List V} {ps : List (Int × Int)} {x : V} {p : Int × Int}, Prs H xs ps → (∃ t, x = .ref t ∧ H t = some (.tup [.int p.1, .int p.2])) → Prs H (xs ++ [x]) (ps ++ [p])
  | _, _, _, _, .nil, h => .cons h .nil
  | _, _, _, _, .cons a r, h => .cons a (Prs.snoc r h)
theorem Prs.get {H : Hp} : ∀ {xs : List V} {ps : List (Int × Int)} {i : Nat} {x : V}, Prs H xs ps → xs[i]? = some x → ∃ p t, ps[i]? = some p ∧ x = .ref t ∧ H t = some (.tup [.int p.1, .int p.2])
  | _, _, _, _, .nil, e => by simp at e
  | _, _, 0, _, .cons (b := p) ⟨t, h1, h2⟩ _, e => by simp at e; subst e; exact ⟨p, t, by simp, h1, h2⟩
  | _, _, i + 1, x, .cons _ r, e => by
    obtain ⟨p, t, h1, h2⟩ := Prs.get (i := i) (x := x) r (by simpa using e)
    exact ⟨p, t, by simpa using h1, h2⟩
theorem Prs.getL {H : Hp} : ∀ {xs : List V} {ps : List (Int × Int)} {i : Nat} {p : Int × Int}, Prs H xs ps → ps[i]? = some p → ∃ t, xs[i]? = some (.ref t) ∧ H t = some (.tup [.int p.1, .int p.2])
  | _, _, _, _, .nil, e => by simp at e
  | _, _, 0, _, .cons ⟨t, h1, h2⟩ _, e => by simp at e; subst e; exact ⟨t, by simpa using h1, h2⟩
  | _, _, i + 1, p, .cons _ r, e => by
    obtain ⟨t, h1, h2⟩ := Prs.getL (i := i) (p := p) r (by simpa using e)
    exact ⟨t, by simpa using h1, h2⟩
/-- a till (or purse): a list of such pairs -/
def Till (K : PySem.W.Frag) (H : Hp) (a : Addr) (ps : List (Int × Int)) : Prop := ∃ xs, SqL K H a xs ∧ Prs H xs ps
theorem Till.ex {K : PySem.W.Frag} {H H' : Hp} {a : Addr} {ps : List (Int × Int)} (e : Ex H H') (h : Till K H a ps) : Till K H' a ps :=
  let ⟨xs, h1, h2⟩ := h; ⟨xs, Ex.seq e h1, h2.ex e⟩
/-- what a def that gives no new list answers -/
def Ret (v : V) (H : Hp) (Q : VK) : Prop := ∀ H2, Ex H H2 → Q v H2
theorem Ret.at {v : V} {H H' : Hp} {Q : VK} (k : Ret v H Q) (e : Ex H H') : Q v H' := k H' e
theorem len63 {n : Nat} (h : n ≤ 1000000) : n ≤ sizeLine := Nat.le_trans h (by decide)
theorem len63' {n : Nat} (h : n < 1000000) : n < sizeLine := Nat.lt_of_lt_of_le h (by decide)
theorem iteD {c A B : Prop} [Decidable c] (h1 : c → A) (h2 : ¬ c → B) : if decide c = true then A else B := by
  by_cases h : c
  · rw [if_pos (decide_eq_true h)]; exact h1 h
  · rw [if_neg (by simpa using h)]; exact h2 h
theorem iteDN {c A B : Prop} [Decidable c] (h1 : ¬ c → A) (h2 : c → B) : if (!decide c) = true then A else B := by
  by_cases h : c
  · rw [if_neg (by simpa using h)]; exact h2 h
  · rw [if_pos (by simpa using h)]; exact h1 h
theorem iteVI {i j : Int} {A B : Prop} (h1 : i = j → A) (h2 : ¬ i = j → B) : if decide (V.int i = V.int j) = true then A else B :=
  iteD (fun e => h1 (V.int.inj e)) fun e => h2 fun z => e (congrArg V.int z)
theorem iteVN {i j : Int} {A B : Prop} (h1 : ¬ i = j → A) (h2 : i = j → B) : if (!decide (V.int i = V.int j)) = true then A else B :=
  iteDN (fun e => h1 fun z => e (congrArg V.int z)) fun e => h2 (V.int.inj e)
theorem iteB {b : Bool} {A B : Prop} (h1 : b = true → A) (h2 : b = false → B) : if b = true then A else B := by
  cases b with
  | true => exact iteT (h1 rfl)
  | false => exact iteF (h2 rfl)
/-- what «except D» says of an error of the class C -/
theorem exm_mk {K : PySem.W.Frag} {C D : Addr} {b : Bool} (h1 : PySem.W.subIn K (.ref D) (.type "BaseException") = some true) (h2 : PySem.W.isClsIn K D = true) (h3 : PySem.W.typeIn K (.ref D) = some (.type "type")) (h4 : PySem.W.subIn K (.ref C) (.ref D) = some b) :
    PySem.W.exmOne K (.ref C) (.ref D) = some b := by
  have e1 : (PySem.W.subIn K (.ref D) (.type "BaseException") == some true) = true := by rw [h1] <;> rfl
  have e2 : ((PySem.W.clsIn K D).isSome && PySem.W.typeIn K (.ref D) == some (.type "type")) = true := by
    have h2' : (PySem.W.clsIn K D).isSome = true := h2
    rw [h2', h3] <;> rfl
  show (if (PySem.W.subIn K (.ref D) (.type "BaseException") == some true) = true then (if ((PySem.W.clsIn K D).isSome && PySem.W.typeIn K (.ref D) == some (.type "type")) = true then PySem.W.subIn K (.ref C) (.ref D) else none) else none) = some b
  rw [if_pos e1, if_pos e2]
  exact h4
theorem Ex.mu {H H' : Hp} {p : Addr} {o : HO} (e : Ex H H') (h : H p = none) : Ex H (upd H' p o) := Evl.Ex.mut e h
theorem Prs.up {H : Hp} {f : Addr} {o : HO} (hf : ∀ ys, H f ≠ some (.tup ys)) : ∀ {xs : List V} {ps : List (Int × Int)}, Prs H xs ps → Prs (upd H f o) xs ps
  | _, _, .nil => .nil
  | _, _, .cons ⟨t, h1, h2⟩ r => .cons ⟨t, h1, by rw [upd_ne fun e => hf _ (e ▸ h2)]; exact h2⟩ (Prs.up hf r)
/-- the pair that stands at an address -/
def pairAt (H : Hp) : V → Int × Int
  | .ref t => match H t with
    | some (.tup [.int i, .int j]) => (i, j)
    | _ => (0, 0)
  | _ => (0, 0)
theorem pairAt_eq {H : Hp} {t : Addr} {i j : Int} (h : H t = some (.tup [.int i, .int j])) : pairAt H (.ref t) = (i, j) := by
  show (match H t with | some (.tup [.int i, .int j]) => (i, j) | _ => (0, 0)) = (i, j)
  rw [h]
theorem Prs.map {H : Hp} : ∀ {xs : List V} {ps : List (Int × Int)}, Prs H xs ps → ps = xs.map (pairAt H)
  | _, _, .nil => rfl
  | _, _, .cons ⟨t, h1, h2⟩ r => by rw [List.map_cons, ← Prs.map r, h1, pairAt_eq h2]
theorem Prs.all {H : Hp} {xs : List V} {ps : List (Int × Int)} (h : Prs H xs ps) : ∀ x ∈ xs, ∃ t, x = V.ref t ∧ H t = some (.tup [.int (pairAt H x).1, .int (pairAt H x).2]) := by
  intro x hx
  obtain ⟨i, hi, e⟩ := List.getElem_of_mem hx
  obtain ⟨p, t, h1, h2, h3⟩ := Prs.get h (by rw [List.getElem?_eq_getElem hi, e])
  refine ⟨t, h2, ?_⟩
  rw [h2, pairAt_eq h3]
  exact h3
theorem Prs.of {H : Hp} : ∀ {xs : List V}, (∀ x ∈ xs, ∃ t, x = V.ref t ∧ H t = some (.tup [.int (pairAt H x).1, .int (pairAt H x).2])) → Prs H xs (xs.map (pairAt H))
  | [], _ => .nil
  | x :: xs, h => .cons (h x List.mem_cons_self) (Prs.of fun y hy => h y (List.mem_cons_of_mem _ hy))
/-- the pairs rise by value and are apart -/
def Rising (ps : List (Int × Int)) : Prop := ps.Pairwise fun p q => p.1 < q.1
theorem rising_of {H : Hp} {ys : List V} (hs : SrtO.Srtd (ltP (pairAt H)) ys) (nd : ((ys.map (pairAt H)).map (·.1)).Nodup) : Rising (ys.map (pairAt H)) := by
  unfold Rising
  rw [List.pairwise_map]
  rw [List.map_map, List.Nodup, List.pairwise_map] at nd
  refine (hs.and nd).imp ?_
  intro a b h
  have h1 := SrtO.lexB_no.mp h.1
  have h2 : (pairAt H a).1 ≠ (pairAt H b).1 := h.2
  omega
/-- sorted of such pairs -/
theorem sorted_prs {H : Hp} {xs ys : List V} {ps : List (Int × Int)} (hp : Prs H xs ps) (nd : (ps.map (·.1)).Nodup) (h1 : SrtO.Srtd (ltP (pairAt H)) ys) (h2 : SrtO.Stb (ltP (pairAt H)) ys xs) :
    ∃ qs, Prs H ys qs ∧ qs.Perm ps ∧ Rising qs := by
  have hpm : (ys.map (pairAt H)).Perm ps := by
    rw [hp.map]
    exact h2.perm.map _
  exact ⟨ys.map (pairAt H), Prs.of fun y hy => hp.all y (h2.perm.mem_iff.mp hy), hpm, rising_of h1 ((hpm.map _).nodup_iff.mpr nd)⟩
/-- what a till drawn here is: 1 to 10 kinds, apart, in bounds -/
structure Drawn (ps : List (Int × Int)) : Prop where
  nd : (ps.map (·.1)).Nodup
  val : ∀ p ∈ ps, 1 ≤ p.1 ∧ p.1 ≤ 1000
  cnt : ∀ p ∈ ps, 0 ≤ p.2 ∧ p.2 ≤ 1000000000
theorem Drawn.perm {ps qs : List (Int × Int)} (d : Drawn ps) (h : qs.Perm ps) : Drawn qs :=
  ⟨(h.map _).nodup_iff.mpr d.nd, fun p hp => d.val p (h.mem_iff.mp hp), fun p hp => d.cnt p (h.mem_iff.mp hp)⟩
/-- a till as data -/
def dP (p : Int × Int) : PyData := .tuple [.int p.1, .int p.2]
theorem prs_dp {K : PySem.W.Frag} {H : Hp} : ∀ {xs : List V} {ps : List (Int × Int)}, Prs H xs ps → DpAll K H xs (ps.map dP)
  | _, _, .nil => .nil
  | _, _, .cons ⟨t, h1, h2⟩ r => .cons (h1 ▸ .tup (.of h2) (.cons (.int _) (.cons (.int _) .nil))) (prs_dp r)
theorem till_dp {K : PySem.W.Frag} {H : Hp} {a : Addr} {ps : List (Int × Int)} (h : Till K H a ps) : Dp K H (.ref a) (.list (ps.map dP)) :=
  let ⟨_, h1, h2⟩ := h; .lst h1 (prs_dp h2)
theorem canLay_dPs : ∀ ps : List (Int × Int), PyData.canLayAll0 (ps.map dP) = true
  | [] => rfl
  | p :: r => by
    rw [List.map_cons]
    show (PyData.canLay0 (dP p) && PyData.canLayAll0 (r.map dP)) = true
    rw [canLay_dPs r]
    rfl
theorem depth_dPs : ∀ ps : List (Int × Int), PyData.depthAll (ps.map dP) ≤ 3
  | [] => by decide
  | p :: r => by
    have h := depth_dPs r
    rw [List.map_cons]
    show max (PyData.depth (dP p)) (PyData.depthAll (r.map dP)) ≤ 3
    have : PyData.depth (dP p) ≤ 3 := by
      show PyData.depth (.tuple [.int p.1, .int p.2]) ≤ 3
      simp [PyData.depth, PyData.depthAll]
    omega
theorem shaped_till (ps : List (Int × Int)) : SeqAt.shaped (.list (ps.map dP)) = true := by
  unfold SeqAt.shaped
  have h1 : PyData.canLay0 (.list (ps.map dP)) = true := canLay_dPs ps
  have h2 : PyData.depth (.list (ps.map dP)) ≤ 64 := by
    have := depth_dPs ps
    simp only [PyData.depth]
    omega
  rw [h1, decide_eq_true h2]
  rfl
theorem eqv_of_shaped {d : PyData} (h : SeqAt.shaped d = true) : PyData.eqv d d = true := PySem.SeqAt.eqv_refl d (SeqAt.canLay_of_shaped h)
theorem t_yes {A B : Hp → Prop} {σ : L2.St} {H : Hp} (h : A H) : tYes σ H (fun b H3 => if b = true then A H3 else B H3) := by
  show if true = true then A H else B H
  rw [if_pos rfl]
  exact h
theorem canLay_ints : ∀ l : List Int, PyData.canLayAll0 (l.map PyData.int) = true
  | [] => rfl
  | p :: r => by
    rw [List.map_cons]
    show (PyData.canLay0 (.int p) && PyData.canLayAll0 (r.map PyData.int)) = true
    rw [canLay_ints r]
    rfl
theorem depth_ints : ∀ l : List Int, PyData.depthAll (l.map PyData.int) ≤ 3
  | [] => by decide
  | p :: r => by
    have h := depth_ints r
    rw [List.map_cons]
    show max (PyData.depth (.int p)) (PyData.depthAll (r.map PyData.int)) ≤ 3
    have : PyData.depth (.int p) ≤ 3 := by simp [PyData.depth]
    omega
theorem shaped_ints (l : List Int) : SeqAt.shaped (.list (l.map PyData.int)) = true := by
  unfold SeqAt.shaped
  have h1 : PyData.canLay0 (.list (l.map PyData.int)) = true := canLay_ints l
  have h2 : PyData.depth (.list (l.map PyData.int)) ≤ 64 := by
    have := depth_ints l
    simp only [PyData.depth]
    omega
  rw [h1, decide_eq_true h2]
  rfl
theorem kone_own {K : PySem.W.Frag} {D C : Addr} {b : Bool} (hn : D ≠ C) (h2 : PySem.W.isClsIn K C = true) (h3 : PySem.W.typeIn K (.ref C) = some (.type "type")) (h4 : PySem.W.subIn K (.ref D) (.ref C) = some b) : PySem.W.kitOne K (.ref D) (.ref C) = some b := by
  have e1 : ¬ (Value.ref D == Value.ref C) = true := fun z => hn (Value.ref.inj (beq_iff_eq.mp z))
  have e2 : ((PySem.W.clsIn K C).isSome && PySem.W.typeIn K (.ref C) == some (.type "type")) = true := by
    have h2' : (PySem.W.clsIn K C).isSome = true := h2
    rw [h2', h3] <;> rfl
  unfold PySem.W.kitOne
  rw [if_neg e1]
  show (if ((PySem.W.clsIn K C).isSome && PySem.W.typeIn K (.ref C) == some (.type "type")) = true then PySem.W.subIn K (.ref D) (.ref C) else none) = some b
  rw [if_pos e2]
  exact h4
theorem kone_self {K : PySem.W.Frag} {D : Addr} : PySem.W.kitOne K (.ref D) (.ref D) = some true := by
  unfold PySem.W.kitOne
  rw [if_pos (beq_self_eq_true _)]
theorem kone_ty {K : PySem.W.Frag} {D : Addr} (h : PySem.W.subIn K (.ref D) (.type "ValueError") = some true) : PySem.W.kitOne K (.ref D) (.type "ValueError") = some true := by
  have e1 : ¬ (Value.ref D == Value.type "ValueError") = true := fun z => by cases beq_iff_eq.mp z
  unfold PySem.W.kitOne
  rw [if_neg e1]
  show (if PySem.W.kitMeta "ValueError" = true then PySem.W.subIn K (.ref D) (.type "ValueError") else none) = some true
  rw [if_pos (by decide +kernel)]
  exact h
theorem kany_f {K : PySem.W.Frag} {t c : Value} {cs : List Value} {r : Bool} (h : PySem.W.kitOne K t c = some false) (hr : PySem.W.kitAny K t cs = some r) : PySem.W.kitAny K t (c :: cs) = some r :=
  kitAny_cons h (fun _ => hr) fun z => nomatch z
theorem kany_t {K : PySem.W.Frag} {t c : Value} {cs : List Value} (h : PySem.W.kitOne K t c = some true) : PySem.W.kitAny K t (c :: cs) = some true :=
  kitAny_cons h (fun z => nomatch z) fun _ => rfl
theorem take_snoc {α : Type} {l : List α} {i : Nat} {x : α} (h : l[i]? = some x) : l.take (i + 1) = l.take i ++ [x] := by
  rw [List.take_add_one, h]
  rfl
theorem drop_at {α : Type} {l : List α} {i : Nat} {x : α} (h : l[i]? = some x) : l.drop i = x :: l.drop (i + 1) := by
  obtain ⟨hi, e⟩ := List.getElem?_eq_some_iff.mp h
  rw [List.drop_eq_getElem_cons hi, e]
theorem none_back {H H' : Hp} {p : Addr} (ex : Ex H H') (h : H' p = none) : H p = none := by
  cases z : H p with
  | none => rfl
  | some o => rw [ex _ _ z] at h; cases h
theorem Prs.take {H : Hp} : ∀ {xs : List V} {ps : List (Int × Int)} (n : Nat), Prs H xs ps → Prs H (xs.take n) (ps.take n)
  | _, _, 0, _ => .nil
  | _, _, _ + 1, .nil => .nil
  | _, _, n + 1, .cons h r => .cons h (Prs.take n r)
theorem Prs.drop {H : Hp} : ∀ {xs : List V} {ps : List (Int × Int)} (n : Nat), Prs H xs ps → Prs H (xs.drop n) (ps.drop n)
  | _, _, 0, h => h
  | _, _, _ + 1, .nil => .nil
  | _, _, n + 1, .cons h r => Prs.drop n r
theorem Prs.app {H : Hp} : ∀ {xs ys : List V} {ps qs : List (Int × Int)}, Prs H xs ps → Prs H ys qs → Prs H (xs ++ ys) (ps ++ qs)
  | _, _, _, _, .nil, h => h
  | _, _, _, _, .cons a r, h => .cons a (Prs.app r h)
theorem cut_take (xs : List V) (k : Nat) (h : k ≤ xs.length) : cutV xs none (some (k : Int)) = xs.take k := by
  unfold cutV
  rw [HT.sIx_none, HT.sIx_nat, List.drop_zero, Nat.sub_zero, Nat.min_eq_left h]
theorem cut_drop (xs : List V) (k : Nat) (h : k ≤ xs.length) : cutV xs (some (k : Int)) none = xs.drop k := by
  unfold cutV
  rw [HT.sIx_none, HT.sIx_nat, Nat.min_eq_left h, List.take_of_length_le (by rw [List.length_drop]; exact Nat.le_refl _)]
theorem seq_at {i : Int} {n : Nat} (h0 : 0 ≤ i) (h1 : i < n) : seqIndex? i n = some i.toNat := by
  have h2 : ¬ i < 0 := by omega
  simp [seqIndex?, h2, h0, h1]
theorem nodup_at {α : Type} {l : List α} {i j : Nat} {x : α} (h : l.Nodup) (hi : l[i]? = some x) (hj : l[j]? = some x) : i = j := by
  obtain ⟨h1, e1⟩ := List.getElem?_eq_some_iff.mp hi
  obtain ⟨h2, e2⟩ := List.getElem?_eq_some_iff.mp hj
  rcases Nat.lt_trichotomy i j with z | z | z
  · exact absurd (e1.trans e2.symm) (List.pairwise_iff_getElem.mp h i j h1 h2 z)
  · exact z
  · exact absurd (e2.trans e1.symm) (List.pairwise_iff_getElem.mp h j i h2 h1 z)
theorem Prs.keep {H H' : Hp} : ∀ {xs : List V} {ps : List (Int × Int)}, Prs H xs ps → (∀ t zs, H t = some (.tup zs) → H' t = some (.tup zs)) → Prs H' xs ps
  | _, _, .nil, _ => .nil
  | _, _, .cons ⟨t, h1, h2⟩ r, k => .cons ⟨t, h1, k _ _ h2⟩ (Prs.keep r k)
theorem take_succ_map {α β : Type} {l : List α} {i : Nat} {x : α} (f : α → β) (h : l[i]? = some x) : (l.take (i + 1)).map f = (l.take i).map f ++ [f x] := by
  rw [List.take_add_one, h, List.map_append]
  rfl
theorem rising_nd {ps : List (Int × Int)} (h : Rising ps) : (ps.map (·.1)).Nodup := by
  rw [List.Nodup, List.pairwise_map]
  exact h.imp fun z e => by omega
/-! ### what the law draws -/
def cell (ns : List Int) (k : Nat) : Int := ns.getD k 0
def mixed (c k : Int) : Int := (c + 7919 * k) * 48271 % 2147483647
theorem mixed_nn (c k : Int) : 0 ≤ mixed c k := Int.emod_nonneg _ (by decide)
theorem mixed_lt (c k : Int) : mixed c k < 2147483647 := Int.emod_lt_of_pos _ (by decide)
def spCellAt (K : PySem.W.Frag) : Sp := fun vs H Q _ => ∃ (a : Addr) (ns : List Int) (k : Nat), vs = [.ref a, .int k] ∧ SqL K H a (ns.map V.int) ∧ Q (.int (cell ns k)) H
theorem ok_cell_at (T : Tx K mg) : FnOk P w K mg base CX0 1 T.a__law_cell_at T.d__law_cell_at P__law_cell_at (spCellAt K) := by
  refine T.f__law_cell_at.ok sc__law_cell_at (fun vs H Q E h => ?_) (fun cdv A outer s H vs Q E hr h => ?_)
  · obtain ⟨a, ns, k, rfl, _⟩ := h
    rfl
  · obtain ⟨a, ns, k, rfl, hS, q⟩ := h
    refine ⟨_, (pss_cons (ps_if (pt_cmpR op_lt (pv 1) (pe_callB call_len_seq (by rfl) T.m_len (by decide +kernel) (pa_cons (pv 0) pa_nil)) (nomark _))
      (pss_one (ps_ret (pe_ix ix_list (pv 0) (pv 1) (fun _ _ => rfl))))
      pss_nil)
    (pss_one (ps_ret pe_int))), ?_⟩
    refine ⟨_, rfl, _, rfl, a, _, rfl, .inl hS, _, _, rfl, rfl, _, rfl, ite2 (fun e => ?_) (fun e => ?_)⟩
    · have e1 : (k : Int) < ((ns.map V.int).length : Int) := of_decide_eq_true e
      rw [List.length_map] at e1
      have e2 : k < ns.length := by omega
      refine ⟨_, rfl, _, rfl, a, _, _, .int (cell ns k), rfl, rfl, hS, atI_nat ?_, q⟩
      rw [List.getElem?_map, List.getElem?_eq_getElem e2]
      show some (V.int ns[k]) = _
      unfold cell
      rw [List.getD_eq_getElem?_getD, List.getElem?_eq_getElem e2]
      rfl
    · have e1 : ¬ (k : Int) < ((ns.map V.int).length : Int) := fun z => e (decide_eq_true z)
      rw [List.length_map] at e1
      have e2 : cell ns k = 0 := by
        unfold cell
        rw [List.getD_eq_getElem?_getD, List.getElem?_eq_none (by omega)]
        rfl
      rw [e2] at q
      exact q
def spMixed : Sp := fun vs H Q _ => ∃ c k, vs = [.int c, .int k] ∧ (-(2 ^ 64) < k ∧ k < 2 ^ 64) ∧ Q (.int (mixed c k)) H
theorem ok_mixed (T : Tx K mg) : FnOk P w K mg base CX0 1 T.a__law_mixed T.d__law_mixed P__law_mixed spMixed := by
  refine T.f__law_mixed.ok sc__law_mixed (fun vs H Q E h => ?_) (fun cdv A outer s H vs Q E hr h => ?_)
  · obtain ⟨c, k, rfl, _⟩ := h
    rfl
  · obtain ⟨c, k, rfl, hk, q⟩ := h
    refine ⟨_, (pss_one (ps_ret (pe_op op_mod (pe_op op_mul (pe_op op_add (pv 0) (pe_op op_mul pe_int (pv 1))) pe_int) pe_int))), ?_⟩
    repeat (first | refine ⟨_, rfl, ?_⟩ | refine ⟨(by show (0 : Int) < _; decide), ?_⟩ | refine ⟨⟨by decide, by decide⟩, ?_⟩ | refine ⟨.inr ⟨by decide, by decide⟩, ?_⟩ | refine ⟨.inl ⟨by decide, by decide⟩, ?_⟩ | refine ⟨⟨by decide, by decide, by decide⟩, ?_⟩ | refine ⟨_, _, rfl, rfl, ?_⟩ | refine ⟨rfl, _, rfl, ?_⟩)
    exact q
def menu : List Int := [1, 2, 5, 10, 20, 50, 100, 200, 500, 1000]
theorem menu_in : ∀ i : Nat, i < 10 → 1 ≤ menu.getD i 0 ∧ menu.getD i 0 ≤ 1000 := by decide
theorem menu_at {ms : List Int} {i : Int} {n : Nat} (hl : ms.length = n) (h0 : 0 ≤ i) (h1 : i < n) : atI (ms.map V.int) i = some (.int (ms.getD i.toNat 0)) := by
  have hn : ((i.toNat : Nat) : Int) = i := Int.toNat_of_nonneg h0
  have hlt : i.toNat < ms.length := by omega
  refine at_of hn.symm ?_
  rw [List.getElem?_map, List.getElem?_eq_getElem hlt, List.getD_eq_getElem?_getD, List.getElem?_eq_getElem hlt]
  rfl
/-! the kinds: a value that stands already is moved on -/
def nxt (v : Int) : Int := v % 1000 + 1
def itn (v : Int) (j : Nat) : Int := (v - 1 + j) % 1000 + 1
theorem itn_zero {v : Int} (h1 : 1 ≤ v) (h2 : v ≤ 1000) : itn v 0 = v := by unfold itn; omega
theorem itn_succ (v : Int) (j : Nat) : itn v (j + 1) = nxt (itn v j) := by unfold itn nxt; omega
theorem itn_in (v : Int) (j : Nat) : 1 ≤ itn v j ∧ itn v j ≤ 1000 := by unfold itn; omega
theorem itn_inj {v : Int} {i j : Nat} (hi : i < 1000) (hj : j < 1000) (h : itn v i = itn v j) : i = j := by unfold itn at h; omega
theorem escape : ∀ (n : Nat) (ks : List Int) (f : Nat → Int), ks.length = n → (∀ i j, i ≤ n → j ≤ n → f i = f j → i = j) → ∃ j, j ≤ n ∧ f j ∉ ks
  | 0, ks, f, hl, _ => ⟨0, Nat.le_refl _, by rw [List.length_eq_zero_iff.mp hl]; simp⟩
  | n + 1, ks, f, hl, hf => by
    by_cases h : f 0 ∈ ks
    · obtain ⟨j, hj, hn⟩ := escape n (ks.erase (f 0)) (fun i => f (i + 1)) (by rw [List.length_erase_of_mem h]; omega) fun i j hi hj e => by
        have := hf (i + 1) (j + 1) (by omega) (by omega) e
        omega
      refine ⟨j + 1, by omega, fun z => hn ?_⟩
      refine (List.mem_erase_of_ne fun e => ?_).mpr z
      have := hf (j + 1) 0 (by omega) (by omega) e
      omega
    · exact ⟨0, Nat.zero_le _, h⟩
theorem free_at {ks : List Int} (v : Int) (h : ks.length < 1000) : ∃ j, itn v j ∉ ks := by
  obtain ⟨j, _, hn⟩ := escape ks.length ks (itn v) rfl fun i j hi hj e => itn_inj (by omega) (by omega) e
  exact ⟨j, hn⟩
theorem least {p : Nat → Prop} (h : ∃ j, p j) : ∃ j, p j ∧ ∀ i, i < j → ¬ p i := by
  obtain ⟨j, hj⟩ := h
  induction j using Nat.strongRecOn with
  | _ j ih =>
    by_cases z : ∃ i, i < j ∧ p i
    · obtain ⟨i, hi, hp⟩ := z
      exact ih i hi hp
    · exact ⟨j, hj, fun i hi hp => z ⟨i, hi, hp⟩⟩
def dkv (ks : List Int) : List (Key × V) := ks.map fun k => (Sum.inl k, V.bl true)
theorem dkv_none {ks : List Int} {k : Int} (h : k ∉ ks) : valV (dkv ks) (Sum.inl k) = none := by
  cases e : valV (dkv ks) (Sum.inl k) with
  | none => rfl
  | some v =>
    have := valV_in e
    unfold dkv at this
    rw [List.map_map] at this
    obtain ⟨x, hx, ex⟩ := List.mem_map.mp this
    cases ex
    exact absurd hx h
theorem dkv_some {ks : List Int} {k : Int} (h : k ∈ ks) : ∃ v, valV (dkv ks) (Sum.inl k) = some v := by
  cases e : valV (dkv ks) (Sum.inl k) with
  | some v => exact ⟨v, rfl⟩
  | none =>
    refine absurd ?_ (valV_not e)
    unfold dkv
    rw [List.map_map]
    exact List.mem_map.mpr ⟨k, h, rfl⟩
theorem dkv_put {ks : List Int} {k : Int} (h : k ∉ ks) : putK (dkv ks) (Sum.inl k) (V.bl true) = dkv (ks ++ [k]) := by
  rw [putK_new _ (dkv_none h)]
  unfold dkv
  rw [List.map_append]
  rfl
/-! ### the table, by itself: rows of fewest pieces -/
abbrev Cell := Option Int
def rAt (r : List Cell) (i : Nat) : Cell := r.getD i none
theorem rAt_lt {r : List Cell} {i : Nat} (h : i < r.length) : r[i]? = some (rAt r i) := by
  unfold rAt
  rw [List.getD_eq_getElem?_getD, List.getElem?_eq_getElem h]
  rfl
theorem rAt_map {f : Nat → Cell} {n i : Nat} (h : i < n) : rAt ((List.range n).map f) i = f i := by
  unfold rAt
  rw [List.getD_eq_getElem?_getD, List.getElem?_map, List.getElem?_range h]
  rfl
theorem row_ext {r : List Cell} {n : Nat} {f : Nat → Cell} (hl : r.length = n) (h : ∀ i, i < n → rAt r i = f i) : r = (List.range n).map f := by
  apply List.ext_getElem?
  intro i
  by_cases hi : i < n
  · rw [rAt_lt (by omega), h i hi, List.getElem?_map, List.getElem?_range hi]
    rfl
  · rw [List.getElem?_eq_none (by omega), List.getElem?_eq_none (by rw [List.length_map, List.length_range]; omega)]
/-- a place, given what stands there and what stands ahead by some pieces -/
def bund (o few : Cell) (s : Int) : Cell :=
  match few with
  | none => o
  | some x => match o with
    | none => some (x + s)
    | some y => if x + s < y then some (x + s) else some y
theorem bund_some {o : Cell} {x s : Int} : ∃ m, bund o (some x) s = some m ∧ m ≤ x + s := by
  cases o with
  | none => exact ⟨_, rfl, by omega⟩
  | some y =>
    by_cases h : x + s < y
    · exact ⟨x + s, if_pos h, by omega⟩
    · exact ⟨y, if_neg h, by omega⟩
theorem bund_le {few : Cell} {y s : Int} : ∃ m, bund (some y) few s = some m ∧ m ≤ y := by
  cases few with
  | none => exact ⟨_, rfl, by omega⟩
  | some x =>
    by_cases h : x + s < y
    · exact ⟨x + s, if_pos h, by omega⟩
    · exact ⟨y, if_neg h, by omega⟩
theorem bund_or {o few : Cell} {s m : Int} (h : bund o few s = some m) : o = some m ∨ ∃ x, few = some x ∧ m = x + s := by
  cases few with
  | none => exact .inl h
  | some x =>
    cases o with
    | none => exact .inr ⟨x, rfl, (Option.some.inj h).symm⟩
    | some y =>
      by_cases z : x + s < y
      · have e : bund (some y) (some x) s = some (x + s) := if_pos z
        rw [e] at h
        exact .inr ⟨x, rfl, (Option.some.inj h).symm⟩
      · have e : bund (some y) (some x) s = some y := if_neg z
        rw [e] at h
        exact .inl h
/-- o is the least over up to n pieces of v on top of the row r, at the place d -/
def Lst (r : List Cell) (v n d : Nat) (o : Cell) : Prop :=
  (∀ (j : Nat) (x : Int), j ≤ n → j * v ≤ d → rAt r (d - j * v) = some x → ∃ m, o = some m ∧ m ≤ x + j) ∧
  (∀ m, o = some m → ∃ (j : Nat) (x : Int), j ≤ n ∧ j * v ≤ d ∧ rAt r (d - j * v) = some x ∧ m = x + j)
theorem Lst.uniq {r : List Cell} {v n d : Nat} {o p : Cell} (h : Lst r v n d o) (k : Lst r v n d p) : o = p := by
  obtain ⟨h1, h2⟩ := h
  obtain ⟨k1, k2⟩ := k
  cases o with
  | none =>
    cases p with
    | none => rfl
    | some m =>
      obtain ⟨j, x, a, b, c, _⟩ := k2 m rfl
      obtain ⟨_, z, _⟩ := h1 j x a b c
      cases z
  | some m =>
    obtain ⟨j, x, a, b, c, e⟩ := h2 m rfl
    obtain ⟨q, rfl, le1⟩ := k1 j x a b c
    obtain ⟨j', x', a', b', c', e'⟩ := k2 q rfl
    obtain ⟨m', em, le2⟩ := h1 j' x' a' b' c'
    cases em
    have : m = q := by omega
    rw [this]
theorem Lst.cut {r : List Cell} {v n m d : Nat} {o : Cell} (h : Lst r v n d o) (hm : ∀ j, j * v ≤ d → (j ≤ n ↔ j ≤ m)) : Lst r v m d o :=
  ⟨fun j x a b c => h.1 j x ((hm j b).mpr a) b c, fun q e => let ⟨j, x, a, b, c, z⟩ := h.2 q e; ⟨j, x, (hm j b).mp a, b, c, z⟩⟩
theorem Lst.zero {r : List Cell} {v d : Nat} : Lst r v 0 d (rAt r d) := by
  refine ⟨fun j x a b c => ?_, fun m e => ⟨0, m, Nat.le_refl _, by omega, by simpa using e, by simp⟩⟩
  have hj : j = 0 := by omega
  subst hj
  exact ⟨x, by simpa using c, by simp⟩
/-- s pieces more at once, where s is one more than before at most -/
theorem Lst.more {r : List Cell} {v n d s : Nat} {o p : Cell} (h : Lst r v n d o) (hp : s * v ≤ d → Lst r v n (d - s * v) p) (hs : s ≤ n + 1) :
    Lst r v (n + s) d (if s * v ≤ d then bund o p s else o) := by
  by_cases hd : s * v ≤ d
  · rw [if_pos hd]
    obtain ⟨h1, h2⟩ := h
    obtain ⟨p1, p2⟩ := hp hd
    refine ⟨fun j x a b c => ?_, fun m e => ?_⟩
    · by_cases hj : j ≤ n
      · obtain ⟨m, rfl, le⟩ := h1 j x hj b c
        obtain ⟨q, e, le'⟩ := bund_le (few := p) (y := m) (s := s)
        exact ⟨q, e, by omega⟩
      · have e1 : (j - s) * v = j * v - s * v := Nat.sub_mul ..
        have e2 : s * v ≤ j * v := Nat.mul_le_mul_right _ (by omega)
        obtain ⟨m, rfl, le⟩ := p1 (j - s) x (by omega) (by omega) (by rw [show d - s * v - (j - s) * v = d - j * v by omega]; exact c)
        obtain ⟨q, e, le'⟩ := bund_some (o := o) (x := m) (s := s)
        exact ⟨q, e, by omega⟩
    · rcases bund_or e with rfl | ⟨y, rfl, rfl⟩
      · obtain ⟨j, x, a, b, c, z⟩ := h2 m rfl
        exact ⟨j, x, by omega, b, c, z⟩
      · obtain ⟨j, x, a, b, c, z⟩ := p2 y rfl
        have e1 : (j + s) * v = j * v + s * v := Nat.add_mul ..
        exact ⟨j + s, x, by omega, by omega, by rw [show d - (j + s) * v = d - s * v - j * v by omega]; exact c, by omega⟩
  · rw [if_neg hd]
    refine h.cut fun j hj => ⟨fun _ => by omega, fun hle => ?_⟩
    by_cases hjn : j ≤ n
    · exact hjn
    · exfalso
      have : s * v ≤ j * v := Nat.mul_le_mul_right _ (by omega)
      omega
/-- a bundle of s pieces worth a -/
def withBundle (r : List Cell) (a s : Nat) : List Cell := (List.range r.length).map fun d => if a ≤ d then bund (rAt r d) (rAt r (d - a)) s else rAt r d
theorem withBundle_len (r : List Cell) (a s : Nat) : (withBundle r a s).length = r.length := by
  unfold withBundle
  rw [List.length_map, List.length_range]
/-- each size is one more than what is ahead at most -/
def Steps : Nat → List Nat → Prop
  | _, [] => True
  | n, s :: r => s ≤ n + 1 ∧ Steps (n + s) r
theorem steps_snoc : ∀ {l : List Nat} {n s : Nat}, Steps n l → s ≤ n + l.sum + 1 → Steps n (l ++ [s])
  | [], n, s, _, h => ⟨by simpa using h, trivial⟩
  | a :: l, n, s, ⟨h1, h2⟩, h => ⟨h1, steps_snoc h2 (by rw [List.sum_cons] at h; omega)⟩
theorem fold_lst {r : List Cell} {v : Nat} : ∀ {l : List Nat} {n : Nat} {o : List Cell}, Steps n l → o.length = r.length → (∀ d, d < r.length → Lst r v n d (rAt o d)) →
    (l.foldl (fun o s => withBundle o (s * v) s) o).length = r.length ∧ ∀ d, d < r.length → Lst r v (n + l.sum) d (rAt (l.foldl (fun o s => withBundle o (s * v) s) o) d)
  | [], n, o, _, hl, h => ⟨hl, by simpa using h⟩
  | s :: l, n, o, ⟨hs, hst⟩, hl, h => by
    have h' : ∀ d, d < r.length → Lst r v (n + s) d (rAt (withBundle o (s * v) s) d) := by
      intro d hd
      unfold withBundle
      rw [rAt_map (by omega)]
      exact (h d hd).more (fun hle => h _ (by omega)) hs
    have := fold_lst (l := l) hst (by rw [withBundle_len, hl]) h'
    rw [List.foldl_cons, List.sum_cons]
    rw [show n + (s + l.sum) = n + s + l.sum by omega]
    exact this
/-- the least, count by count, as it is walked -/
def leastUp (r : List Cell) (v d : Nat) : Nat → Cell
  | 0 => none
  | i + 1 => bund (leastUp r v d i) (rAt r (d - i * v)) i
theorem leastUp_lst {r : List Cell} {v d : Nat} : ∀ {i : Nat}, i * v ≤ d → Lst r v i d (leastUp r v d (i + 1))
  | 0, _ => by
    have e : leastUp r v d 1 = rAt r d := by
      show bund none (rAt r (d - 0 * v)) ((0 : Nat) : Int) = rAt r d
      rw [Nat.zero_mul, Nat.sub_zero]
      cases rAt r d with
      | none => rfl
      | some x => show some (x + 0) = some x; rw [Int.add_zero]
    rw [e]
    exact Lst.zero
  | i + 1, h => by
    have h0 : i * v ≤ d := Nat.le_trans (Nat.mul_le_mul_right _ (by omega)) h
    obtain ⟨h1, h2⟩ := leastUp_lst (r := r) h0
    show Lst r v (i + 1) d (bund (leastUp r v d (i + 1)) (rAt r (d - (i + 1) * v)) ((i + 1 : Nat) : Int))
    refine ⟨fun j x a b c => ?_, fun m e => ?_⟩
    · by_cases hj : j ≤ i
      · obtain ⟨m, e, le⟩ := h1 j x hj b c
        rw [e]
        obtain ⟨q, e', le'⟩ := bund_le (few := rAt r (d - (i + 1) * v)) (y := m) (s := ((i + 1 : Nat) : Int))
        exact ⟨q, e', by omega⟩
      · have hj' : j = i + 1 := by omega
        subst hj'
        rw [c]
        exact bund_some
    · rcases bund_or e with z | ⟨y, z, rfl⟩
      · obtain ⟨j, x, a, b, c, z⟩ := h2 m z
        exact ⟨j, x, by omega, b, c, z⟩
      · exact ⟨i + 1, y, Nat.le_refl _, h, z, rfl⟩
def leastF (r : List Cell) (v c d : Nat) : Cell := leastUp r v d (min c (d / v) + 1)
theorem leastF_lst {r : List Cell} {v c d : Nat} (hv : 0 < v) : Lst r v c d (leastF r v c d) := by
  have h1 : min c (d / v) * v ≤ d := Nat.le_trans (Nat.mul_le_mul_right _ (Nat.min_le_right ..)) (Nat.div_mul_le_self ..)
  refine (leastUp_lst h1).cut fun j hj => ?_
  have : j ≤ d / v := (Nat.le_div_iff_mul_le hv).mpr hj
  omega
/-- the next row -/
def nextRow (r : List Cell) (v c : Nat) : List Cell := (List.range r.length).map (leastF r v c)
theorem nextRow_len (r : List Cell) (v c : Nat) : (nextRow r v c).length = r.length := by
  unfold nextRow
  rw [List.length_map, List.length_range]
theorem fold_next {r : List Cell} {v c : Nat} {l : List Nat} (hv : 0 < v) (hst : Steps 0 l) (hsum : l.sum = min c ((r.length - 1) / v)) : l.foldl (fun o s => withBundle o (s * v) s) r = nextRow r v c := by
  obtain ⟨h1, h2⟩ := fold_lst (r := r) (v := v) hst rfl fun d _ => Lst.zero
  refine row_ext h1 fun d hd => ?_
  refine Lst.uniq ((h2 d hd).cut (m := c) fun j hj => ?_) (leastF_lst hv)
  have : j ≤ (r.length - 1) / v := (Nat.le_div_iff_mul_le hv).mpr (by omega)
  omega
/-- the rows of a till -/
def rowsOf (r : List Cell) : List (Int × Int) → List (List Cell)
  | [] => [r]
  | p :: ps => r :: rowsOf (nextRow r p.1.toNat p.2.toNat) ps
def row0 (n : Nat) : List Cell := some 0 :: List.replicate n none
theorem row0_len (n : Nat) : (row0 n).length = n + 1 := by simp [row0]
def lastRow (r : List Cell) : List (Int × Int) → List Cell
  | [] => r
  | p :: ps => lastRow (nextRow r p.1.toNat p.2.toNat) ps
theorem lastRow_snoc (r : List Cell) (p : Int × Int) : ∀ ps : List (Int × Int), lastRow r (ps ++ [p]) = nextRow (lastRow r ps) p.1.toNat p.2.toNat := by
  intro ps
  induction ps generalizing r with
  | nil => rfl
  | cons q ps ih => exact ih _
theorem rowsOf_snoc (r : List Cell) (p : Int × Int) : ∀ ps : List (Int × Int), rowsOf r (ps ++ [p]) = rowsOf r ps ++ [lastRow r (ps ++ [p])] := by
  intro ps
  induction ps generalizing r with
  | nil => rfl
  | cons q ps ih => show r :: rowsOf _ (ps ++ [p]) = r :: rowsOf _ ps ++ [lastRow _ (ps ++ [p])]; rw [ih]; rfl
theorem rowsOf_len (r : List Cell) (ps : List (Int × Int)) : (rowsOf r ps).length = ps.length + 1 := by
  induction ps generalizing r with
  | nil => rfl
  | cons q ps ih => show (rowsOf _ ps).length + 1 = _; rw [ih]; rfl
theorem rowsOf_at (r : List Cell) (ps : List (Int × Int)) : ∀ k, k ≤ ps.length → (rowsOf r ps)[k]? = some (lastRow r (ps.take k)) := by
  induction ps generalizing r with
  | nil => intro k hk; have : k = 0 := by simpa using hk
           subst this; rfl
  | cons q ps ih =>
    intro k hk
    cases k with
    | zero => rfl
    | succ k =>
      show (rowsOf _ ps)[k]? = some (lastRow _ (ps.take k))
      exact ih _ k (by simpa using hk)
theorem lastRow_len (r : List Cell) (ps : List (Int × Int)) : (lastRow r ps).length = r.length := by
  induction ps generalizing r with
  | nil => rfl
  | cons q ps ih => show (lastRow _ ps).length = _; rw [ih, nextRow_len]
/-! ### the way that is told -/
/-- the greatest number of pieces, up to g, that the row ahead goes with -/
def pickUp (r : List Cell) (v d : Nat) (m : Int) : Nat → Nat
  | 0 => 0
  | g + 1 => if rAt r (d - (g + 1) * v) = some (m - ((g + 1 : Nat) : Int)) then g + 1 else pickUp r v d m g
def pick (r : List Cell) (v c d : Nat) (m : Int) : Nat := pickUp r v d m (min c (d / v))
theorem pickUp_le (r : List Cell) (v d : Nat) (m : Int) : ∀ g, pickUp r v d m g ≤ g
  | 0 => Nat.le_refl _
  | g + 1 => by
    unfold pickUp
    split
    · exact Nat.le_refl _
    · exact Nat.le_succ_of_le (pickUp_le r v d m g)
theorem pickUp_ok {r : List Cell} {v d : Nat} {m : Int} : ∀ {g : Nat}, (∃ j, j ≤ g ∧ rAt r (d - j * v) = some (m - (j : Int))) → rAt r (d - pickUp r v d m g * v) = some (m - (pickUp r v d m g : Int)) ∧ ∀ j, pickUp r v d m g < j → j ≤ g → rAt r (d - j * v) ≠ some (m - (j : Int))
  | 0, ⟨j, hj, h⟩ => by
    obtain rfl : j = 0 := by omega
    exact ⟨h, fun j h1 h2 => by omega⟩
  | g + 1, ⟨j, hj, h⟩ => by
    unfold pickUp
    by_cases e : rAt r (d - (g + 1) * v) = some (m - ((g + 1 : Nat) : Int))
    · rw [if_pos e]
      exact ⟨e, fun j h1 h2 => by omega⟩
    · rw [if_neg e]
      have hj2 : j ≠ g + 1 := fun z => e (by rw [← z]; exact h)
      obtain ⟨h1, h2⟩ := pickUp_ok (g := g) ⟨j, by omega, h⟩
      refine ⟨h1, fun i hi hi2 => ?_⟩
      by_cases z : i = g + 1
      · rw [z]
        exact e
      · exact h2 i hi (by omega)
/-- what the table tells of the last place goes back by some pieces of the last kind -/
theorem back_one {r : List Cell} {v c d : Nat} {m : Int} (hv : 0 < v) (h : leastF r v c d = some m) : ∃ j, j ≤ min c (d / v) ∧ rAt r (d - j * v) = some (m - (j : Int)) := by
  obtain ⟨j, x, a, b, e, rfl⟩ := (leastF_lst hv).2 m h
  refine ⟨j, Nat.le_min.mpr ⟨a, (Nat.le_div_iff_mul_le hv).mpr b⟩, ?_⟩
  rw [e]
  congr 1
  omega
def cellI (o : Cell) : Int := o.getD 0
/-- the way, by the table, of the first k kinds for d -/
def given (r0 : List Cell) (ps : List (Int × Int)) : Nat → Nat → List (Int × Int)
  | 0, _ => []
  | k + 1, d =>
    let p := ps.getD k (0, 0)
    let g := pick (lastRow r0 (ps.take k)) p.1.toNat p.2.toNat d (cellI (rAt (lastRow r0 (ps.take (k + 1))) d))
    given r0 ps k (d - g * p.1.toNat) ++ (if 0 < g then [(p.1, (g : Int))] else [])
theorem given_succ (r0 : List Cell) (ps : List (Int × Int)) (k d : Nat) {p : Int × Int} (hp : ps[k]? = some p) {g : Nat} (hg : g = pick (lastRow r0 (ps.take k)) p.1.toNat p.2.toNat d (cellI (rAt (lastRow r0 (ps.take (k + 1))) d))) :
    given r0 ps (k + 1) d = given r0 ps k (d - g * p.1.toNat) ++ (if 0 < g then [(p.1, (g : Int))] else []) := by
  subst hg
  show given r0 ps k _ ++ _ = _
  rw [show ps.getD k (0, 0) = p by rw [List.getD_eq_getElem?_getD, hp]; rfl]
/-- a place that the table tells, goes on to one that it tells -/
theorem step_ok {r0 : List Cell} {ps : List (Int × Int)} {k d : Nat} {m : Int} {p : Int × Int} (hp : ps[k]? = some p) (hv : 1 ≤ p.1) (hd : d < r0.length) (h : rAt (lastRow r0 (ps.take (k + 1))) d = some m) {g : Nat}
    (hg : g = pick (lastRow r0 (ps.take k)) p.1.toNat p.2.toNat d m) :
    g ≤ p.2.toNat ∧ g * p.1.toNat ≤ d ∧ rAt (lastRow r0 (ps.take k)) (d - g * p.1.toNat) = some (m - (g : Int)) := by
  have hl : (lastRow r0 (ps.take k)).length = r0.length := lastRow_len ..
  have e : leastF (lastRow r0 (ps.take k)) p.1.toNat p.2.toNat d = some m := by
    rw [← h, List.take_add_one, hp]
    show _ = rAt (lastRow r0 (ps.take k ++ [p])) d
    rw [lastRow_snoc]
    exact (rAt_map (by rw [hl]; exact hd)).symm
  have hb := back_one (by omega) e
  have hle := pickUp_le (lastRow r0 (ps.take k)) p.1.toNat d m (min p.2.toNat (d / p.1.toNat))
  have hok := (pickUp_ok hb).1
  have hgg : g = pickUp (lastRow r0 (ps.take k)) p.1.toNat d m (min p.2.toNat (d / p.1.toNat)) := hg
  rw [← hgg] at hle hok
  refine ⟨by omega, ?_, hok⟩
  exact Nat.le_trans (Nat.mul_le_mul_right _ (by omega : g ≤ d / p.1.toNat)) (Nat.div_mul_le_self ..)
def worthP (l : List (Int × Int)) : Int := (l.map fun p => p.1 * p.2).sum
def manyP (l : List (Int × Int)) : Int := (l.map (·.2)).sum
theorem worthP_app (l k : List (Int × Int)) : worthP (l ++ k) = worthP l + worthP k := by
  unfold worthP
  rw [List.map_append, List.sum_append]
theorem manyP_app (l k : List (Int × Int)) : manyP (l ++ k) = manyP l + manyP k := by
  unfold manyP
  rw [List.map_append, List.sum_append]
theorem row0_some {n d : Nat} {m : Int} (h : rAt (row0 n) d = some m) : d = 0 ∧ m = 0 := by
  cases d with
  | zero =>
    have : some (0 : Int) = some m := h
    exact ⟨rfl, (Option.some.inj this).symm⟩
  | succ d =>
    have : (List.replicate n (none : Cell)).getD d none = some m := h
    rw [List.getD_eq_getElem?_getD, List.getElem?_replicate] at this
    split at this <;> cases this
/-- what the way is -/
theorem given_ok {n : Nat} {ps : List (Int × Int)} (hv : ∀ p ∈ ps, 1 ≤ p.1) : ∀ {k d : Nat} {m : Int}, k ≤ ps.length → d < n + 1 → rAt (lastRow (row0 n) (ps.take k)) d = some m →
    worthP (given (row0 n) ps k d) = (d : Int) ∧ manyP (given (row0 n) ps k d) = m ∧ (∀ q ∈ given (row0 n) ps k d, 1 ≤ q.2 ∧ ∃ c, (q.1, c) ∈ ps.take k ∧ q.2 ≤ c) ∧
    (ps.Pairwise (fun p q => p.1 < q.1) → (given (row0 n) ps k d).Pairwise fun p q => p.1 < q.1) ∧ (given (row0 n) ps k d).length ≤ k
  | 0, d, m, _, _, h => by
    obtain ⟨rfl, rfl⟩ := row0_some h
    exact ⟨rfl, rfl, by simp [given], fun _ => .nil, Nat.le_refl _⟩
  | k + 1, d, m, hk, hd, h => by
    have hp := List.getElem?_eq_getElem (show k < ps.length by omega)
    have hpm := List.getElem_mem (show k < ps.length by omega)
    generalize ps[k] = p at hp hpm
    have hv1 := hv p hpm
    obtain ⟨g1, g2, g3⟩ := step_ok hp hv1 (by rw [row0_len]; exact hd) h rfl
    rw [given_succ (row0 n) ps k d hp (g := pick (lastRow (row0 n) (ps.take k)) p.1.toNat p.2.toNat d m) (by rw [h]; rfl)]
    generalize pick (lastRow (row0 n) (ps.take k)) p.1.toNat p.2.toNat d m = g at g1 g2 g3
    obtain ⟨i1, i2, i3, i4, i5⟩ := given_ok hv (k := k) (by omega) (by omega) g3
    have tk : ps.take (k + 1) = ps.take k ++ [p] := by
      rw [List.take_add_one, hp]
      rfl
    by_cases hg : 0 < g
    · rw [if_pos hg]
      refine ⟨?_, ?_, ?_, ?_, ?_⟩
      · rw [worthP_app, i1]
        show ((d - g * p.1.toNat : Nat) : Int) + (p.1 * (g : Int) + 0) = d
        have e : ((g * p.1.toNat : Nat) : Int) = (g : Int) * p.1 := by
          rw [Int.natCast_mul, Int.toNat_of_nonneg (by omega)]
        rw [Int.mul_comm p.1]
        omega
      · rw [manyP_app, i2]
        show m - (g : Int) + ((g : Int) + 0) = m
        omega
      · intro q hq
        rcases List.mem_append.mp hq with z | z
        · obtain ⟨a, c, b, b'⟩ := i3 q z
          exact ⟨a, c, by rw [tk]; exact List.mem_append.mpr (.inl b), b'⟩
        · rw [List.mem_singleton.mp z]
          exact ⟨by show (1 : Int) ≤ g; omega, p.2, by rw [tk]; exact List.mem_append.mpr (.inr (List.mem_singleton.mpr rfl)), by show (g : Int) ≤ p.2; omega⟩
      · intro hr
        rw [List.pairwise_append]
        refine ⟨i4 hr, List.pairwise_singleton .., fun a ha b hb => ?_⟩
        rw [List.mem_singleton.mp hb]
        obtain ⟨_, c, hc, _⟩ := i3 a ha
        have hpw : (ps.take k ++ [p]).Pairwise fun p q => p.1 < q.1 := by
          rw [← tk]
          exact hr.sublist (List.take_sublist ..)
        exact (List.pairwise_append.mp hpw).2.2 _ hc p (List.mem_singleton.mpr rfl)
      · rw [List.length_append]
        show _ + 1 ≤ k + 1
        omega
    · rw [if_neg hg, List.append_nil]
      have g0 : g = 0 := by omega
      subst g0
      refine ⟨by rw [i1]; omega, by rw [i2]; simp, fun q hq => ?_, i4, by omega⟩
      obtain ⟨a, c, b, b'⟩ := i3 q hq
      exact ⟨a, c, by rw [tk]; exact List.mem_append.mpr (.inl b), b'⟩
/-! ### the scales, by themselves -/
/-- what stands at a place, none beside the row -/
def cellAt (r : List Cell) (z : Int) : Cell := if 0 ≤ z ∧ z < r.length then rAt r z.toNat else none
/-- res is the least over from less c to o pieces of v on top of the row r, at the place d -/
def Lit (r : List Cell) (v c o : Nat) (d : Int) (res : Cell) : Prop :=
  (∀ (j x : Int), -(c : Int) ≤ j → j ≤ o → cellAt r (d - j * v) = some x → ∃ m, res = some m ∧ m ≤ x + j.natAbs) ∧
  (∀ m, res = some m → ∃ (j x : Int), -(c : Int) ≤ j ∧ j ≤ o ∧ cellAt r (d - j * v) = some x ∧ m = x + j.natAbs)
theorem Lit.uniq {r : List Cell} {v c o : Nat} {d : Int} {p q : Cell} (h : Lit r v c o d p) (k : Lit r v c o d q) : p = q := by
  obtain ⟨h1, h2⟩ := h
  obtain ⟨k1, k2⟩ := k
  cases p with
  | none =>
    cases q with
    | none => rfl
    | some m =>
      obtain ⟨j, x, a, b, e, _⟩ := k2 m rfl
      obtain ⟨_, z, _⟩ := h1 j x a b e
      cases z
  | some m =>
    obtain ⟨j, x, a, b, e, em⟩ := h2 m rfl
    obtain ⟨n, rfl, le1⟩ := k1 j x a b e
    obtain ⟨j', x', a', b', e', em'⟩ := k2 n rfl
    obtain ⟨m', y, le2⟩ := h1 j' x' a' b' e'
    cases y
    have : m = n := by omega
    rw [this]
/-- number by number, as it is walked: the i-th is i less c -/
def litUp (r : List Cell) (v c : Nat) (d : Int) : Nat → Cell
  | 0 => none
  | i + 1 => bund (litUp r v c d i) (cellAt r (d - (-(c : Int) + i) * v)) ((-(c : Int) + i).natAbs : Int)
theorem litUp_le {r : List Cell} {v c : Nat} {d : Int} : ∀ {n i : Nat} {x : Int}, i < n → cellAt r (d - (-(c : Int) + i) * v) = some x → ∃ m, litUp r v c d n = some m ∧ m ≤ x + ((-(c : Int) + i).natAbs : Int)
  | n + 1, i, x, hi, hx => by
    by_cases e : i = n
    · subst e
      show ∃ m, bund _ _ _ = some m ∧ _
      rw [hx]
      exact bund_some
    · obtain ⟨m, hm, hle⟩ := litUp_le (n := n) (by omega) hx
      obtain ⟨q, hq, hqle⟩ := bund_le (few := cellAt r (d - (-(c : Int) + n) * v)) (y := m) (s := ((-(c : Int) + n).natAbs : Int))
      exact ⟨q, by show bund _ _ _ = _; rw [hm]; exact hq, by omega⟩
theorem litUp_of {r : List Cell} {v c : Nat} {d : Int} : ∀ {n : Nat} {m : Int}, litUp r v c d n = some m → ∃ (i : Nat) (x : Int), i < n ∧ cellAt r (d - (-(c : Int) + i) * v) = some x ∧ m = x + ((-(c : Int) + i).natAbs : Int)
  | 0, m, h => by cases h
  | n + 1, m, h => by
    rcases bund_or h with e | ⟨x, e, rfl⟩
    · obtain ⟨i, x, hi, hx, hm⟩ := litUp_of e
      exact ⟨i, x, by omega, hx, hm⟩
    · exact ⟨n, x, by omega, e, rfl⟩
def litF (r : List Cell) (v c o : Nat) (d : Int) : Cell := litUp r v c d (c + o + 1)
theorem litF_lit {r : List Cell} {v c o : Nat} {d : Int} : Lit r v c o d (litF r v c o d) := by
  refine ⟨fun j x a b e => ?_, fun m h => ?_⟩
  · obtain ⟨i, hi⟩ : ∃ i : Nat, j = -(c : Int) + i := ⟨(j + c).toNat, by omega⟩
    subst hi
    exact litUp_le (by omega) e
  · obtain ⟨i, x, hi, hx, hm⟩ := litUp_of h
    exact ⟨_, x, by omega, by omega, hx, hm⟩
def nextLit (r : List Cell) (v c o : Nat) : List Cell := (List.range r.length).map fun d : Nat => litF r v c o (d : Int)
theorem nextLit_len (r : List Cell) (v c o : Nat) : (nextLit r v c o).length = r.length := by
  unfold nextLit
  rw [List.length_map, List.length_range]
theorem nextLit_at {r : List Cell} {v c o d : Nat} (h : d < r.length) : rAt (nextLit r v c o) d = litF r v c o (d : Int) := rAt_map h
/-- a kind: its value, what lies in the till, what is in the purse -/
abbrev Kd := Int × Int × Int
def stepL (r : List Cell) (k : Kd) : List Cell := nextLit r k.1.toNat k.2.1.toNat k.2.2.toNat
def lastL (r : List Cell) (ks : List Kd) : List Cell := ks.foldl stepL r
theorem lastL_snoc (r : List Cell) (ks : List Kd) (k : Kd) : lastL r (ks ++ [k]) = stepL (lastL r ks) k := by
  unfold lastL
  rw [List.foldl_append]
  rfl
theorem lastL_len (r : List Cell) (ks : List Kd) : (lastL r ks).length = r.length := by
  unfold lastL
  induction ks generalizing r with
  | nil => rfl
  | cons k ks ih =>
    rw [List.foldl_cons, ih]
    exact nextLit_len ..
def rowsL (r : List Cell) (ks : List Kd) : List (List Cell) := (List.range (ks.length + 1)).map fun k => lastL r (ks.take k)
theorem rowsL_len (r : List Cell) (ks : List Kd) : (rowsL r ks).length = ks.length + 1 := by
  unfold rowsL
  rw [List.length_map, List.length_range]
theorem rowsL_at (r : List Cell) (ks : List Kd) {k : Nat} (h : k ≤ ks.length) : (rowsL r ks)[k]? = some (lastL r (ks.take k)) := by
  unfold rowsL
  rw [List.getElem?_map, List.getElem?_range (by omega)]
  rfl
def row0L (low high : Nat) : List Cell := List.replicate low none ++ some 0 :: List.replicate high none
theorem row0L_len (low high : Nat) : (row0L low high).length = low + high + 1 := by
  unfold row0L
  rw [List.length_append, List.length_cons, List.length_replicate, List.length_replicate]
  omega
theorem row0L_at {low high : Nat} {z m : Int} (h : cellAt (row0L low high) z = some m) : z = low ∧ m = 0 := by
  unfold cellAt at h
  split at h
  · next hz =>
    obtain ⟨i, rfl⟩ : ∃ i : Nat, z = (i : Int) := ⟨z.toNat, by omega⟩
    rw [Int.toNat_natCast] at h
    unfold rAt row0L at h
    rw [List.getD_eq_getElem?_getD] at h
    by_cases h1 : i < low
    · rw [List.getElem?_append_left (by rw [List.length_replicate]; exact h1), List.getElem?_replicate, if_pos h1] at h
      cases h
    · rw [List.getElem?_append_right (by rw [List.length_replicate]; omega), List.length_replicate] at h
      by_cases h2 : i = low
      · subst h2
        rw [Nat.sub_self] at h
        exact ⟨rfl, (Option.some.inj h).symm⟩
      · obtain ⟨k, hk⟩ : ∃ k, i - low = k + 1 := ⟨i - low - 1, by omega⟩
        rw [hk, List.getElem?_cons_succ, List.getElem?_replicate] at h
        split at h <;> cases h
  · cases h
theorem row0L_low {low high : Nat} : cellAt (row0L low high) (low : Int) = some 0 := by
  unfold cellAt
  rw [if_pos ⟨by omega, by rw [row0L_len]; omega⟩, Int.toNat_natCast]
  unfold rAt row0L
  rw [List.getD_eq_getElem?_getD, List.getElem?_append_right (by rw [List.length_replicate]; exact Nat.le_refl _), List.length_replicate, Nat.sub_self]
  rfl
/-! the deal that is told: the greatest number that goes with the row ahead -/
def pickL (r : List Cell) (v c : Nat) (d m : Int) : Nat → Int
  | 0 => -(c : Int)
  | i + 1 => if cellAt r (d - (-(c : Int) + (i + 1 : Nat)) * v) = some (m - ((-(c : Int) + (i + 1 : Nat)).natAbs : Int)) then -(c : Int) + (i + 1 : Nat) else pickL r v c d m i
theorem pickL_in (r : List Cell) (v c : Nat) (d m : Int) : ∀ n, -(c : Int) ≤ pickL r v c d m n ∧ pickL r v c d m n ≤ -(c : Int) + n
  | 0 => by
    unfold pickL
    omega
  | n + 1 => by
    have := pickL_in r v c d m n
    unfold pickL
    split <;> omega
theorem pickL_ok {r : List Cell} {v c : Nat} {d m : Int} : ∀ {n : Nat}, (∃ i : Nat, i ≤ n ∧ cellAt r (d - (-(c : Int) + i) * v) = some (m - ((-(c : Int) + i).natAbs : Int))) →
    cellAt r (d - pickL r v c d m n * v) = some (m - ((pickL r v c d m n).natAbs : Int)) ∧ ∀ j : Int, pickL r v c d m n < j → j ≤ -(c : Int) + n → cellAt r (d - j * v) ≠ some (m - (j.natAbs : Int))
  | 0, ⟨i, hi, h⟩ => by
    obtain rfl : i = 0 := by omega
    unfold pickL
    refine ⟨by simpa using h, fun j h1 h2 => by omega⟩
  | n + 1, ⟨i, hi, h⟩ => by
    unfold pickL
    by_cases e : cellAt r (d - (-(c : Int) + (n + 1 : Nat)) * v) = some (m - ((-(c : Int) + (n + 1 : Nat)).natAbs : Int))
    · rw [if_pos e]
      exact ⟨e, fun j h1 h2 => by omega⟩
    · rw [if_neg e]
      have hi2 : i ≠ n + 1 := fun z => e (by rw [← z]; exact h)
      obtain ⟨h1, h2⟩ := pickL_ok (n := n) ⟨i, by omega, h⟩
      refine ⟨h1, fun j hj hj2 => ?_⟩
      by_cases z : j = -(c : Int) + (n + 1 : Nat)
      · rw [z]
        exact e
      · exact h2 j hj (by omega)
def pickK (r : List Cell) (k : Kd) (d m : Int) : Int := pickL r k.1.toNat k.2.1.toNat d m (k.2.1.toNat + k.2.2.toNat)
theorem back_oneL {r : List Cell} {v c o : Nat} {d : Int} {m : Int} (h : litF r v c o d = some m) : ∃ i : Nat, i ≤ c + o ∧ cellAt r (d - (-(c : Int) + i) * v) = some (m - ((-(c : Int) + i).natAbs : Int)) := by
  obtain ⟨i, x, hi, hx, rfl⟩ := litUp_of h
  refine ⟨i, by omega, ?_⟩
  rw [hx]
  congr 1
  omega
theorem cellAt_next {r : List Cell} {k : Kd} {z : Int} {m : Int} (h : cellAt (stepL r k) z = some m) : 0 ≤ z ∧ z < r.length ∧ litF r k.1.toNat k.2.1.toNat k.2.2.toNat z = some m := by
  unfold cellAt at h
  split at h
  · next hz =>
    have hl : (stepL r k).length = r.length := nextLit_len ..
    rw [hl] at hz
    refine ⟨hz.1, hz.2, ?_⟩
    have := nextLit_at (r := r) (v := k.1.toNat) (c := k.2.1.toNat) (o := k.2.2.toNat) (d := z.toNat) (by omega)
    rw [Int.toNat_of_nonneg hz.1] at this
    rw [← this]
    exact h
  · cases h
/-- the way, by the scales, of the first k kinds to the place d -/
def wayL (r0 : List Cell) (ks : List Kd) : Nat → Int → List Int
  | 0, _ => []
  | k + 1, d =>
    let p := ks.getD k (0, 0, 0)
    let g := pickK (lastL r0 (ks.take k)) p d (cellI (cellAt (lastL r0 (ks.take (k + 1))) d))
    wayL r0 ks k (d - g * p.1.toNat) ++ [g]
theorem wayL_succ (r0 : List Cell) (ks : List Kd) (k : Nat) (d : Int) {p : Kd} (hp : ks[k]? = some p) {g : Int} (hg : g = pickK (lastL r0 (ks.take k)) p d (cellI (cellAt (lastL r0 (ks.take (k + 1))) d))) :
    wayL r0 ks (k + 1) d = wayL r0 ks k (d - g * p.1.toNat) ++ [g] := by
  subst hg
  show wayL r0 ks k _ ++ _ = _
  rw [show ks.getD k (0, 0, 0) = p by rw [List.getD_eq_getElem?_getD, hp]; rfl]
theorem wayL_len (r0 : List Cell) (ks : List Kd) : ∀ (k : Nat) (d : Int), (wayL r0 ks k d).length = k
  | 0, _ => rfl
  | k + 1, d => by
    show (wayL r0 ks k _ ++ [_]).length = _
    rw [List.length_append, wayL_len r0 ks k]
    rfl
/-- a place that the scales tell, goes on to one that they tell -/
theorem stepL_ok {r0 : List Cell} {ks : List Kd} {k : Nat} {d m : Int} {p : Kd} (hp : ks[k]? = some p) (h : cellAt (lastL r0 (ks.take (k + 1))) d = some m) {g : Int} (hg : g = pickK (lastL r0 (ks.take k)) p d m) :
    -(p.2.1.toNat : Int) ≤ g ∧ g ≤ p.2.2.toNat ∧ cellAt (lastL r0 (ks.take k)) (d - g * p.1.toNat) = some (m - (g.natAbs : Int)) ∧ ∀ j : Int, g < j → j ≤ p.2.2.toNat → cellAt (lastL r0 (ks.take k)) (d - j * p.1.toNat) ≠ some (m - (j.natAbs : Int)) := by
  rw [List.take_add_one, hp] at h
  change cellAt (lastL r0 (ks.take k ++ [p])) d = some m at h
  rw [lastL_snoc] at h
  obtain ⟨_, _, hl⟩ := cellAt_next h
  have hb := back_oneL hl
  obtain ⟨h1, h2⟩ := pickL_ok hb
  have hin := pickL_in (lastL r0 (ks.take k)) p.1.toNat p.2.1.toNat d m (p.2.1.toNat + p.2.2.toNat)
  have hgg : g = pickL (lastL r0 (ks.take k)) p.1.toNat p.2.1.toNat d m (p.2.1.toNat + p.2.2.toNat) := hg
  rw [← hgg] at h1 h2 hin
  exact ⟨hin.1, by omega, h1, fun j a b => h2 j a (by omega)⟩
/-! ### every way to deal -/
def waysD (ks : List Kd) : Nat → List (List Int)
  | 0 => [[]]
  | k + 1 => (waysD ks k).flatMap fun w => (List.range ((ks.getD k (0, 0, 0)).2.1.toNat + (ks.getD k (0, 0, 0)).2.2.toNat + 1)).map fun i : Nat => w ++ [-((ks.getD k (0, 0, 0)).2.1.toNat : Int) + (i : Int)]
def worthD (ks : List Kd) (w : List Int) : Int := ((ks.zip w).map fun x => x.1.1 * x.2).sum
def fewD (w : List Int) : Int := (w.map fun j => (j.natAbs : Int)).sum
theorem fewD_snoc (w : List Int) (j : Int) : fewD (w ++ [j]) = fewD w + (j.natAbs : Int) := by
  unfold fewD
  rw [List.map_append, List.sum_append]
  simp
theorem worthD_snoc {ks : List Kd} {w : List Int} {p : Kd} {j : Int} (h : ks.length = w.length) : worthD (ks ++ [p]) (w ++ [j]) = worthD ks w + p.1 * j := by
  unfold worthD
  rw [List.zip_append h, List.map_append, List.sum_append]
  simp
theorem waysD_in {ks : List Kd} {k : Nat} {p : Kd} {w : List Int} (hp : ks[k]? = some p) : w ∈ waysD ks (k + 1) ↔ ∃ v j, w = v ++ [j] ∧ v ∈ waysD ks k ∧ -(p.2.1.toNat : Int) ≤ j ∧ j ≤ p.2.2.toNat := by
  show w ∈ List.flatMap _ _ ↔ _
  rw [List.mem_flatMap, show ks.getD k (0, 0, 0) = p by rw [List.getD_eq_getElem?_getD, hp]; rfl]
  constructor
  · rintro ⟨v, hv, hw⟩
    obtain ⟨i, hi, rfl⟩ := List.mem_map.mp hw
    have := List.mem_range.mp hi
    exact ⟨v, _, rfl, hv, by omega, by omega⟩
  · rintro ⟨v, j, rfl, hv, h1, h2⟩
    exact ⟨v, hv, List.mem_map.mpr ⟨(j + p.2.1.toNat).toNat, List.mem_range.mpr (by omega), by rw [show -(p.2.1.toNat : Int) + ((j + p.2.1.toNat).toNat : Int) = j by omega]⟩⟩
theorem waysD_len {ks : List Kd} : ∀ {k : Nat} {w : List Int}, k ≤ ks.length → w ∈ waysD ks k → w.length = k
  | 0, w, _, h => by
    rw [List.mem_singleton.mp h]
    rfl
  | k + 1, w, hk, h => by
    obtain ⟨v, j, rfl, hv, _⟩ := (waysD_in (List.getElem?_eq_getElem (show k < ks.length by omega))).mp h
    rw [List.length_append, waysD_len (by omega) hv]
    rfl
/-- what the first k kinds are worth, in the till and in the purse -/
def loK (ks : List Kd) : Int := (ks.map fun p => p.1 * p.2.1).sum
def hiK (ks : List Kd) : Int := (ks.map fun p => p.1 * p.2.2).sum
/-- kinds that are ones -/
def KdOk (ks : List Kd) : Prop := ∀ p ∈ ks, 1 ≤ p.1 ∧ 0 ≤ p.2.1 ∧ 0 ≤ p.2.2
theorem mono_sum {l : List Kd} {f : Kd → Int} (h : ∀ p ∈ l, 0 ≤ f p) : 0 ≤ (l.map f).sum := by
  induction l with
  | nil => exact Int.le_refl _
  | cons p l ih =>
    rw [List.map_cons, List.sum_cons]
    have h1 := ih fun q hq => h q (List.mem_cons_of_mem _ hq)
    have h2 := h p List.mem_cons_self
    omega
theorem take_sum {l : List Kd} {f : Kd → Int} (h : ∀ p ∈ l, 0 ≤ f p) (k : Nat) : ((l.take k).map f).sum ≤ (l.map f).sum := by
  have e : (l.map f).sum = ((l.take k).map f).sum + ((l.drop k).map f).sum := by
    rw [← List.sum_append, ← List.map_append, List.take_append_drop]
  have := mono_sum (l := l.drop k) (f := f) fun p hp => h p (List.mem_of_mem_drop hp)
  omega
theorem loK_le {ks : List Kd} (h : KdOk ks) (k : Nat) : loK (ks.take k) ≤ loK ks := take_sum (fun p hp => Int.mul_nonneg (by have := (h p hp).1; omega) (h p hp).2.1) k
theorem hiK_le {ks : List Kd} (h : KdOk ks) (k : Nat) : hiK (ks.take k) ≤ hiK ks := take_sum (fun p hp => Int.mul_nonneg (by have := (h p hp).1; omega) (h p hp).2.2) k
theorem loK_snoc (ks : List Kd) (p : Kd) : loK (ks ++ [p]) = loK ks + p.1 * p.2.1 := by
  unfold loK
  rw [List.map_append, List.sum_append]
  simp
theorem hiK_snoc (ks : List Kd) (p : Kd) : hiK (ks ++ [p]) = hiK ks + p.1 * p.2.2 := by
  unfold hiK
  rw [List.map_append, List.sum_append]
  simp
theorem wayD_in {ks : List Kd} (h : KdOk ks) : ∀ {k : Nat} {w : List Int}, k ≤ ks.length → w ∈ waysD ks k → -(loK (ks.take k)) ≤ worthD (ks.take k) w ∧ worthD (ks.take k) w ≤ hiK (ks.take k)
  | 0, w, _, hw => by
    rw [List.mem_singleton.mp hw]
    exact ⟨Int.le_refl _, Int.le_refl _⟩
  | k + 1, w, hk, hw => by
    have hp := List.getElem?_eq_getElem (show k < ks.length by omega)
    have hpm := List.getElem_mem (show k < ks.length by omega)
    generalize ks[k] = p at hp hpm
    have hv := h p hpm
    obtain ⟨v, j, rfl, hvw, hj1, hj2⟩ := (waysD_in hp).mp hw
    obtain ⟨i1, i2⟩ := wayD_in h (by omega) hvw
    have hvl := waysD_len (by omega) hvw
    rw [show ks.take (k + 1) = ks.take k ++ [p] by rw [List.take_add_one, hp]; rfl, worthD_snoc (by rw [hvl, List.length_take]; omega), loK_snoc, hiK_snoc]
    have c1 : p.1 * (-p.2.1) ≤ p.1 * j := Int.mul_le_mul_of_nonneg_left (by omega) (by omega)
    have c2 : p.1 * j ≤ p.1 * p.2.2 := Int.mul_le_mul_of_nonneg_left (by omega) (by omega)
    rw [Int.mul_neg] at c1
    omega
def lexI : List Int → List Int → Bool
  | a :: x, b :: y => if a = b then lexI x y else decide (b < a)
  | _, _ => false
def betterD (x y : List Int) : Bool := if fewD x = fewD y then lexI x.reverse y.reverse else decide (fewD x < fewD y)
/-- a way is told by the scales, and takes no fewer pieces than they tell -/
theorem wayD_some {low high : Nat} {ks : List Kd} (h : KdOk ks) (hlo : loK ks = low) (hhi : hiK ks = high) : ∀ {k : Nat} {w : List Int}, k ≤ ks.length → w ∈ waysD ks k →
    ∃ m, cellAt (lastL (row0L low high) (ks.take k)) (low + worthD (ks.take k) w) = some m ∧ m ≤ fewD w
  | 0, w, _, hw => by
    rw [List.mem_singleton.mp hw]
    refine ⟨0, ?_, Int.le_refl _⟩
    show cellAt (row0L low high) ((low : Int) + 0) = some 0
    rw [Int.add_zero]
    exact row0L_low
  | k + 1, w, hk, hw => by
    have hin := wayD_in h hk hw
    have l1 := loK_le h (k + 1)
    have l2 := hiK_le h (k + 1)
    have hp := List.getElem?_eq_getElem (show k < ks.length by omega)
    have hpm := List.getElem_mem (show k < ks.length by omega)
    generalize ks[k] = p at hp hpm
    have hv := h p hpm
    obtain ⟨v, j, rfl, hvw, hj1, hj2⟩ := (waysD_in hp).mp hw
    have hvl := waysD_len (by omega) hvw
    have tk : ks.take (k + 1) = ks.take k ++ [p] := by
      rw [List.take_add_one, hp]
      rfl
    obtain ⟨m, hm, hle⟩ := wayD_some h hlo hhi (k := k) (by omega) hvw
    have hw' : worthD (ks.take (k + 1)) (v ++ [j]) = worthD (ks.take k) v + p.1 * j := by
      rw [tk, worthD_snoc (by rw [hvl, List.length_take]; omega)]
    rw [hw'] at hin ⊢
    have hpv : (p.1.toNat : Int) = p.1 := Int.toNat_of_nonneg (by omega)
    have hlit := litF_lit (r := lastL (row0L low high) (ks.take k)) (v := p.1.toNat) (c := p.2.1.toNat) (o := p.2.2.toNat) (d := (low : Int) + (worthD (ks.take k) v + p.1 * j))
    obtain ⟨q, hq, hqle⟩ := hlit.1 j m hj1 hj2 (by
      rw [hpv, show (low : Int) + (worthD (ks.take k) v + p.1 * j) - j * p.1 = low + worthD (ks.take k) v by rw [Int.mul_comm j p.1]; omega]
      exact hm)
    refine ⟨q, ?_, by rw [fewD_snoc]; omega⟩
    have hl : (lastL (row0L low high) (ks.take (k + 1))).length = low + high + 1 := by rw [lastL_len, row0L_len]
    obtain ⟨i, hi⟩ : ∃ i : Nat, (low : Int) + (worthD (ks.take k) v + p.1 * j) = (i : Int) := ⟨_, (Int.toNat_of_nonneg (by omega)).symm⟩
    unfold cellAt
    rw [if_pos ⟨by omega, by rw [hl]; omega⟩, tk, lastL_snoc]
    rw [hi] at hq ⊢
    rw [Int.toNat_natCast]
    exact (nextLit_at (by rw [lastL_len, row0L_len]; omega)).trans hq
/-- the way told is one of all, and beats each other one of the same worth -/
theorem wayL_best {low high : Nat} {ks : List Kd} (h : KdOk ks) (hlo : loK ks = low) (hhi : hiK ks = high) : ∀ {k : Nat} {d m : Int}, k ≤ ks.length → cellAt (lastL (row0L low high) (ks.take k)) d = some m →
    wayL (row0L low high) ks k d ∈ waysD ks k ∧ worthD (ks.take k) (wayL (row0L low high) ks k d) = d - low ∧ fewD (wayL (row0L low high) ks k d) = m ∧
    ∀ w ∈ waysD ks k, worthD (ks.take k) w = d - low → w ≠ wayL (row0L low high) ks k d → fewD w = m → lexI (wayL (row0L low high) ks k d).reverse w.reverse = true ∧ lexI w.reverse (wayL (row0L low high) ks k d).reverse = false
  | 0, d, m, _, hm => by
    obtain ⟨rfl, rfl⟩ := row0L_at hm
    refine ⟨List.mem_singleton.mpr rfl, by show (0 : Int) = low - low; omega, rfl, fun w hw _ hne => absurd (List.mem_singleton.mp hw) hne⟩
  | k + 1, d, m, hk, hm => by
    have hp := List.getElem?_eq_getElem (show k < ks.length by omega)
    have hpm := List.getElem_mem (show k < ks.length by omega)
    generalize ks[k] = p at hp hpm
    have hv := h p hpm
    have tk : ks.take (k + 1) = ks.take k ++ [p] := by
      rw [List.take_add_one, hp]
      rfl
    have hpv : (p.1.toNat : Int) = p.1 := Int.toNat_of_nonneg (by omega)
    obtain ⟨g1, g2, g3, gtop⟩ := stepL_ok hp hm rfl
    have gs := wayL_succ (row0L low high) ks k d hp (g := pickK (lastL (row0L low high) (ks.take k)) p d m) (by rw [hm]; rfl)
    rw [gs]
    generalize pickK (lastL (row0L low high) (ks.take k)) p d m = g at g1 g2 g3 gtop
    rw [hpv] at g3 gtop ⊢
    obtain ⟨i1, i2, i3, i4⟩ := wayL_best h hlo hhi (k := k) (by omega) g3
    have hgl := wayL_len (row0L low high) ks k (d - g * p.1)
    have hcm : p.1 * g = g * p.1 := Int.mul_comm ..
    refine ⟨(waysD_in hp).mpr ⟨_, g, rfl, i1, g1, g2⟩, ?_, ?_, ?_⟩
    · rw [tk, worthD_snoc (by rw [hgl, List.length_take]; omega), i2]
      omega
    · rw [fewD_snoc, i3]
      omega
    · intro w hw hwd hne hsum
      obtain ⟨v, j, rfl, hvw, hj1, hj2⟩ := (waysD_in hp).mp hw
      have hvl := waysD_len (by omega) hvw
      rw [tk, worthD_snoc (by rw [hvl, List.length_take]; omega)] at hwd
      rw [fewD_snoc] at hsum
      have hcj : p.1 * j = j * p.1 := Int.mul_comm ..
      obtain ⟨m', hm', hle'⟩ := wayD_some h hlo hhi (k := k) (by omega) hvw
      rw [show (low : Int) + worthD (ks.take k) v = d - j * p.1 by omega] at hm'
      -- m is the least
      have hmm : m ≤ m' + (j.natAbs : Int) := by
        rw [tk, lastL_snoc] at hm
        obtain ⟨_, _, hl⟩ := cellAt_next hm
        have hlit := litF_lit (r := lastL (row0L low high) (ks.take k)) (v := p.1.toNat) (c := p.2.1.toNat) (o := p.2.2.toNat) (d := d)
        rw [hl] at hlit
        obtain ⟨q, hq, hqle⟩ := hlit.1 j m' hj1 hj2 (by rw [hpv]; exact hm')
        cases hq
        exact hqle
      have hme : m' = m - (j.natAbs : Int) := by omega
      rw [hme] at hm'
      have hjg : j ≤ g := by
        by_cases hlt : g < j
        · exact absurd hm' (gtop j hlt hj2)
        · omega
      rw [List.reverse_append, List.reverse_append]
      show lexI (g :: (wayL (row0L low high) ks k (d - g * p.1)).reverse) (j :: v.reverse) = true ∧ lexI (j :: v.reverse) (g :: (wayL (row0L low high) ks k (d - g * p.1)).reverse) = false
      unfold lexI
      by_cases e : g = j
      · subst e
        rw [if_pos rfl, if_pos rfl]
        exact i4 v hvw (by omega) (fun e => hne (by rw [e])) (by omega)
      · rw [if_neg e, if_neg (Ne.symm e)]
        exact ⟨decide_eq_true (by omega), decide_eq_false (by omega)⟩
/-- what is paid, what is given back -/
def payD (ks : List Kd) (w : List Int) : List (Int × Int) := ((ks.zip w).filter fun x => decide (0 < x.2)).map fun x => (x.1.1, x.2)
def giveD (ks : List Kd) (w : List Int) : List (Int × Int) := ((ks.zip w).filter fun x => decide (x.2 < 0)).map fun x => (x.1.1, -x.2)
theorem payD_snoc {ks : List Kd} {w : List Int} {p : Kd} {j : Int} (h : ks.length = w.length) : payD (ks ++ [p]) (w ++ [j]) = payD ks w ++ (if 0 < j then [(p.1, j)] else []) := by
  unfold payD
  rw [List.zip_append h, List.filter_append, List.map_append]
  congr 1
  show List.map _ (List.filter _ [(p, j)]) = _
  by_cases hj : 0 < j
  · rw [if_pos hj, List.filter_cons_of_pos (by simpa using hj)]
    rfl
  · rw [if_neg hj, List.filter_cons_of_neg (by simpa using hj)]
    rfl
theorem giveD_snoc {ks : List Kd} {w : List Int} {p : Kd} {j : Int} (h : ks.length = w.length) : giveD (ks ++ [p]) (w ++ [j]) = giveD ks w ++ (if j < 0 then [(p.1, -j)] else []) := by
  unfold giveD
  rw [List.zip_append h, List.filter_append, List.map_append]
  congr 1
  show List.map _ (List.filter _ [(p, j)]) = _
  by_cases hj : j < 0
  · rw [if_pos hj, List.filter_cons_of_pos (by simpa using hj)]
    rfl
  · rw [if_neg hj, List.filter_cons_of_neg (by simpa using hj)]
    rfl
/-! ### rows as lists -/
def vO : Cell → V
  | none => .non
  | some i => .int i
theorem vO_at {r : List Cell} {i : Nat} (h : i < r.length) : (r.map vO)[i]? = some (vO (rAt r i)) := by
  rw [List.getElem?_map, rAt_lt h]
  rfl
def Row (K : PySem.W.Frag) (H : Hp) (a : Addr) (r : List Cell) : Prop := SqL K H a (r.map vO)
/-- the rows, each a list of its own -/
def RowsAt (H : Hp) : List Addr → List (List Cell) → Prop := Paired fun a r => H a = some (.lst (r.map vO))
theorem RowsAt.ex {H H' : Hp} (e : Ex H H') : ∀ {as : List Addr} {rs : List (List Cell)}, RowsAt H as rs → RowsAt H' as rs
  | _, _, .nil => .nil
  | _, _, .cons h r => .cons (e _ _ h) (RowsAt.ex e r)
theorem RowsAt.len {H : Hp} {as : List Addr} {rs : List (List Cell)} (h : RowsAt H as rs) : as.length = rs.length := Paired.length h
theorem RowsAt.snoc {H : Hp} : ∀ {as : List Addr} {rs : List (List Cell)} {a : Addr} {r : List Cell}, RowsAt H as rs → H a = some (.lst (r.map vO)) → RowsAt H (as ++ [a]) (rs ++ [r])
  | _, _, _, _, .nil, h => .cons h .nil
  | _, _, _, _, .cons b r, h => .cons b (RowsAt.snoc r h)
theorem RowsAt.get {H : Hp} : ∀ {as : List Addr} {rs : List (List Cell)} {i : Nat} {r : List Cell}, RowsAt H as rs → rs[i]? = some r → ∃ a, as[i]? = some a ∧ H a = some (.lst (r.map vO))
  | _, _, i, _, .nil, e => by simp at e
  | _, _, 0, _, .cons h _, e => by simp at e; subst e; exact ⟨_, by simp, h⟩
  | _, _, i + 1, _, .cons _ r, e => by
    obtain ⟨a, h1, h2⟩ := RowsAt.get (i := i) r (by simpa using e)
    exact ⟨a, by simpa using h1, h2⟩
theorem RowsAt.getA {H : Hp} : ∀ {as : List Addr} {rs : List (List Cell)} {i : Nat} {a : Addr}, RowsAt H as rs → as[i]? = some a → ∃ r, rs[i]? = some r ∧ H a = some (.lst (r.map vO))
  | _, _, i, _, .nil, e => by simp at e
  | _, _, 0, _, .cons h _, e => by simp at e; subst e; exact ⟨_, by simp, h⟩
  | _, _, i + 1, _, .cons _ r, e => by
    obtain ⟨x, h1, h2⟩ := RowsAt.getA (i := i) r (by simpa using e)
    exact ⟨x, by simpa using h1, h2⟩
theorem RowsAt.up {H : Hp} {f : Addr} {o : HO} : ∀ {as : List Addr} {rs : List (List Cell)}, f ∉ as → RowsAt H as rs → RowsAt (upd H f o) as rs
  | _, _, _, .nil => .nil
  | _, _, hf, .cons h r => .cons (by rw [upd_ne fun e => hf (by rw [← e]; exact List.mem_cons_self)]; exact h) (RowsAt.up (fun z => hf (List.mem_cons_of_mem _ z)) r)
theorem RowsAt.mem {H : Hp} : ∀ {as : List Addr} {rs : List (List Cell)} {x : Addr}, RowsAt H as rs → x ∈ as → ∃ o, H x = some o
  | a :: as, _, x, .cons h r, hx => by
    rcases List.mem_cons.mp hx with e | e
    · exact ⟨_, e ▸ h⟩
    · exact RowsAt.mem r e
/-- the table: new lists -/
def NewRows (H : Hp) (rs : List (List Cell)) (Q : VK) : Prop := ∀ R as H2, Ex H H2 → (∀ a ∈ R :: as, H a = none) → (R :: as).Nodup → H2 R = some (.lst (as.map V.ref)) → RowsAt H2 as rs → Q (.ref R) H2
theorem at_row {H : Hp} {as : List Addr} {rs : List (List Cell)} {i : Int} {k : Nat} {r : List Cell} (h : RowsAt H as rs) (hi : i = (k : Int)) (e : rs[k]? = some r) : ∃ a, atI (as.map V.ref) i = some (.ref a) ∧ as[k]? = some a ∧ H a = some (.lst (r.map vO)) := by
  obtain ⟨a, h1, h2⟩ := h.get e
  refine ⟨a, at_of hi ?_, h1, h2⟩
  rw [List.getElem?_map, h1]
  rfl
/-- the bundle, as far as a place -/
def wbUp (r : List Cell) (A s m : Nat) : List Cell := (List.range r.length).map fun d => if A ≤ d ∧ d < m then bund (rAt r d) (rAt r (d - A)) s else rAt r d
theorem wbUp_len (r : List Cell) (A s m : Nat) : (wbUp r A s m).length = r.length := by
  show ((List.range r.length).map _).length = _
  rw [List.length_map, List.length_range]
theorem wbUp_start (r : List Cell) (A s : Nat) : wbUp r A s A = r := by
  refine (row_ext rfl fun i hi => ?_).symm
  rw [if_neg (by omega)]
theorem wbUp_end {r : List Cell} {A s m : Nat} (h : r.length ≤ m) : wbUp r A s m = withBundle r A s := by
  refine row_ext (wbUp_len ..) fun i hi => ?_
  rw [show rAt (wbUp r A s m) i = _ from rAt_map hi]
  by_cases ha : A ≤ i
  · rw [if_pos ha, if_pos ⟨ha, by omega⟩]
  · rw [if_neg ha, if_neg fun z => ha z.1]
theorem wbUp_at {r : List Cell} {A s m : Nat} (h : m < r.length) : rAt (wbUp r A s m) m = rAt r m := by
  rw [show rAt (wbUp r A s m) m = _ from rAt_map h, if_neg (by omega)]
theorem set_map {r : List Cell} {m : Nat} {c : Cell} : (r.map vO).set m (vO c) = (r.set m c).map vO := by
  rw [List.map_set]
theorem wbUp_set {r : List Cell} {A s m : Nat} {c : Cell} (hm : m < r.length) (ha : A ≤ m) (hc : c = bund (rAt r m) (rAt r (m - A)) s) : (wbUp r A s m).set m c = wbUp r A s (m + 1) := by
  apply List.ext_getElem?
  intro i
  by_cases hi : i < r.length
  · rw [rAt_lt (r := wbUp r A s (m + 1)) (by rw [wbUp_len]; exact hi), show rAt (wbUp r A s (m + 1)) i = _ from rAt_map hi]
    by_cases e : i = m
    · subst e
      rw [List.getElem?_set_self (by rw [wbUp_len]; exact hi), if_pos ⟨ha, by omega⟩, hc]
    · rw [List.getElem?_set_ne (by omega), rAt_lt (by rw [wbUp_len]; exact hi), show rAt (wbUp r A s m) i = _ from rAt_map hi]
      by_cases z : A ≤ i ∧ i < m
      · rw [if_pos z, if_pos ⟨z.1, by omega⟩]
      · rw [if_neg z, if_neg (by omega)]
  · rw [List.getElem?_eq_none (by rw [List.length_set, wbUp_len]; omega), List.getElem?_eq_none (by rw [wbUp_len]; omega)]
theorem wbUp_keep {r : List Cell} {A s m : Nat} (hm : m < r.length) (h : rAt r m = bund (rAt r m) (rAt r (m - A)) s) : wbUp r A s (m + 1) = wbUp r A s m := by
  refine row_ext (n := r.length) (wbUp_len ..) fun i hi => ?_
  rw [show rAt (wbUp r A s (m + 1)) i = _ from rAt_map hi]
  by_cases e : i = m
  · subst e
    rw [if_neg (by omega : ¬ (A ≤ i ∧ i < i))]
    split
    · exact h.symm
    · rfl
  · by_cases z : A ≤ i ∧ i < m
    · rw [if_pos z, if_pos ⟨z.1, by omega⟩]
    · rw [if_neg z, if_neg (by omega)]
/-- a new row -/
def NewRow (H : Hp) (r : List Cell) (Q : VK) : Prop := ∀ p H2, Ex H H2 → H p = none → H2 p = some (.lst (r.map vO)) → Q (.ref p) H2
def spBundle (K : PySem.W.Frag) : Sp := fun vs H Q _ => ∃ (a : Addr) (r : List Cell) (A s : Nat), vs = [.ref a, .int (A : Int), .int (s : Int)] ∧ Row K H a r ∧ r.length ≤ 2000 ∧ A ≤ 1000000 ∧ NewRow H (withBundle r A s) Q
theorem ok_with_bundle (T : Tx K mg) : FnOk P w K mg base CX0 1 T.a__with_bundle T.d__with_bundle P__with_bundle (spBundle K) := by
  refine T.f__with_bundle.ok sc__with_bundle (fun vs H Q E h => ?_) (fun cdv A outer s H vs Q E hr h => ?_)
  · obtain ⟨a, r, B, s, rfl, _⟩ := h
    rfl
  · obtain ⟨a, r, B, s, rfl, hS, hl, hB, q⟩ := h
    refine ⟨_, (pss_cons (ps_set (i := 3) sc__with_bundle.nd rfl (.inl rfl) (pe_callTy call_list_of (by rfl) T.m_list (by decide +kernel) (pa_cons (pv 0) pa_nil)))
    (pss_cons (ps_for PassesOwn.never rfl (pi_range2 (by rfl) T.m_range (pa_cons (pv 1) (pa_cons (pe_callB call_len_seq (by rfl) T.m_len (by decide +kernel) (pa_cons (pv 0) pa_nil)) pa_nil))) (pg_name (i := 4) sc__with_bundle.nd rfl (.inl rfl))
      (pss_cons (ps_set (i := 5) sc__with_bundle.nd rfl (.inl rfl) (pe_ix ix_list (pv 0) (pe_op op_sub (pv 4) (pv 1)) (fun _ _ => rfl)))
      (pss_one (ps_if (PW.pt (pw_and (pt_cmpR op_notN (pv 5) pe_non (nomark _)) (pw_and1 (PW.pt (pw_or (pt_cmpR op_isN (pe_ix ix_list (pv 3) (pv 4) (fun _ _ => rfl)) pe_non (nomark _)) (pw_or1 (pt_cmpR op_lt (pe_op op_add (pv 5) (pv 2)) (pe_ix ix_list (pv 3) (pv 4) (fun _ _ => rfl)) (nomark _))))))))
        (pss_one (ps_asg (pe_op op_add (pv 5) (pv 2)) (pg_sub (pv 3) (pv 4) set_list)))
        pss_nil))))
    (pss_one (ps_ret (pv 3))))), ?_⟩
    have hS' : SqL K H a (r.map vO) := hS
    refine ⟨_, rfl, a, _, rfl, .inl hS', fun l hl0 => ?_⟩
    have hrl : (r.map vO).length = r.length := List.length_map _
    have nal : ∀ ys, H a = some (.lst ys) → a ≠ l := fun ys z => ne_of_none z hl0
    refine ⟨_, rfl, _, rfl, a, _, rfl, .inl ((Ex.nw hl0).seq hS'), _, _, rfl, ⟨by omega, by omega, by omega, by omega⟩, ?_⟩
    refine for_range (fun i σ H' => ∃ y4 y5, σ = [some (.ref a), some (.int (B : Int)), some (.int (s : Int)), some (.ref l), y4, y5] ∧ Ex H H' ∧ H' l = some (.lst ((wbUp r B s (B + i)).map vO)))
      ⟨_, _, rfl, Ex.nw hl0, by rw [Nat.add_zero, wbUp_start]; exact upd_same⟩ ?_ ?_
    · rintro i σ H1 hi ⟨y4, y5, rfl, ex, el⟩
      have hlt : B + i < r.length := by omega
      have a1 : atI (r.map vO) ((B : Int) + (i : Int) - (B : Int)) = some (vO (rAt r i)) := at_of (j := i) (by omega) (vO_at (by omega))
      have a2 : atI ((wbUp r B s (B + i)).map vO) ((B : Int) + (i : Int)) = some (vO (rAt r (B + i))) := at_of (j := B + i) (by omega) (by
        rw [vO_at (by rw [wbUp_len]; exact hlt), wbUp_at hlt])
      have sub : B + i - B = i := by omega
      refine ⟨_, rfl, _, rfl, _, rfl, _, _, rfl, rfl, a, _, _, _, rfl, rfl, ex.seq hS', a1, ?_⟩
      have keep : bund (rAt r (B + i)) (rAt r i) (s : Int) = rAt r (B + i) → wbUp r B s (B + (i + 1)) = wbUp r B s (B + i) := fun z => wbUp_keep hlt (by
        show rAt r (B + i) = bund (rAt r (B + i)) (rAt r (B + i - B)) s
        rw [sub]
        exact z.symm)
      have put : ∀ {x : Int} {o : Cell}, rAt r i = some x → rAt r (B + i) = o → bund o (some x) (s : Int) = some (x + (s : Int)) → ((wbUp r B s (B + i)).map vO).set (B + i) (.int (x + (s : Int))) = (wbUp r B s (B + (i + 1))).map vO := by
        intro x o h1 h2 h3
        rw [show V.int (x + (s : Int)) = vO (some (x + (s : Int))) from rfl, set_map]
        congr 1
        refine wbUp_set hlt (by omega) ?_
        rw [sub, h1, h2, h3]
      have hix : ixN ((wbUp r B s (B + i)).map vO).length ((B : Int) + (i : Int)) = some (B + i) := by
        rw [show ((B : Int) + (i : Int)) = ((B + i : Nat) : Int) from rfl]
        exact Evl.ixN_nat (by rw [List.length_map, wbUp_len]; exact hlt)
      cases hx : rAt r i with
      | none =>
        refine ⟨_, rfl, rfl, _, rfl, iteDN (fun z => absurd rfl z) (fun _ => iteF ?_)⟩
        exact ⟨_, _, rfl, ex, by rw [keep (by rw [hx]; rfl)]; exact el⟩
      | some x =>
        refine ⟨_, rfl, rfl, _, rfl, iteDN (fun _ => ?_) (fun z => nomatch z)⟩
        cases hy : rAt r (B + i) with
        | none =>
          rw [hy] at a2
          refine ⟨_, rfl, _, rfl, l, _, _, _, rfl, rfl, .of el, a2, rfl, _, rfl, iteD (fun _ => iteT ?_) (fun z => absurd rfl z)⟩
          refine ⟨_, rfl, _, rfl, _, _, rfl, rfl, _, rfl, _, rfl, l, _, _, B + i, rfl, rfl, el, hix, _, _, rfl, Ex.mu ex hl0, ?_⟩
          rw [upd_same, put hx hy rfl]
        | some y =>
          rw [hy] at a2
          refine ⟨_, rfl, _, rfl, l, _, _, _, rfl, rfl, .of el, a2, rfl, _, rfl, iteD (fun z => nomatch z) (fun _ => ?_)⟩
          refine ⟨_, rfl, _, rfl, _, _, rfl, rfl, _, rfl, _, rfl, l, _, _, _, rfl, rfl, .of el, a2, _, _, rfl, rfl, _, rfl, iteD (fun e => ?_) (fun e => ?_)⟩
          · refine ⟨_, rfl, _, rfl, _, _, rfl, rfl, _, rfl, _, rfl, l, _, _, B + i, rfl, rfl, el, hix, _, _, rfl, Ex.mu ex hl0, ?_⟩
            rw [upd_same, put hx hy (if_pos e)]
          · refine ⟨_, _, rfl, ex, ?_⟩
            rw [keep (by rw [hx, hy]; exact if_neg e)]
            exact el
    · rintro σ H1 ⟨y4, y5, rfl, ex, el⟩
      rw [wbUp_end (by omega)] at el
      exact ⟨_, rfl, q l H1 ex hl0 el⟩
/-- the bundles -/
def spBundles : Sp := fun vs H Q _ => ∃ n : Nat, vs = [.int (n : Int)] ∧ n ≤ 100000 ∧ ∀ p ss H2, Ex H H2 → H p = none → H2 p = some (.lst (ss.map fun k : Nat => V.int (k : Int))) → Steps 0 ss → ss.sum = n → ss.length ≤ n → Q (.ref p) H2
theorem ok_bundles (T : Tx K mg) : FnOk P w K mg base CX0 1 T.a__bundles T.d__bundles P__bundles spBundles := by
  refine T.f__bundles.ok sc__bundles (fun vs H Q E h => ?_) (fun cdv A outer s H vs Q E hr h => ?_)
  · obtain ⟨n, rfl, _⟩ := h
    rfl
  · obtain ⟨n, rfl, hn, q⟩ := h
    refine ⟨_, (pss_cons (ps_set (i := 1) sc__bundles.nd rfl (.inl rfl) (pe_lst pa_nil))
    (pss_cons (ps_set (i := 2) sc__bundles.nd rfl (.inl rfl) pe_int)
    (pss_cons (ps_while PassesOwn.never (pt_cmpR op_gt (pv 0) pe_int (nomark _))
      (pss_cons (ps_set (i := 3) sc__bundles.nd rfl (.inl rfl) (pe_callB (call_min2 rfl) (by rfl) T.m_min (by decide +kernel) (pa_cons (pv 2) (pa_cons (pv 0) pa_nil))))
      (pss_cons (ps_expr (pe_bm PySem.F.plainAttrs_list PySem.F.slot_list_append PySem.F.type_list_append mt_append (pv 1) (pa_cons (pv 3) pa_nil)))
      (pss_cons (ps_aug (i := 0) sc__bundles.nd rfl (.inl rfl) (pv 3) ip_sub)
      (pss_one (ps_aug (i := 2) sc__bundles.nd rfl (.inl rfl) pe_int ip_mulR))))))
    (pss_one (ps_ret (pv 1)))))), ?_⟩
    refine ⟨Nat.zero_le _, fun l hl0 => ?_⟩
    refine ⟨fun m σ H' => ∃ (ss : List Nat) (z : Nat) (y3 : Option V), σ = [some (.int (m : Int)), some (.ref l), some (.int (z : Int)), y3] ∧ Ex H H' ∧ H' l = some (.lst (ss.map fun k : Nat => V.int (k : Int))) ∧ Steps 0 ss ∧ ss.sum + m = n ∧ ss.length ≤ ss.sum ∧ 1 ≤ z ∧ (m = 0 ∨ z = ss.sum + 1),
      ⟨n, [], 1, none, rfl, Ex.nw hl0, upd_same, trivial, by simp, by simp, Nat.le_refl _, .inr (by simp)⟩, ?_⟩
    rintro m σ H' ⟨ss, z, y3, rfl, ex, el, hst, hsum, hlen, hz, hmz⟩
    refine ⟨_, rfl, _, _, rfl, rfl, _, rfl, iteD (fun e => ?_) (fun e => ?_)⟩
    · have hm : 0 < m := by omega
      obtain ⟨t, ht, ht1, ht2, ht3⟩ : ∃ t : Nat, (if (m : Int) < (z : Int) then (m : Int) else (z : Int)) = (t : Int) ∧ 1 ≤ t ∧ t ≤ m ∧ t ≤ z ∧ (t = m ∨ t = z) := by
        by_cases h : (m : Int) < (z : Int)
        · exact ⟨m, if_pos h, by omega, by omega, by omega, .inl rfl⟩
        · exact ⟨z, if_neg h, hz, by omega, by omega, .inr rfl⟩
      refine ⟨fun σ' H2 => ∃ m', m' < m ∧ ∃ (ss : List Nat) (z : Nat) (y3 : Option V), σ' = [some (.int (m' : Int)), some (.ref l), some (.int (z : Int)), y3] ∧ Ex H H2 ∧ H2 l = some (.lst (ss.map fun k : Nat => V.int (k : Int))) ∧ Steps 0 ss ∧ ss.sum + m' = n ∧ ss.length ≤ ss.sum ∧ 1 ≤ z ∧ (m' = 0 ∨ z = ss.sum + 1), fun _ _ z => z, ?_⟩
      refine ⟨_, rfl, _, rfl, _, _, rfl, ?_⟩
      rw [ht]
      have hl2 : (ss ++ [t]).map (fun k : Nat => V.int (k : Int)) = ss.map (fun k : Nat => V.int (k : Int)) ++ [V.int (t : Int)] := by rw [List.map_append]; rfl
      have hs2 : (ss ++ [t]).sum = ss.sum + t := by rw [List.sum_append]; simp
      refine ⟨_, rfl, .inl ⟨rfl, _, .of el⟩, _, rfl, l, _, _, rfl, rfl, el, len63' (by rw [List.length_map]; omega), ?_⟩
      refine ⟨_, rfl, _, rfl, _, _, rfl, rfl, ?_⟩
      refine ⟨_, rfl, _, _, rfl, rfl, .inr ⟨by decide, by decide⟩, ?_⟩
      refine ⟨m - t, by omega, ss ++ [t], z * 2, some (.int (t : Int)), ?_, Ex.mu ex hl0, ?_, steps_snoc hst (by omega), by omega, by rw [List.length_append, hs2]; simp; omega, by omega, by omega⟩
      · show [some (V.int ((m : Int) - (t : Int))), some (.ref l), some (.int ((z : Int) * 2)), some (.int (t : Int))] = _
        rw [show (m : Int) - (t : Int) = ((m - t : Nat) : Int) by omega, show (z : Int) * 2 = ((z * 2 : Nat) : Int) by omega]
      · rw [hl2]
        exact upd_same
    · exact ⟨_, rfl, q l ss H' ex hl0 el hst (by omega) (by omega)⟩
theorem le_sum : ∀ {l : List Nat} {x : Nat}, x ∈ l → x ≤ l.sum
  | a :: l, x, h => by
    rw [List.sum_cons]
    rcases List.mem_cons.mp h with e | e
    · omega
    · have := le_sum e
      omega
theorem fold_len (r : List Cell) (v : Nat) : ∀ (l : List Nat), (l.foldl (fun o s => withBundle o (s * v) s) r).length = r.length := by
  intro l
  induction l generalizing r with
  | nil => rfl
  | cons s l ih => rw [List.foldl_cons, ih, withBundle_len]
/-- a kind more -/
def spKind (K : PySem.W.Frag) : Sp := fun vs H Q _ => ∃ (a : Addr) (r : List Cell) (v c : Nat), vs = [.ref a, .int (v : Int), .int (c : Int)] ∧ Row K H a r ∧ 1 ≤ r.length ∧ r.length ≤ 2000 ∧ 1 ≤ v ∧ v ≤ 100000 ∧ NewRow H (nextRow r v c) Q
theorem ok_with_kind (T : Tx K mg) : FnOk P w K mg base CX0 2 T.a_with_kind T.d_with_kind P_with_kind (spKind K) := by
  have G__bundles := ok_bundles (P := P) (w := w) (base := base) T
  have G__with_bundle := ok_with_bundle (P := P) (w := w) (base := base) T
  refine T.f_with_kind.ok sc_with_kind (fun vs H Q E h => ?_) (fun cdv A outer s H vs Q E hr h => ?_)
  · obtain ⟨a, r, v, c, rfl, _⟩ := h
    rfl
  · obtain ⟨a, r, v, c, rfl, hS, hl1, hl, hv1, hv2, q⟩ := h
    refine ⟨_, (pss_cons (ps_set (i := 3) sc_with_kind.nd rfl (.inl rfl) (pe_callTy call_list_of (by rfl) T.m_list (by decide +kernel) (pa_cons (pv 0) pa_nil)))
    (pss_cons (ps_set (i := 4) sc_with_kind.nd rfl (.inl rfl) (pe_callB (call_min2 rfl) (by rfl) T.m_min (by decide +kernel) (pa_cons (pv 2) (pa_cons (pe_op op_fdiv (pe_op op_sub (pe_callB call_len_seq (by rfl) T.m_len (by decide +kernel) (pa_cons (pv 0) pa_nil)) pe_int) (pv 1)) pa_nil))))
    (pss_cons (ps_for PassesOwn.never rfl (pi_list (pe_call G__bundles (hr.mono (by decide)) (by rfl) T.g__bundles T.f__bundles.kp T.p__bundles .nil pass0 (pa_cons (pv 4) pa_nil))) (pg_name (i := 5) sc_with_kind.nd rfl (.inl rfl))
      (pss_one (ps_set (i := 3) sc_with_kind.nd rfl (.inl rfl) (pe_call G__with_bundle (hr.mono (by decide)) (by rfl) T.g__with_bundle T.f__with_bundle.kp T.p__with_bundle .nil pass0 (pa_cons (pv 3) (pa_cons (pe_op op_mul (pv 5) (pv 1)) (pa_cons (pv 5) pa_nil)))))))
    (pss_one (ps_ret (pv 3)))))), ?_⟩
    have hS' : SqL K H a (r.map vO) := hS
    have hrl : (r.map vO).length = r.length := List.length_map _
    refine ⟨_, rfl, a, _, rfl, .inl hS', fun l hl0 => ?_⟩
    (generalize hh : upd H l _ = H1; have e1 : Ex H H1 := (by rw [← hh]; exact Ex.nw hl0); have cl := (show H1 l = some _ by rw [← hh]; exact upd_same); clear hh)
    obtain ⟨n, hn, hnn⟩ : ∃ n : Nat, (if (((r.map vO).length : Int) - 1) / (v : Int) < (c : Int) then (((r.map vO).length : Int) - 1) / (v : Int) else (c : Int)) = (n : Int) ∧ n = min c ((r.length - 1) / v) := by
      rw [hrl, show ((r.length : Int) - 1) / (v : Int) = (((r.length - 1) / v : Nat) : Int) by
        rw [Int.natCast_ediv]
        congr 1
        omega]
      by_cases h : (((r.length - 1) / v : Nat) : Int) < (c : Int)
      · exact ⟨(r.length - 1) / v, if_pos h, by omega⟩
      · exact ⟨c, if_neg h, by omega⟩
    have hn2 : n ≤ 2000 := by
      have : (r.length - 1) / v ≤ r.length - 1 := Nat.div_le_self ..
      omega
    refine ⟨_, rfl, _, rfl, a, _, rfl, .inl (e1.seq hS'), _, _, rfl, rfl, _, rfl, _, _, rfl, rfl, ⟨by omega, by omega⟩, _, _, rfl, ?_⟩
    rw [hn]
    refine ⟨_, rfl, n, rfl, by omega, fun p ss H2 e2 hp ep hst hsum hlen => ?_⟩
    refine ⟨p, rfl, ⟨_, .of ep⟩, for_list (xs := ss.map fun k : Nat => V.int (k : Int)) (fun i σ H' => ∃ o y5, σ = [some (.ref a), some (.int (v : Int)), some (.int (c : Int)), some (.ref o), some (.int (n : Int)), y5] ∧ Ex H2 H' ∧ H o = none ∧ H' o = some (.lst (((ss.take i).foldl (fun o s => withBundle o (s * v) s) r).map vO)))
      ⟨l, _, rfl, Ex.rfl', hl0, e2 _ _ cl⟩ (fun i σ H' _ h => by obtain ⟨_, _, _, e, _⟩ := h; exact .of (e _ _ ep)) ?_ ?_⟩
    · rintro i x σ H3 hx ⟨o, y5, rfl, ex, ho, eo⟩
      rw [List.getElem?_map] at hx
      obtain ⟨s, hs, rfl⟩ := Option.map_eq_some_iff.mp hx
      have hsl : s ≤ n := by
        rw [← hsum]
        exact le_sum (List.mem_of_getElem? hs)
      have hsv : s * v ≤ r.length - 1 := by
        have h1 : n * v ≤ r.length - 1 := by
          rw [hnn]
          exact Nat.le_trans (Nat.mul_le_mul_right _ (Nat.min_le_right ..)) (Nat.div_mul_le_self ..)
        exact Nat.le_trans (Nat.mul_le_mul_right _ hsl) h1
      have hfl : ((ss.take i).foldl (fun o s => withBundle o (s * v) s) r).length = r.length := fold_len ..
      refine ⟨_, rfl, _, rfl, _, rfl, _, _, rfl, rfl, .inr ⟨by omega, by omega⟩, _, rfl, o, _, s * v, s, congrArg (fun z => [V.ref o, V.int z, V.int (s : Int)]) (Int.natCast_mul ..).symm, .of eo, by omega, by omega, fun p' H4 e4 hp' ep' => ?_⟩
      refine ⟨p', _, rfl, ex.tr e4, none_back ((e1.tr e2).tr ex) hp', ?_⟩
      rw [List.take_add_one, hs, List.foldl_append]
      exact ep'
    · rintro σ H3 ⟨o, y5, rfl, ex, ho, eo⟩
      rw [List.take_of_length_le (by rw [List.length_map]; exact Nat.le_refl _), fold_next (v := v) (c := c) (by omega) hst (by omega)] at eo
      exact ⟨_, rfl, q o H3 ((e1.tr e2).tr ex) ho eo⟩
/-! ### count_of -/
/-- the first count of a kind -/
def countIn (ps : List (Int × Int)) (v : Int) : Option Int := ps.lookup v
theorem countIn_cons (p : Int × Int) (ps : List (Int × Int)) (v : Int) : countIn (p :: ps) v = if p.1 = v then some p.2 else countIn ps v := by
  unfold countIn
  rw [List.lookup_cons]
  by_cases h : p.1 = v
  · rw [if_pos h, show (v == p.1) = true by simp [h]]
  · rw [if_neg h, show (v == p.1) = false by simpa using fun e => h (Eq.symm e)]
theorem countIn_mem {ps : List (Int × Int)} {v c : Int} (h : countIn ps v = some c) : (v, c) ∈ ps := by
  induction ps with
  | nil => cases h
  | cons p ps ih =>
    rw [countIn_cons] at h
    by_cases e : p.1 = v
    · rw [if_pos e] at h
      have : p = (v, c) := by rw [← e, ← Option.some.inj h]
      rw [this]
      exact List.mem_cons_self
    · rw [if_neg e] at h
      exact List.mem_cons_of_mem _ (ih h)
theorem countIn_nd {ps : List (Int × Int)} {p : Int × Int} (nd : (ps.map (·.1)).Nodup) (hp : p ∈ ps) : countIn ps p.1 = some p.2 := by
  induction ps with
  | nil => cases hp
  | cons q ps ih =>
    rw [List.map_cons, List.nodup_cons] at nd
    rw [countIn_cons]
    rcases List.mem_cons.mp hp with e | e
    · rw [e, if_pos rfl]
    · rw [if_neg fun z => nd.1 (by rw [z]; exact List.mem_map.mpr ⟨p, e, rfl⟩)]
      exact ih nd.2 e
/-! ### a whole number -/
def spWhole : Sp := fun vs H Q _ => ∃ i : Int, vs = [.int i] ∧ Q (.bl true) H
theorem ok_whole (T : Tx K mg) : FnOk P w K mg base CX0 1 T.a__law_whole T.d__law_whole P__law_whole spWhole := by
  refine T.f__law_whole.ok sc__law_whole (fun vs H Q E h => ?_) (fun cdv A outer s H vs Q E hr h => ?_)
  · obtain ⟨i, rfl, _⟩ := h
    rfl
  · obtain ⟨i, rfl, q⟩ := h
    refine ⟨_, (pss_one (ps_ret (pe_and (pe_callB call_isi (by rfl) T.m_isinstance (by decide +kernel) (pa_cons (pv 0) (pa_cons (pe_bltn (v := .ty "int") (by rfl) T.m_int (by decide +kernel) rfl) pa_nil))) (pe_one (pe_not (pe_callB call_isi (by rfl) T.m_isinstance (by decide +kernel) (pa_cons (pv 0) (pa_cons (pe_bltn (v := .ty "bool") (by rfl) T.m_bool (by decide +kernel) rfl) pa_nil)))))))), ?_⟩
    refine ⟨_, rfl, _, _, _, _, true, rfl, .ty "int", .base (.int _), kit_ty (by decide +kernel), true, rfl, iteT ?_⟩
    exact ⟨_, rfl, _, _, _, _, false, rfl, .ty "bool", .base (.int _), kit_ty (by decide +kernel), false, rfl, q⟩
/-! ### what is in the purse of a kind -/
def ownOf (us : List (Int × Int)) (v : Int) : Int := (countIn us v).getD 0
def spOwn (K : PySem.W.Frag) : Sp := fun vs H Q _ => ∃ (a : Addr) (us : List (Int × Int)) (v : Int), vs = [.ref a, .int v] ∧ Till K H a us ∧ Q (.int (ownOf us v)) H
theorem ok_own (T : Tx K mg) : FnOk P w K mg base CX0 1 T.a__law_own T.d__law_own P__law_own (spOwn K) := by
  refine T.f__law_own.ok sc__law_own (fun vs H Q E h => ?_) (fun cdv A outer s H vs Q E hr h => ?_)
  · obtain ⟨a, us, v, rfl, _⟩ := h
    rfl
  · obtain ⟨a, us, v, rfl, ⟨xs, hS, hp⟩, q⟩ := h
    refine ⟨_, (pss_cons (ps_for PassesOwn.never rfl (pi_list (pv 0)) (pg_name (i := 2) sc__law_own.nd rfl (.inl rfl))
      (pss_one (ps_if (pt_cmpR op_eq (pe_ix ix_tup (pv 2) pe_int (fun _ _ => rfl)) (pv 1) (nomark _))
        (pss_one (ps_ret (pe_ix ix_tup (pv 2) pe_int (fun _ _ => rfl))))
        pss_nil)))
    (pss_one (ps_ret pe_int))), ?_⟩
    unfold ownOf at q
    refine ⟨_, rfl, a, rfl, ⟨xs, hS⟩, for_list (xs := xs) (fun i σ H' => ∃ y2, σ = [some (.ref a), some (.int v), y2] ∧ H' = H ∧ countIn us v = countIn (us.drop i) v) ⟨_, rfl, rfl, rfl⟩ (fun i σ H' _ h => by obtain ⟨_, _, rfl, _⟩ := h; exact hS) ?_ ?_⟩
    · rintro i x σ H' hx ⟨y2, rfl, rfl, hc⟩
      obtain ⟨p, t, h1, rfl, h3⟩ := Prs.get hp hx
      rw [drop_at h1, countIn_cons] at hc
      refine ⟨_, rfl, t, _, 0, .int p.1, rfl, rfl, .of h3, rfl, _, rfl, rfl, _, rfl, iteVI (fun e => ?_) (fun e => ?_)⟩
      · rw [if_pos e] at hc
        rw [hc] at q
        exact ⟨_, rfl, t, _, 1, .int p.2, rfl, rfl, .of h3, rfl, q⟩
      · rw [if_neg e] at hc
        exact ⟨_, rfl, rfl, hc⟩
    · rintro σ H' ⟨y2, rfl, rfl, hc⟩
      rw [List.drop_of_length_le (by rw [hp.len]; exact Nat.le_refl _)] at hc
      rw [hc] at q
      exact q
/-- the kinds of a till and a purse -/
def kindsOf (ps us : List (Int × Int)) : List Kd := ps.map fun p => (p.1, p.2, ownOf us p.1)
theorem kindsOf_len (ps us : List (Int × Int)) : (kindsOf ps us).length = ps.length := List.length_map _
theorem kindsOf_at {ps us : List (Int × Int)} {k : Nat} {p : Int × Int} (h : ps[k]? = some p) : (kindsOf ps us)[k]? = some (p.1, p.2, ownOf us p.1) := by
  unfold kindsOf
  rw [List.getElem?_map, h]
  rfl
/-! ### every way to deal, as the law lays them -/
def WysAt (H : Hp) : List Addr → List (List Int) → Prop := Paired fun a w => H a = some (.lst (w.map V.int))
theorem WysAt.ex {H H' : Hp} (e : Ex H H') : ∀ {as : List Addr} {rs : List (List Int)}, WysAt H as rs → WysAt H' as rs
  | _, _, .nil => .nil
  | _, _, .cons h r => .cons (e _ _ h) (WysAt.ex e r)
theorem WysAt.len {H : Hp} {as : List Addr} {rs : List (List Int)} (h : WysAt H as rs) : as.length = rs.length := Paired.length h
theorem WysAt.snoc {H : Hp} : ∀ {as : List Addr} {rs : List (List Int)} {a : Addr} {r : List Int}, WysAt H as rs → H a = some (.lst (r.map V.int)) → WysAt H (as ++ [a]) (rs ++ [r])
  | _, _, _, _, .nil, h => .cons h .nil
  | _, _, _, _, .cons b r, h => .cons b (WysAt.snoc r h)
theorem WysAt.getA {H : Hp} : ∀ {as : List Addr} {rs : List (List Int)} {i : Nat} {a : Addr}, WysAt H as rs → as[i]? = some a → ∃ r, rs[i]? = some r ∧ H a = some (.lst (r.map V.int))
  | _, _, i, _, .nil, e => by simp at e
  | _, _, 0, _, .cons h _, e => by simp at e; subst e; exact ⟨_, by simp, h⟩
  | _, _, i + 1, _, .cons _ r, e => by
    obtain ⟨x, h1, h2⟩ := WysAt.getA (i := i) r (by simpa using e)
    exact ⟨x, by simpa using h1, h2⟩
theorem WysAt.up {H : Hp} {f : Addr} {o : HO} : ∀ {as : List Addr} {rs : List (List Int)}, f ∉ as → WysAt H as rs → WysAt (upd H f o) as rs
  | _, _, _, .nil => .nil
  | _, _, hf, .cons h r => .cons (by rw [upd_ne fun e => hf (by rw [← e]; exact List.mem_cons_self)]; exact h) (WysAt.up (fun z => hf (List.mem_cons_of_mem _ z)) r)
theorem flat_len {α β : Type} {f : α → List β} {n : Nat} (h : ∀ x, (f x).length = n) : ∀ l : List α, (l.flatMap f).length = l.length * n
  | [] => by simp
  | a :: l => by
    rw [List.flatMap_cons, List.length_append, h, flat_len h l, List.length_cons, Nat.succ_mul]
    omega
def nextD (c o : Nat) (w : List Int) : List (List Int) := (List.range (c + o + 1)).map fun i : Nat => w ++ [-(c : Int) + (i : Int)]
theorem nextD_len (c o : Nat) (w : List Int) : (nextD c o w).length = c + o + 1 := by
  unfold nextD
  rw [List.length_map, List.length_range]
theorem waysD_succ (ks : List Kd) (k : Nat) {p : Kd} (hp : ks[k]? = some p) : waysD ks (k + 1) = (waysD ks k).flatMap (nextD p.2.1.toNat p.2.2.toNat) := by
  show List.flatMap _ _ = _
  rw [show ks.getD k (0, 0, 0) = p by rw [List.getD_eq_getElem?_getD, hp]; rfl]
  rfl
theorem waysD_count {ks : List Kd} (h : ∀ p ∈ ks, p.2.1 ≤ 6 ∧ p.2.2 ≤ 5) : ∀ k, k ≤ ks.length → (waysD ks k).length ≤ 12 ^ k
  | 0, _ => Nat.le_refl _
  | k + 1, hk => by
    have hp := List.getElem?_eq_getElem (show k < ks.length by omega)
    have hb := h _ (List.getElem_mem (show k < ks.length by omega))
    rw [waysD_succ ks k hp, flat_len (nextD_len _ _), Nat.pow_succ]
    exact Nat.mul_le_mul (waysD_count h k (by omega)) (by omega)
theorem waysD_pos (ks : List Kd) : ∀ k, k ≤ ks.length → 0 < (waysD ks k).length
  | 0, _ => Nat.zero_lt_one
  | k + 1, hk => by
    rw [waysD_succ ks k (List.getElem?_eq_getElem (show k < ks.length by omega)), flat_len (nextD_len _ _)]
    exact Nat.mul_pos (waysD_pos ks k (by omega)) (Nat.succ_pos _)
/-- a small till and purse -/
def Small12 (ps us : List (Int × Int)) : Prop := 1 ≤ ps.length ∧ ps.length ≤ 3 ∧ us.length ≤ 3 ∧ Rising ps ∧ Rising us ∧ (∀ p ∈ ps, 1 ≤ p.1 ∧ p.1 ≤ 1000 ∧ 0 ≤ p.2 ∧ p.2 ≤ 6) ∧ ∀ u ∈ us, (∃ c, (u.1, c) ∈ ps) ∧ 0 ≤ u.2 ∧ u.2 ≤ 5
theorem own12 {us : List (Int × Int)} (h : ∀ u ∈ us, 0 ≤ u.2 ∧ u.2 ≤ 5) (v : Int) : 0 ≤ ownOf us v ∧ ownOf us v ≤ 5 := by
  unfold ownOf
  cases e : countIn us v with
  | none => exact ⟨Int.le_refl _, by decide⟩
  | some c => exact h _ (countIn_mem e)
def spWaysD (K : PySem.W.Frag) : Sp := fun vs H Q _ => ∃ (t u : Addr) (ps us : List (Int × Int)), vs = [.ref t, .ref u] ∧ Till K H t ps ∧ Till K H u us ∧ Small12 ps us ∧ ∀ p as H2, Ex H H2 → H2 p = some (.lst (as.map V.ref)) → WysAt H2 as (waysD (kindsOf ps us) ps.length) → Q (.ref p) H2
theorem ok_waysD (T : Tx K mg) : FnOk P w K mg base CX0 2 T.a__law_ways T.d__law_ways P__law_ways (spWaysD K) := by
  have G__law_own := ok_own (P := P) (w := w) (base := base) T
  refine T.f__law_ways.ok sc__law_ways (fun vs H Q E h => ?_) (fun cdv A outer s H vs Q E hr h => ?_)
  · obtain ⟨t, u, ps, us, rfl, _⟩ := h
    rfl
  · obtain ⟨t, u, ps, us, rfl, ⟨xs, hS, hp⟩, hU, hsm, q⟩ := h
    refine ⟨_, (pss_cons (ps_set (i := 2) sc__law_ways.nd rfl (.inl rfl) (pe_lst (pa_cons (pe_lst pa_nil) pa_nil)))
    (pss_cons (ps_for PassesOwn.never rfl (pi_list (pv 0)) (pg_name (i := 3) sc__law_ways.nd rfl (.inl rfl))
      (pss_cons (ps_set (i := 4) sc__law_ways.nd rfl (.inl rfl) (pe_lst pa_nil))
      (pss_cons (ps_for PassesOwn.never rfl (pi_list (pv 2)) (pg_name (i := 5) sc__law_ways.nd rfl (.inl rfl))
        (pss_one (ps_for PassesOwn.never rfl (pi_range2 (by rfl) T.m_range (pa_cons (pe_op op_sub pe_int (pe_ix ix_tup (pv 3) pe_int (fun _ _ => rfl))) (pa_cons (pe_op op_add (pe_call G__law_own (hr.mono (by decide)) (by rfl) T.g__law_own T.f__law_own.kp T.p__law_own .nil pass0 (pa_cons (pv 1) (pa_cons (pe_ix ix_tup (pv 3) pe_int (fun _ _ => rfl)) pa_nil))) pe_int) pa_nil))) (pg_name (i := 6) sc__law_ways.nd rfl (.inl rfl))
          (pss_one (ps_expr (pe_bm PySem.F.plainAttrs_list PySem.F.slot_list_append PySem.F.type_list_append mt_append (pv 4) (pa_cons (pe_op op_cat (pv 5) (pe_lst (pa_cons (pv 6) pa_nil))) pa_nil)))))))
      (pss_one (ps_set (i := 2) sc__law_ways.nd rfl (.inl rfl) (pv 4))))))
    (pss_one (ps_ret (pv 2))))), ?_⟩
    have hpl := hp.len
    refine ⟨Nat.zero_le _, fun l0 hl0 => ?_⟩
    (generalize hh : upd H l0 _ = H1; have e1 : Ex H H1 := (by rw [← hh]; exact Ex.nw hl0); have c1 := (show H1 l0 = some _ by rw [← hh]; exact upd_same); clear hh)
    refine ⟨len63 (by show 1 ≤ _; decide), fun W0 hW0 => ?_⟩
    refine ⟨_, rfl, t, rfl, ⟨xs, (e1.tr (Ex.nw hW0)).seq hS⟩, for_list (xs := xs) (fun k σ H' => ∃ (W : Addr) (as : List Addr) (y3 y4 y5 y6 : Option V), σ = [some (.ref t), some (.ref u), some (.ref W), y3, y4, y5, y6] ∧ Ex H H' ∧ H' W = some (.lst (as.map V.ref)) ∧ WysAt H' as (waysD (kindsOf ps us) k))
      ⟨W0, [l0], _, _, _, _, rfl, e1.tr (Ex.nw hW0), upd_same, .cons ((Ex.nw hW0) _ _ c1) .nil⟩ (fun i σ H' _ h => by
        obtain ⟨_, _, _, _, _, _, _, e, _⟩ := h
        exact e.seq hS) ?_ ?_⟩
    · rintro k x σ H2 hx ⟨W, as, y3, y4, y5, y6, rfl, ex, eW, hws⟩
      obtain ⟨p, t2, h1, rfl, h3⟩ := Prs.get hp hx
      have hpv := hsm.2.2.2.2.2.1 p (List.mem_of_getElem? h1)
      have hk : k < ps.length := (List.getElem?_eq_some_iff.mp h1).1
      have hk3 : k ≤ 2 := by have := hsm.2.1; omega
      have hown := own12 (fun v hv => (hsm.2.2.2.2.2.2 v hv).2) p.1
      have hkk := kindsOf_at (us := us) h1
      have hwc : (waysD (kindsOf ps us) k).length ≤ 144 := Nat.le_trans (waysD_count (fun r hr => by
        obtain ⟨r0, hr0, rfl⟩ := List.mem_map.mp hr
        exact ⟨(hsm.2.2.2.2.2.1 r0 hr0).2.2.2, (own12 (fun v hv => (hsm.2.2.2.2.2.2 v hv).2) r0.1).2⟩) k (by rw [kindsOf_len]; omega)) (Nat.le_trans (Nat.pow_le_pow_right (by decide) hk3) (by decide))
      obtain ⟨c, hc⟩ : ∃ c : Nat, p.2 = (c : Int) := ⟨p.2.toNat, (Int.toNat_of_nonneg (by omega)).symm⟩
      obtain ⟨o, ho⟩ : ∃ o : Nat, ownOf us p.1 = (o : Int) := ⟨(ownOf us p.1).toNat, (Int.toNat_of_nonneg (by omega)).symm⟩
      have hnx := waysD_succ (kindsOf ps us) k hkk
      rw [hc, ho, Int.toNat_natCast, Int.toNat_natCast] at hnx
      rw [hc] at h3
      refine ⟨Nat.zero_le _, fun M hM => ?_⟩
      have hM0 : H M = none := none_back ex hM
      have haM : M ∉ as := fun z => by
        obtain ⟨i, hi, e⟩ := List.getElem_of_mem z
        obtain ⟨r, _, er⟩ := hws.getA (List.getElem?_eq_getElem hi)
        rw [e, hM] at er
        cases er
      have nWM : W ≠ M := ne_of_none eW hM
      have hasl := hws.len
      refine ⟨_, rfl, W, rfl, ⟨_, .of ((Ex.nw hM) _ _ eW)⟩, for_list (xs := as.map V.ref) (fun i σ H' => ∃ (bs : List Addr) (y5 y6 : Option V), σ = [some (.ref t), some (.ref u), some (.ref W), some (.ref t2), some (.ref M), y5, y6] ∧ Ex H2 H' ∧ H' M = some (.lst (bs.map V.ref)) ∧ M ∉ bs ∧ WysAt H' bs (((waysD (kindsOf ps us) k).take i).flatMap (nextD c o)))
        ⟨[], _, _, rfl, Ex.nw hM, upd_same, by simp, .nil⟩ (fun i σ H' _ h => by
          obtain ⟨_, _, _, _, e, _⟩ := h
          exact .of (e _ _ eW)) ?_ ?_⟩
      · rintro i x σ H3 hxi ⟨bs, y5, y6, rfl, ex3, eM, hMb, hbs⟩
        rw [List.getElem?_map] at hxi
        obtain ⟨v, hv1, rfl⟩ := Option.map_eq_some_iff.mp hxi
        obtain ⟨wv, hw1, ew⟩ := hws.getA hv1
        have hi : i < (waysD (kindsOf ps us) k).length := (List.getElem?_eq_some_iff.mp hw1).1
        have h3' := ex3 _ _ (ex _ _ h3)
        refine ⟨_, rfl, t2, _, 1, .int (c : Int), rfl, rfl, .of h3', rfl, _, _, rfl, rfl, ?_⟩
        refine ⟨_, rfl, _, rfl, t2, _, 0, .int p.1, rfl, rfl, .of h3', rfl, u, us, p.1, rfl, (hU.ex ex).ex ex3, ?_⟩
        rw [ho]
        refine ⟨_, _, rfl, rfl, _, _, rfl, ⟨by omega, by omega, by omega, by omega⟩, ?_⟩
        refine for_range (fun j σ H' => ∃ (bs : List Addr) (y6 : Option V), σ = [some (.ref t), some (.ref u), some (.ref W), some (.ref t2), some (.ref M), some (.ref v), y6] ∧ Ex H2 H' ∧ H' M = some (.lst (bs.map V.ref)) ∧ M ∉ bs ∧ WysAt H' bs (((waysD (kindsOf ps us) k).take i).flatMap (nextD c o) ++ (List.range j).map fun i : Nat => wv ++ [-(c : Int) + (i : Int)]))
          ⟨bs, _, rfl, ex3, eM, hMb, by simpa using hbs⟩ ?_ ?_
        · rintro j σ H4 hj ⟨cs, y6, rfl, ex4, eM4, hMc, hcs⟩
          have ew4 := ex4 _ _ ew
          have hcl := hcs.len
          rw [List.length_append, flat_len (nextD_len c o), List.length_map, List.length_range, List.length_take] at hcl
          have hbound : cs.length < 1000000 := by
            have h1 : min i (waysD (kindsOf ps us) k).length * (c + o + 1) ≤ 144 * 12 := Nat.mul_le_mul (by omega) (by omega)
            omega
          refine ⟨_, rfl, .inl ⟨rfl, _, .of eM4⟩, _, rfl, _, rfl, len63 (by show 1 ≤ _; decide), fun l1 hl1 => ?_⟩
          (generalize hh : upd H4 l1 _ = H5; have e5 : Ex H4 H5 := (by rw [← hh]; exact Ex.nw hl1); have c5 := (show H5 l1 = some _ by rw [← hh]; exact upd_same); clear hh)
          have hwl := waysD_len (by rw [kindsOf_len]; omega) (List.mem_of_getElem? hw1)
          refine ⟨v, l1, _, _, rfl, rfl, e5 _ _ ew4, c5, len63 (by rw [List.length_map, hwl]; show k + 1 ≤ _; omega), fun l2 hl2 => ?_⟩
          (generalize hh : upd H5 l2 _ = H6; have e6 : Ex H5 H6 := (by rw [← hh]; exact Ex.nw hl2); have c6 := (show H6 l2 = some _ by rw [← hh]; exact upd_same); clear hh)
          have eM6 := e6 _ _ (e5 _ _ eM4)
          refine ⟨M, _, _, rfl, rfl, eM6, len63' (by rw [List.length_map]; exact hbound), ?_⟩
          have nMl : M ≠ l2 := ne_of_none (e5 _ _ eM4) hl2
          have ex6 := (ex4.tr e5).tr e6
          have hMc' : M ∉ cs ++ [l2] := fun z => by
            rcases List.mem_append.mp z with z | z
            · exact hMc z
            · exact nMl (List.mem_singleton.mp z)
          refine ⟨cs ++ [l2], some (.int (0 - (c : Int) + (j : Int))), rfl, Ex.mu ex6 hM, by rw [upd_same, List.map_append]; rfl, hMc', ?_⟩
          rw [List.range_succ, List.map_append, ← List.append_assoc]
          refine WysAt.up hMc' (WysAt.snoc ((hcs.ex e5).ex e6) ?_)
          rw [c6, List.map_append]
          show some (HO.lst (wv.map V.int ++ [V.int (0 - (c : Int) + (j : Int))])) = some (HO.lst (wv.map V.int ++ [V.int (-(c : Int) + (j : Int))]))
          rw [Int.zero_sub]
        · rintro σ H4 ⟨cs, y6, rfl, ex4, eM4, hMc, hcs⟩
          refine ⟨cs, _, _, rfl, ex4, eM4, hMc, ?_⟩
          rw [take_snoc hw1, List.flatMap_append]
          rw [show (((o : Int) + 1) - (0 - (c : Int))).toNat = c + o + 1 by omega] at hcs
          simpa [nextD] using hcs
      · rintro σ H3 ⟨bs, y5, y6, rfl, ex3, eM, hMb, hbs⟩
        rw [List.take_of_length_le (by rw [List.length_map, hasl]; exact Nat.le_refl _), ← hnx] at hbs
        exact ⟨_, rfl, M, bs, _, _, _, _, rfl, ex.tr ex3, eM, hbs⟩
    · rintro σ H2 ⟨W, as, y3, y4, y5, y6, rfl, ex, eW, hws⟩
      rw [hpl] at hws
      exact ⟨_, rfl, q W as H2 ex eW hws⟩
/-! ### worth and the better of two ways to deal -/
def spWorthD (K : PySem.W.Frag) : Sp := fun vs H Q _ => ∃ (t a : Addr) (ps us : List (Int × Int)) (w : List Int), vs = [.ref t, .ref a] ∧ Till K H t ps ∧ H a = some (.lst (w.map V.int)) ∧ ps.length = w.length ∧ (∀ p ∈ ps, 1 ≤ p.1 ∧ p.1 ≤ 1000) ∧ Ret (.int (worthD (kindsOf ps us) w)) H Q
theorem ok_worthD (T : Tx K mg) : FnOk P w K mg base CX0 1 T.a__law_worth T.d__law_worth P__law_worth (spWorthD K) := by
  refine T.f__law_worth.ok sc__law_worth (fun vs H Q E h => ?_) (fun cdv A outer s H vs Q E hr h => ?_)
  · obtain ⟨t, a, ps, us, w, rfl, _⟩ := h
    rfl
  · obtain ⟨t, a, ps, us, w, rfl, ⟨xs, hS, hp⟩, ha, hl, hv, q⟩ := h
    refine ⟨_, (pss_cons (ps_set (i := 2) sc__law_worth.nd rfl (.inl rfl) pe_int)
    (pss_cons (ps_for PassesOwn.never rfl (pi_zip (by rfl) T.m_zip (pa_cons (pv 0) (pa_cons (pv 1) pa_nil))) (pg_tup rfl (pgs_cons (pg_name (i := 3) sc__law_worth.nd rfl (.inl rfl)) (pgs_cons (pg_name (i := 4) sc__law_worth.nd rfl (.inl rfl)) pgs_nil)))
      (pss_one (ps_set (i := 2) sc__law_worth.nd rfl (.inl rfl) (pe_op op_add (pv 2) (pe_op op_mul (pe_ix ix_tup (pv 3) pe_int (fun _ _ => rfl)) (pv 4))))))
    (pss_one (ps_ret (pv 2))))), ?_⟩
    have hpl := hp.len
    refine ⟨_, rfl, _, rfl, t, a, xs, _, rfl, hS, .of ha, RZ.for_zipL (xs := xs) (ys := w.map V.int) (by rw [List.length_map, hpl, hl]) (fun i σ H' => ∃ y3 y4, σ = [some (.ref t), some (.ref a), some (.int (worthD ((kindsOf ps us).take i) (w.take i))), y3, y4] ∧ Ex H H') ⟨_, _, rfl, Ex.rfl'⟩ (fun i σ H' h => by
      obtain ⟨_, _, _, e⟩ := h
      exact ⟨e.seq hS, .of (e _ _ ha)⟩) ?_ ?_⟩
    · rintro i x y T σ H' hx hy ⟨y3, y4, rfl, ex⟩ hT
      obtain ⟨p, t2, h1, rfl, h3⟩ := Prs.get hp hx
      rw [List.getElem?_map] at hy
      obtain ⟨j, hj, rfl⟩ := Option.map_eq_some_iff.mp hy
      have hpv := hv p (List.mem_of_getElem? h1)
      have e1 := ex.tr (Ex.nw (o := .tup [.ref t2, .int j]) hT)
      refine ⟨T, _, rfl, .of upd_same, rfl, _, _, rfl, _, _, rfl, rfl, ?_⟩
      refine ⟨_, rfl, _, rfl, t2, _, 0, .int p.1, rfl, rfl, .of (e1 _ _ h3), rfl, _, rfl, _, _, rfl, rfl, .inl ⟨by omega, by omega⟩, _, _, rfl, rfl, some (.ref t2), some (.int j), ?_, e1⟩
      rw [take_snoc (kindsOf_at (us := us) h1), take_snoc hj, worthD_snoc (by rw [List.length_take, List.length_take, kindsOf_len]; omega)]
      rfl
    · rintro σ H' ⟨y3, y4, rfl, ex⟩
      rw [List.take_of_length_le (by rw [kindsOf_len]; omega), List.take_of_length_le (by omega)]
      exact ⟨_, rfl, q H' ex⟩
def spFewD : Sp := fun vs H Q _ => ∃ (a : Addr) (w : List Int), vs = [.ref a] ∧ H a = some (.lst (w.map V.int)) ∧ w.length ≤ 1000 ∧ ∀ H2, Ex H H2 → Q (.int (fewD w)) H2
theorem ok_fewD (T : Tx K mg) : FnOk P w K mg base CX0 1 T.a__law_few T.d__law_few P__law_few spFewD := by
  refine T.f__law_few.ok sc__law_few (fun vs H Q E h => ?_) (fun cdv A outer s H vs Q E hr h => ?_)
  · obtain ⟨a, w, rfl, _⟩ := h
    rfl
  · obtain ⟨a, w, rfl, ha, hl, q⟩ := h
    refine ⟨_, (pss_one (ps_ret (pe_callB (cr_sum rfl) (by rfl) T.m_sum (by decide +kernel) (pa_cons (pe_lc (own := [("_law_many", 1)]) (g := gName 1) rfl sc__law_few.nd (pi_list (pv 0)) (blkOk_by (own := [("_law_many", 1)]) (N := N__law_few) (sc := defScope s__law_few) (by decide +kernel)) (fun _ _ _ _ _ => pg_name (i := 1) sc__law_few.nd rfl (.inl rfl) (.inr rfl)) (fun _ _ _ _ _ => pts_nil) (fun _ _ _ _ _ => (pe_callB call_abs (by rfl) T.m_abs (by decide +kernel) (pa_cons (pv 1) pa_nil)))) pa_nil)))), ?_⟩
    refine ⟨_, rfl, a, rfl, ⟨_, .of ha⟩, fun D hD => lc_list (xs := w.map V.int) (fun i H' => Ex H H' ∧ H' D = some (.lst ((w.take i).map fun j => V.int (j.natAbs : Int)))) ⟨Ex.nw hD, upd_same⟩ (fun i H' _ h => .of (h.1 _ _ ha)) ?_ ?_⟩
    · rintro i x H' hx ⟨ex, eD⟩
      rw [List.getElem?_map] at hx
      obtain ⟨j, hj, rfl⟩ := Option.map_eq_some_iff.mp hx
      refine ⟨rfl, ?_⟩
      refine t_yes ?_
      refine ⟨_, rfl, j, rfl, _, eD, ?_, ?_, ?_⟩
      · rw [List.length_map, List.length_take]
        exact len63' (by omega)
      · exact Ex.mu ex hD
      · rw [upd_same, take_succ_map _ hj, show (if j < 0 then -j else j) = (j.natAbs : Int) by split <;> omega]
    · rintro H' ⟨ex, eD⟩
      rw [List.take_of_length_le (by rw [List.length_map]; exact Nat.le_refl _)] at eD
      exact ⟨D, w.map fun j : Int => (j.natAbs : Int), rfl, .of (by rw [eD, List.map_map]; rfl), q H' ex⟩
def spBetterD : Sp := fun vs H Q _ => ∃ (a b : Addr) (x y : List Int), vs = [.ref a, .ref b] ∧ H a = some (.lst (x.map V.int)) ∧ H b = some (.lst (y.map V.int)) ∧ x.length = y.length ∧ x.length ≤ 1000 ∧ ∀ H2, Ex H H2 → Q (.bl (betterD x y)) H2
theorem int_at {w : List Int} {i : Int} {j : Nat} {k : Int} (hi : i = (j : Int)) (h : w[j]? = some k) : atI (w.map V.int) i = some (.int k) := at_of hi (by
  rw [List.getElem?_map, h]
  rfl)
theorem ok_betterD (T : Tx K mg) : FnOk P w K mg base CX0 2 T.a__law_better T.d__law_better P__law_better spBetterD := by
  have G__law_few := ok_fewD (P := P) (w := w) (base := base) T
  refine T.f__law_better.ok sc__law_better (fun vs H Q E h => ?_) (fun cdv A outer s H vs Q E hr h => ?_)
  · obtain ⟨a, b, x, y, rfl, _⟩ := h
    rfl
  · obtain ⟨a, b, x, y, rfl, ha, hb, hl, hl2, q⟩ := h
    refine ⟨_, (pss_cons (ps_if (pt_cmpR op_ne (pe_call G__law_few (hr.mono (by decide)) (by rfl) T.g__law_few T.f__law_few.kp T.p__law_few .nil pass0 (pa_cons (pv 0) pa_nil)) (pe_call G__law_few (hr.mono (by decide)) (by rfl) T.g__law_few T.f__law_few.kp T.p__law_few .nil pass0 (pa_cons (pv 1) pa_nil)) (nomark _))
      (pss_one (ps_ret (pe_cmpR op_lt (pe_call G__law_few (hr.mono (by decide)) (by rfl) T.g__law_few T.f__law_few.kp T.p__law_few .nil pass0 (pa_cons (pv 0) pa_nil)) (pe_call G__law_few (hr.mono (by decide)) (by rfl) T.g__law_few T.f__law_few.kp T.p__law_few .nil pass0 (pa_cons (pv 1) pa_nil)) (nomark _))))
      pss_nil)
    (pss_cons (ps_for PassesOwn.never rfl (pi_range1 (by rfl) T.m_range (pa_cons (pe_callB call_len_seq (by rfl) T.m_len (by decide +kernel) (pa_cons (pv 0) pa_nil)) pa_nil)) (pg_name (i := 2) sc__law_better.nd rfl (.inl rfl))
      (pss_cons (ps_set (i := 3) sc__law_better.nd rfl (.inl rfl) (pe_op op_sub (pe_op op_sub (pe_callB call_len_seq (by rfl) T.m_len (by decide +kernel) (pa_cons (pv 0) pa_nil)) pe_int) (pv 2)))
      (pss_one (ps_if (pt_cmpR op_ne (pe_ix ix_list (pv 0) (pv 3) (fun _ _ => rfl)) (pe_ix ix_list (pv 1) (pv 3) (fun _ _ => rfl)) (nomark _))
        (pss_one (ps_ret (pe_cmpR op_gt (pe_ix ix_list (pv 0) (pv 3) (fun _ _ => rfl)) (pe_ix ix_list (pv 1) (pv 3) (fun _ _ => rfl)) (nomark _))))
        pss_nil))))
    (pss_one (ps_ret pe_bl)))), ?_⟩
    unfold betterD at q
    refine ⟨_, rfl, a, x, rfl, ha, hl2, fun H1 e1 => ?_⟩
    refine ⟨_, rfl, b, y, rfl, e1 _ _ hb, by omega, fun H2 e2 => ?_⟩
    have ex2 := e1.tr e2
    refine ⟨rfl, _, rfl, iteVN (fun e => ?_) (fun e => ?_)⟩
    · rw [if_neg e] at q
      exact ⟨_, rfl, a, x, rfl, ex2 _ _ ha, hl2, fun H3 e3 => ⟨_, rfl, b, y, rfl, e3 _ _ (ex2 _ _ hb), by omega, fun H4 e4 => ⟨_, _, rfl, rfl, q H4 (ex2.tr (e3.tr e4))⟩⟩⟩
    · rw [if_pos e] at q
      have ha2 := ex2 _ _ ha
      have hb2 := ex2 _ _ hb
      have q2 := q H2 ex2
      refine ⟨_, rfl, a, _, rfl, .inl (.of ha2), _, rfl, by rw [List.length_map]; omega, by rw [List.length_map]; omega, ?_⟩
      refine for_range (fun k σ H' => ∃ y2 y3, σ = [some (.ref a), some (.ref b), y2, y3] ∧ H' = H2 ∧ lexI x.reverse y.reverse = lexI (x.reverse.drop k) (y.reverse.drop k)) ⟨_, _, rfl, rfl, rfl⟩ ?_ ?_
      · rintro k σ H' hk ⟨y2, y3, rfl, rfl, hlex⟩
        have hk' : k < x.length := by rw [List.length_map] at hk; omega
        have g1 : x.reverse[k]? = x[x.length - 1 - k]? := List.getElem?_reverse hk'
        have g2 : y.reverse[k]? = y[y.length - 1 - k]? := List.getElem?_reverse (by omega)
        have f1 := List.getElem?_eq_getElem (show x.length - 1 - k < x.length by omega)
        have f2 := List.getElem?_eq_getElem (show y.length - 1 - k < y.length by omega)
        generalize x[x.length - 1 - k]'(by omega) = u at f1
        generalize y[y.length - 1 - k]'(by omega) = v at f2
        rw [drop_at (g1.trans f1), drop_at (g2.trans f2)] at hlex
        have i1 : atI (x.map V.int) (((x.map V.int).length : Int) - 1 - (0 + (k : Int))) = some (.int u) := int_at (j := x.length - 1 - k) (by rw [List.length_map]; omega) f1
        have i2 : atI (y.map V.int) (((x.map V.int).length : Int) - 1 - (0 + (k : Int))) = some (.int v) := int_at (j := y.length - 1 - k) (by rw [List.length_map]; omega) f2
        refine ⟨_, rfl, a, _, rfl, .inl (.of ha2), _, _, rfl, rfl, _, rfl, _, _, rfl, rfl, ?_⟩
        refine ⟨_, rfl, _, rfl, a, _, _, _, rfl, rfl, .of ha2, i1, _, rfl, _, rfl, b, _, _, _, rfl, rfl, .of hb2, i2, rfl, _, rfl, iteVN (fun e => ?_) (fun e => ?_)⟩
        · refine ⟨_, rfl, _, rfl, a, _, _, _, rfl, rfl, .of ha2, i1, _, rfl, _, rfl, b, _, _, _, rfl, rfl, .of hb2, i2, _, _, rfl, rfl, ?_⟩
          rw [hlex] at q2
          unfold lexI at q2
          rw [if_neg e] at q2
          exact q2
        · refine ⟨_, _, rfl, rfl, ?_⟩
          rw [hlex]
          exact if_pos e
      · rintro σ H' ⟨y2, y3, rfl, rfl, hlex⟩
        rw [List.length_map, show ((x.length : Int)).toNat = x.length from Int.toNat_natCast _, List.drop_of_length_le (by rw [List.length_reverse]; exact Nat.le_refl _), List.drop_of_length_le (by rw [List.length_reverse]; omega)] at hlex
        rw [hlex] at q2
        exact q2
/-! ### a till, looked at -/
def spAlike (K : PySem.W.Frag) : Sp := fun vs H Q _ => ∃ (a b : Addr) (xs : List V) (ps : List (Int × Int)), vs = [.ref a, .ref b] ∧ H a = some (.lst xs) ∧ Prs H xs ps ∧ Till K H b ps ∧ Q (.bl true) H
theorem ok_alike (T : Tx K mg) : FnOk P w K mg base CX0 2 T.a__law_pairs_alike T.d__law_pairs_alike P__law_pairs_alike (spAlike K) := by
  have G__law_whole := ok_whole (P := P) (w := w) (base := base) T
  refine T.f__law_pairs_alike.ok sc__law_pairs_alike (fun vs H Q E h => ?_) (fun cdv A outer s H vs Q E hr h => ?_)
  · obtain ⟨a, b, xs, ps, rfl, _⟩ := h
    rfl
  · obtain ⟨a, b, xs, ps, rfl, ha, hp, hb, q⟩ := h
    refine ⟨_, (pss_cons (ps_if (PW.pt (pw_or (pt_not (pt_val (pe_callB call_isi (by rfl) T.m_isinstance (by decide +kernel) (pa_cons (pv 0) (pa_cons (pe_bltn (v := .ty "list") (by rfl) T.m_list (by decide +kernel) rfl) pa_nil))))) (pw_or1 (pt_cmpR (op_neD hr.units) (pv 0) (pv 1) (nomark _)))))
      (pss_one (ps_ret pe_bl))
      pss_nil)
    (pss_cons (ps_for PassesOwn.never rfl (pi_list (pv 0)) (pg_name (i := 2) sc__law_pairs_alike.nd rfl (.inl rfl))
      (pss_one (ps_if (PW.pt (pw_or (pt_not (pt_val (pe_callB call_isi (by rfl) T.m_isinstance (by decide +kernel) (pa_cons (pv 2) (pa_cons (pe_bltn (v := .ty "tuple") (by rfl) T.m_tuple (by decide +kernel) rfl) pa_nil))))) (pw_or (pt_not (pt_val (pe_call G__law_whole (hr.mono (by decide)) (by rfl) T.g__law_whole T.f__law_whole.kp T.p__law_whole .nil pass0 (pa_cons (pe_ix ix_tup (pv 2) pe_int (fun _ _ => rfl)) pa_nil)))) (pw_or1 (pt_not (pt_val (pe_call G__law_whole (hr.mono (by decide)) (by rfl) T.g__law_whole T.f__law_whole.kp T.p__law_whole .nil pass0 (pa_cons (pe_ix ix_tup (pv 2) pe_int (fun _ _ => rfl)) pa_nil))))))))
        (pss_one (ps_ret pe_bl))
        pss_nil)))
    (pss_one (ps_ret pe_bl)))), ?_⟩
    have hxl := hp.len
    refine ⟨_, rfl, _, _, _, _, true, rfl, .ty "list", .base (.lst ha), kit_ty (by decide +kernel), _, rfl, iteF ?_⟩
    refine ⟨_, rfl, _, rfl, _, _, till_dp (K := K) ⟨xs, .of ha, hp⟩, till_dp hb, shaped_till ps, shaped_till ps, ?_⟩
    rw [eqv_of_shaped (shaped_till ps)]
    refine ⟨_, rfl, iteF ?_⟩
    refine ⟨_, rfl, a, rfl, ⟨xs, .of ha⟩, for_list (xs := xs) (fun i σ H' => ∃ y2, σ = [some (.ref a), some (.ref b), y2] ∧ H' = H) ⟨_, rfl, rfl⟩ (fun i σ H' _ h => by obtain ⟨_, _, rfl⟩ := h; exact .of ha) ?_ ?_⟩
    · rintro i x σ H' hx ⟨y2, rfl, rfl⟩
      obtain ⟨p, t, h1, rfl, h3⟩ := Prs.get hp hx
      refine ⟨_, rfl, _, _, _, _, true, rfl, .ty "tuple", .base (.tup h3), kit_ty (by decide +kernel), _, rfl, iteF ?_⟩
      refine ⟨_, rfl, t, _, 0, .int p.1, rfl, rfl, .of h3, rfl, p.1, rfl, true, rfl, iteF ?_⟩
      refine ⟨_, rfl, t, _, 1, .int p.2, rfl, rfl, .of h3, rfl, p.2, rfl, true, rfl, iteF ?_⟩
      exact ⟨_, rfl, rfl⟩
    · rintro σ H' ⟨y2, rfl, rfl⟩
      exact q
/-! ### a value, drawn, also equally far apart -/
def valueT (c k : Int) : Int := if c / 3 % 3 = 1 then 1 + c / 9 % 9 + (k - 1) * (1 + c / 81 % 5) else if c % 3 = 0 then menu.getD (mixed c k % 10).toNat 0 else if c % 3 = 1 then 1 + mixed c k % 12 else 1 + mixed c k % 60
theorem valueT_in (c k : Int) (_ : 1 ≤ k ∧ k ≤ 11) : 1 ≤ valueT c k ∧ valueT c k ≤ 1000 := by
  unfold valueT
  split
  · have h1 : 0 ≤ (k - 1) * (1 + c / 81 % 5) := Int.mul_nonneg (by omega) (by omega)
    have h2 : (k - 1) * (1 + c / 81 % 5) ≤ 10 * 5 := Int.mul_le_mul (by omega) (by omega) (by omega) (by decide)
    omega
  split
  · exact menu_in _ (by have := Int.emod_lt_of_pos (mixed c k) (by decide : (0 : Int) < 10); have := Int.emod_nonneg (mixed c k) (by decide : (10 : Int) ≠ 0); omega)
  · split <;> omega
def spValueT : Sp := fun vs H Q _ => ∃ c k, vs = [.int c, .int k] ∧ (-(2 ^ 64) < k ∧ k < 2 ^ 64) ∧ Ret (.int (valueT c k)) H Q
theorem ok_valueT (T : Tx K mg) : FnOk P w K mg base CX0 2 T.a__law_value T.d__law_value P__law_value spValueT := by
  have G__law_mixed := ok_mixed (P := P) (w := w) (base := base) T
  refine T.f__law_value.ok sc__law_value (fun vs H Q E h => ?_) (fun cdv A outer s H vs Q E hr h => ?_)
  · obtain ⟨c, k, rfl, _⟩ := h
    rfl
  · obtain ⟨c, k, rfl, hk, q⟩ := h
    refine ⟨_, (pss_cons (ps_set (i := 2) sc__law_value.nd rfl (.inl rfl) (pe_call G__law_mixed (hr.mono (by decide)) (by rfl) T.g__law_mixed T.f__law_mixed.kp T.p__law_mixed .nil pass0 (pa_cons (pv 0) (pa_cons (pv 1) pa_nil))))
    (pss_cons (ps_if (pt_cmpR op_eq (pe_op op_mod (pe_op op_fdiv (pv 0) pe_int) pe_int) pe_int (nomark _))
      (pss_one (ps_ret (pe_op op_add (pe_op op_add pe_int (pe_op op_mod (pe_op op_fdiv (pv 0) pe_int) pe_int)) (pe_op op_mul (pe_op op_sub (pv 1) pe_int) (pe_op op_add pe_int (pe_op op_mod (pe_op op_fdiv (pv 0) pe_int) pe_int))))))
      pss_nil)
    (pss_cons (ps_if (pt_cmpR op_eq (pe_op op_mod (pv 0) pe_int) pe_int (nomark _))
      (pss_one (ps_ret (pe_ix ix_list (pe_lst (pa_cons pe_int (pa_cons pe_int (pa_cons pe_int (pa_cons pe_int (pa_cons pe_int (pa_cons pe_int (pa_cons pe_int (pa_cons pe_int (pa_cons pe_int (pa_cons pe_int pa_nil))))))))))) (pe_op op_mod (pv 2) pe_int) (fun _ _ => rfl))))
      pss_nil)
    (pss_cons (ps_if (pt_cmpR op_eq (pe_op op_mod (pv 0) pe_int) pe_int (nomark _))
      (pss_one (ps_ret (pe_op op_add pe_int (pe_op op_mod (pv 2) pe_int))))
      pss_nil)
    (pss_one (ps_ret (pe_op op_add pe_int (pe_op op_mod (pv 2) pe_int)))))))), ?_⟩
    unfold valueT at q
    repeat (first | refine ⟨_, rfl, ?_⟩ | refine ⟨(by show (0 : Int) < _; decide), ?_⟩ | refine ⟨⟨by decide, by decide⟩, ?_⟩ | refine ⟨.inr ⟨by decide, by decide⟩, ?_⟩ | refine ⟨.inl ⟨by decide, by decide⟩, ?_⟩ | refine ⟨⟨by decide, by decide, by decide⟩, ?_⟩ | refine ⟨_, _, rfl, rfl, ?_⟩ | refine ⟨rfl, _, rfl, ?_⟩)
    refine ⟨_, _, rfl, hk, ?_⟩
    repeat (first | refine ⟨_, rfl, ?_⟩ | refine ⟨(by show (0 : Int) < _; decide), ?_⟩ | refine ⟨⟨by decide, by decide⟩, ?_⟩ | refine ⟨.inr ⟨by decide, by decide⟩, ?_⟩ | refine ⟨.inl ⟨by decide, by decide⟩, ?_⟩ | refine ⟨⟨by decide, by decide, by decide⟩, ?_⟩ | refine ⟨_, _, rfl, rfl, ?_⟩ | refine ⟨rfl, _, rfl, ?_⟩)
    first | refine iteVI (fun e0 => ?_) (fun e0 => ?_) | refine iteVN (fun e0 => ?_) (fun e0 => ?_) | refine iteD (fun e0 => ?_) (fun e0 => ?_) | refine iteDN (fun e0 => ?_) (fun e0 => ?_) | refine iteB (fun e0 => ?_) (fun e0 => ?_)
    · rw [if_pos e0] at q
      repeat (first | refine ⟨_, rfl, ?_⟩ | refine ⟨(by show (0 : Int) < _; decide), ?_⟩ | refine ⟨⟨by decide, by decide⟩, ?_⟩ | refine ⟨.inr ⟨by decide, by decide⟩, ?_⟩ | refine ⟨.inl ⟨by decide, by decide⟩, ?_⟩ | refine ⟨⟨by decide, by decide, by decide⟩, ?_⟩ | refine ⟨_, _, rfl, rfl, ?_⟩ | refine ⟨rfl, _, rfl, ?_⟩)
      refine ⟨.inr ⟨by omega, by omega⟩, ?_⟩
      repeat (first | refine ⟨_, rfl, ?_⟩ | refine ⟨(by show (0 : Int) < _; decide), ?_⟩ | refine ⟨⟨by decide, by decide⟩, ?_⟩ | refine ⟨.inr ⟨by decide, by decide⟩, ?_⟩ | refine ⟨.inl ⟨by decide, by decide⟩, ?_⟩ | refine ⟨⟨by decide, by decide, by decide⟩, ?_⟩ | refine ⟨_, _, rfl, rfl, ?_⟩ | refine ⟨rfl, _, rfl, ?_⟩)
      exact q _ Ex.rfl'
    rw [if_neg e0] at q
    repeat (first | refine ⟨_, rfl, ?_⟩ | refine ⟨(by show (0 : Int) < _; decide), ?_⟩ | refine ⟨⟨by decide, by decide⟩, ?_⟩ | refine ⟨.inr ⟨by decide, by decide⟩, ?_⟩ | refine ⟨.inl ⟨by decide, by decide⟩, ?_⟩ | refine ⟨⟨by decide, by decide, by decide⟩, ?_⟩ | refine ⟨_, _, rfl, rfl, ?_⟩ | refine ⟨rfl, _, rfl, ?_⟩)
    first | refine iteVI (fun e => ?_) (fun e => ?_) | refine iteVN (fun e => ?_) (fun e => ?_) | refine iteD (fun e => ?_) (fun e => ?_) | refine iteDN (fun e => ?_) (fun e => ?_) | refine iteB (fun e => ?_) (fun e => ?_)
    · rw [if_pos e] at q
      refine ⟨len63 (by decide), fun p hp => ?_⟩
      repeat (first | refine ⟨_, rfl, ?_⟩ | refine ⟨(by show (0 : Int) < _; decide), ?_⟩ | refine ⟨⟨by decide, by decide⟩, ?_⟩ | refine ⟨.inr ⟨by decide, by decide⟩, ?_⟩ | refine ⟨.inl ⟨by decide, by decide⟩, ?_⟩ | refine ⟨⟨by decide, by decide, by decide⟩, ?_⟩ | refine ⟨_, _, rfl, rfl, ?_⟩ | refine ⟨rfl, _, rfl, ?_⟩)
      exact ⟨p, menu.map V.int, _, _, rfl, rfl, .of upd_same, menu_at rfl (Int.emod_nonneg _ (by decide)) (Int.emod_lt_of_pos _ (by decide)), q _ (Ex.nw hp)⟩
    · rw [if_neg e] at q
      repeat (first | refine ⟨_, rfl, ?_⟩ | refine ⟨(by show (0 : Int) < _; decide), ?_⟩ | refine ⟨⟨by decide, by decide⟩, ?_⟩ | refine ⟨.inr ⟨by decide, by decide⟩, ?_⟩ | refine ⟨.inl ⟨by decide, by decide⟩, ?_⟩ | refine ⟨⟨by decide, by decide, by decide⟩, ?_⟩ | refine ⟨_, _, rfl, rfl, ?_⟩ | refine ⟨rfl, _, rfl, ?_⟩)
      first | refine iteVI (fun e => ?_) (fun e => ?_) | refine iteVN (fun e => ?_) (fun e => ?_) | refine iteD (fun e => ?_) (fun e => ?_) | refine iteDN (fun e => ?_) (fun e => ?_) | refine iteB (fun e => ?_) (fun e => ?_)
      · rw [if_pos e] at q
        repeat (first | refine ⟨_, rfl, ?_⟩ | refine ⟨(by show (0 : Int) < _; decide), ?_⟩ | refine ⟨⟨by decide, by decide⟩, ?_⟩ | refine ⟨.inr ⟨by decide, by decide⟩, ?_⟩ | refine ⟨.inl ⟨by decide, by decide⟩, ?_⟩ | refine ⟨⟨by decide, by decide, by decide⟩, ?_⟩ | refine ⟨_, _, rfl, rfl, ?_⟩ | refine ⟨rfl, _, rfl, ?_⟩)
        exact q _ Ex.rfl'
      · rw [if_neg e] at q
        repeat (first | refine ⟨_, rfl, ?_⟩ | refine ⟨(by show (0 : Int) < _; decide), ?_⟩ | refine ⟨⟨by decide, by decide⟩, ?_⟩ | refine ⟨.inr ⟨by decide, by decide⟩, ?_⟩ | refine ⟨.inl ⟨by decide, by decide⟩, ?_⟩ | refine ⟨⟨by decide, by decide, by decide⟩, ?_⟩ | refine ⟨_, _, rfl, rfl, ?_⟩ | refine ⟨rfl, _, rfl, ?_⟩)
        exact q _ Ex.rfl'
/-! ### a till and a purse, drawn -/
theorem perm_sum {l k : List Int} (h : l.Perm k) : l.sum = k.sum := by
  induction h with
  | nil => rfl
  | cons a _ ih => rw [List.sum_cons, List.sum_cons, ih]
  | swap a b l =>
    rw [List.sum_cons, List.sum_cons, List.sum_cons, List.sum_cons]
    omega
  | trans _ _ h1 h2 => exact h1.trans h2
/-- what is drawn: a till and a purse of some of its kinds, not worth too much -/
structure Dp2 (ps us : List (Int × Int)) : Prop where
  nd : (ps.map (·.1)).Nodup
  und : (us.map (·.1)).Nodup
  val : ∀ p ∈ ps, 1 ≤ p.1 ∧ p.1 ≤ 1000 ∧ 0 ≤ p.2 ∧ p.2 ≤ 1000
  own : ∀ u ∈ us, (∃ c, (u.1, c) ∈ ps) ∧ 0 ≤ u.2 ∧ u.2 ≤ 1000
  few : us.length ≤ ps.length
  low : worthP ps + worthP us ≤ 600
def spTaP (K : PySem.W.Frag) : Sp := fun vs H Q _ => ∃ (a : Addr) (ns : List Int) (most : Int), vs = [.ref a, .int most] ∧ SqL K H a (ns.map V.int) ∧ 1 ≤ most ∧ most ≤ 6 ∧
  ∀ l t u xs ys ps us H2, Ex H H2 → H l = none → H2 l = some (.lst [.ref t, .ref u]) → H t = none → H u = none → t ≠ u → t ≠ l → u ≠ l → H2 t = some (.lst xs) → H2 u = some (.lst ys) → Prs H2 xs ps → Prs H2 ys us → Rising ps → Rising us → Dp2 ps us → 1 ≤ ps.length → ps.length ≤ 10 → (most ≤ 3 → (ps.length : Int) ≤ most) → Q (.ref l) H2
theorem ok_tap (T : Tx K mg) : FnOk P w K mg base CX0 3 T.a__law_till_and_purse T.d__law_till_and_purse P__law_till_and_purse (spTaP K) := by
  have G__law_cell_at := ok_cell_at (P := P) (w := w) (base := base) T
  have G__law_value := ok_valueT (P := P) (w := w) (base := base) T
  have G__law_mixed := ok_mixed (P := P) (w := w) (base := base) T
  refine T.f__law_till_and_purse.ok sc__law_till_and_purse (fun vs H Q E h => ?_) (fun cdv A outer s H vs Q E hr h => ?_)
  · obtain ⟨a, ns, most, rfl, _⟩ := h
    rfl
  · obtain ⟨a, ns, most, rfl, hS, hm1, hm6, q⟩ := h
    refine ⟨_, (pss_cons (ps_set (i := 2) sc__law_till_and_purse.nd rfl (.inl rfl) (pe_op op_add pe_int (pe_op op_mod (pe_call G__law_cell_at (hr.mono (by decide)) (by rfl) T.g__law_cell_at T.f__law_cell_at.kp T.p__law_cell_at .nil pass0 (pa_cons (pv 0) (pa_cons pe_int pa_nil))) (pv 1))))
    (Evl.pss_cut (ps_if (PW.pt (pw_and (pt_cmpR op_gt (pv 1) pe_int (nomark _)) (pw_and1 (pt_cmpR op_eq (pe_op op_mod (pe_op op_fdiv (pe_call G__law_cell_at (hr.mono (by decide)) (by rfl) T.g__law_cell_at T.f__law_cell_at.kp T.p__law_cell_at .nil pass0 (pa_cons (pv 0) (pa_cons pe_int pa_nil))) (pv 1)) pe_int) pe_int (nomark _)))))
      (pss_one (ps_set (i := 2) sc__law_till_and_purse.nd rfl (.inl rfl) (pe_op op_add pe_int (pe_op op_mod (pe_op op_fdiv (pe_op op_fdiv (pe_call G__law_cell_at (hr.mono (by decide)) (by rfl) T.g__law_cell_at T.f__law_cell_at.kp T.p__law_cell_at .nil pass0 (pa_cons (pv 0) (pa_cons pe_int pa_nil))) (pv 1)) pe_int) pe_int))))
      pss_nil)
    (pss_cons (ps_set (i := 3) sc__law_till_and_purse.nd rfl (.inl rfl) (pe_lst pa_nil))
    (pss_cons (ps_set (i := 4) sc__law_till_and_purse.nd rfl (.inl rfl) (pe_lst pa_nil))
    (pss_cons (ps_set (i := 5) sc__law_till_and_purse.nd rfl (.inl rfl) pe_dnewK)
    (pss_cons (ps_set (i := 6) sc__law_till_and_purse.nd rfl (.inl rfl) pe_int)
    (pss_cons (ps_for PassesOwn.never rfl (pi_range1 (by rfl) T.m_range (pa_cons (pv 2) pa_nil)) (pg_name (i := 7) sc__law_till_and_purse.nd rfl (.inl rfl))
      (pss_cons (ps_set (i := 8) sc__law_till_and_purse.nd rfl (.inl rfl) (pe_call G__law_value (hr.mono (by decide)) (by rfl) T.g__law_value T.f__law_value.kp T.p__law_value .nil pass0 (pa_cons (pe_call G__law_cell_at (hr.mono (by decide)) (by rfl) T.g__law_cell_at T.f__law_cell_at.kp T.p__law_cell_at .nil pass0 (pa_cons (pv 0) (pa_cons pe_int pa_nil))) (pa_cons (pe_op op_add (pv 7) pe_int) pa_nil))))
      (pss_cons (ps_while PassesOwn.never (pt_cmp (pc_din (hu_of hr) (pv 8) (pv 5)))
        (pss_one (ps_set (i := 8) sc__law_till_and_purse.nd rfl (.inl rfl) (pe_op op_add (pe_op op_mod (pv 8) pe_int) pe_int))))
      (pss_cons (ps_dput (hu_of hr) (pv 5) (pv 8) pe_bl rfl)
      (pss_cons (ps_set (i := 9) sc__law_till_and_purse.nd rfl (.inl rfl) (pe_call G__law_mixed (hr.mono (by decide)) (by rfl) T.g__law_mixed T.f__law_mixed.kp T.p__law_mixed .nil pass0 (pa_cons (pe_call G__law_cell_at (hr.mono (by decide)) (by rfl) T.g__law_cell_at T.f__law_cell_at.kp T.p__law_cell_at .nil pass0 (pa_cons (pv 0) (pa_cons pe_int pa_nil))) (pa_cons (pe_op op_add (pv 7) pe_int) pa_nil))))
      (pss_cons (ps_set (i := 10) sc__law_till_and_purse.nd rfl (.inl rfl) (pe_op op_mod (pe_op op_fdiv (pv 9) pe_int) pe_int))
      (Evl.pss_cut (ps_if (pt_cmpR op_eq (pe_op op_mod (pv 9) pe_int) pe_int (nomark _))
        (pss_one (ps_set (i := 10) sc__law_till_and_purse.nd rfl (.inl rfl) (pe_op op_mod (pe_op op_fdiv (pv 9) pe_int) pe_int)))
        pss_nil)
      (pss_cons (ps_set (i := 11) sc__law_till_and_purse.nd rfl (.inl rfl) (pe_op op_mod (pe_op op_fdiv (pv 9) pe_int) pe_int))
      (Evl.pss_cut (ps_if (pt_cmpR op_eq (pe_op op_mod (pe_op op_fdiv (pv 9) pe_int) pe_int) pe_int (nomark _))
        (pss_one (ps_set (i := 11) sc__law_till_and_purse.nd rfl (.inl rfl) (pe_op op_mod (pe_op op_fdiv (pv 9) pe_int) pe_int)))
        pss_nil)
      (Evl.pss_cut (ps_if (pt_cmpR op_gt (pv 2) pe_int (nomark _))
        (pss_cons (ps_set (i := 10) sc__law_till_and_purse.nd rfl (.inl rfl) (pe_op op_mod (pv 10) pe_int))
        (pss_one (ps_set (i := 11) sc__law_till_and_purse.nd rfl (.inl rfl) (pe_op op_mod (pv 11) pe_int))))
        pss_nil)
      (Evl.pss_cut (ps_if (pt_cmpR op_gt (pe_op op_add (pv 6) (pe_op op_mul (pv 8) (pe_op op_add (pv 10) (pv 11)))) pe_int (nomark _))
        (pss_cons (ps_set (i := 10) sc__law_till_and_purse.nd rfl (.inl rfl) pe_int)
        (pss_one (ps_set (i := 11) sc__law_till_and_purse.nd rfl (.inl rfl) pe_int)))
        pss_nil)
      (pss_cons (ps_set (i := 6) sc__law_till_and_purse.nd rfl (.inl rfl) (pe_op op_add (pv 6) (pe_op op_mul (pv 8) (pe_op op_add (pv 10) (pv 11)))))
      (pss_cons (ps_expr (pe_bm PySem.F.plainAttrs_list PySem.F.slot_list_append PySem.F.type_list_append mt_append (pv 3) (pa_cons (pe_tup (pa_cons (pv 8) (pa_cons (pv 10) pa_nil))) pa_nil)))
      (pss_one (ps_if (pt_cmpR op_gt (pe_op op_mod (pe_op op_fdiv (pv 9) pe_int) pe_int) pe_int (nomark _))
        (pss_one (ps_expr (pe_bm PySem.F.plainAttrs_list PySem.F.slot_list_append PySem.F.type_list_append mt_append (pv 4) (pa_cons (pe_tup (pa_cons (pv 8) (pa_cons (pv 11) pa_nil))) pa_nil))))
        pss_nil)))))))))))))))
    (pss_one (ps_ret (pe_lst (pa_cons (pe_callB cr_sortedPO (by rfl) T.m_sorted (by decide +kernel) (pa_cons (pv 3) pa_nil)) (pa_cons (pe_callB cr_sortedPO (by rfl) T.m_sorted (by decide +kernel) (pa_cons (pv 4) pa_nil)) pa_nil)))))))))))), ?_⟩
    refine ⟨_, rfl, a, ns, 0, rfl, hS, _, rfl, _, _, rfl, rfl, hm1, _, _, rfl, rfl, ?_⟩
    have n0 : 0 ≤ cell ns 0 % most := Int.emod_nonneg _ (by omega)
    have n1 : cell ns 0 % most < most := Int.emod_lt_of_pos _ (by omega)
    -- how many kinds
    refine ⟨fun σ' H' => ∃ m : Int, 1 ≤ m ∧ m ≤ 10 ∧ (most ≤ 3 → m ≤ most) ∧ σ' = [some (.ref a), some (.int most), some (.int m), none, none, none, none, none, none, none, none, none] ∧ H' = H, ?_, ?_⟩
    · repeat (first | refine ⟨_, rfl, ?_⟩ | refine ⟨(by show (0 : Int) < _; decide), ?_⟩ | refine ⟨⟨by decide, by decide⟩, ?_⟩ | refine ⟨.inr ⟨by decide, by decide⟩, ?_⟩ | refine ⟨.inl ⟨by decide, by decide⟩, ?_⟩ | refine ⟨⟨by decide, by decide, by decide⟩, ?_⟩ | refine ⟨_, _, rfl, rfl, ?_⟩ | refine ⟨rfl, _, rfl, ?_⟩)
      first | refine iteVI (fun e => ?_) (fun e => ?_) | refine iteVN (fun e => ?_) (fun e => ?_) | refine iteD (fun e => ?_) (fun e => ?_) | refine iteDN (fun e => ?_) (fun e => ?_) | refine iteB (fun e => ?_) (fun e => ?_)
      · refine ⟨_, rfl, a, ns, 0, rfl, hS, _, rfl, _, _, rfl, rfl, ⟨by omega, by omega⟩, ?_⟩
        repeat (first | refine ⟨_, rfl, ?_⟩ | refine ⟨(by show (0 : Int) < _; decide), ?_⟩ | refine ⟨⟨by decide, by decide⟩, ?_⟩ | refine ⟨.inr ⟨by decide, by decide⟩, ?_⟩ | refine ⟨.inl ⟨by decide, by decide⟩, ?_⟩ | refine ⟨⟨by decide, by decide, by decide⟩, ?_⟩ | refine ⟨_, _, rfl, rfl, ?_⟩ | refine ⟨rfl, _, rfl, ?_⟩)
        first | refine iteVI (fun e2 => ?_) (fun e2 => ?_) | refine iteVN (fun e2 => ?_) (fun e2 => ?_) | refine iteD (fun e2 => ?_) (fun e2 => ?_) | refine iteDN (fun e2 => ?_) (fun e2 => ?_) | refine iteB (fun e2 => ?_) (fun e2 => ?_)
        · refine ⟨_, rfl, a, ns, 0, rfl, hS, _, rfl, _, _, rfl, rfl, ⟨by omega, by omega⟩, ?_⟩
          repeat (first | refine ⟨_, rfl, ?_⟩ | refine ⟨(by show (0 : Int) < _; decide), ?_⟩ | refine ⟨⟨by decide, by decide⟩, ?_⟩ | refine ⟨.inr ⟨by decide, by decide⟩, ?_⟩ | refine ⟨.inl ⟨by decide, by decide⟩, ?_⟩ | refine ⟨⟨by decide, by decide, by decide⟩, ?_⟩ | refine ⟨_, _, rfl, rfl, ?_⟩ | refine ⟨rfl, _, rfl, ?_⟩)
          exact ⟨_, by omega, by omega, by omega, rfl, rfl⟩
        · exact ⟨_, by omega, by omega, by omega, rfl, rfl⟩
      · exact iteF ⟨_, by omega, by omega, by omega, rfl, rfl⟩
    rintro σ' H' ⟨m, hm1, hm10, hm3, rfl, rfl⟩
    refine ⟨Nat.zero_le _, fun f hf => ?_⟩
    refine ⟨Nat.zero_le _, fun g hg d hd => ?_⟩
    have hg0 : H' g = none := none_back (Ex.nw hf) hg
    have hd0 : H' d = none := none_back ((Ex.nw hf).tr (Ex.nw hg)) hd
    have nfg : f ≠ g := ne_of_none upd_same hg
    have nfd : f ≠ d := ne_of_none ((Ex.nw hg) _ _ upd_same) hd
    have ngd : g ≠ d := ne_of_none upd_same hd
    have exd := ((Ex.nw (o := .lst []) hf).tr (Ex.nw (o := .lst []) hg)).tr (Ex.nw (o := .dK (dkv [])) hd)
    refine ⟨_, rfl, m, rfl, by omega, by omega, ?_⟩
    refine for_range (fun i σ H => ∃ (xs ys : List V) (ps us : List (Int × Int)) (low : Int) (y7 y8 y9 y10 y11 : Option V), σ = [some (.ref a), some (.int most), some (.int m), some (.ref f), some (.ref g), some (.ref d), some (.int low), y7, y8, y9, y10, y11] ∧ Ex H' H ∧ H f = some (.lst xs) ∧ H g = some (.lst ys) ∧ H d = some (.dK (dkv (ps.map (·.1)))) ∧
        Prs H xs ps ∧ Prs H ys us ∧ (ps.map (·.1)).Nodup ∧ (us.map (·.1)).Nodup ∧ (∀ p ∈ ps, 1 ≤ p.1 ∧ p.1 ≤ 1000 ∧ 0 ≤ p.2 ∧ p.2 ≤ 1000) ∧ (∀ u ∈ us, (∃ c, (u.1, c) ∈ ps) ∧ 0 ≤ u.2 ∧ u.2 ≤ 1000) ∧ us.length ≤ ps.length ∧ 0 ≤ low ∧ low ≤ 600 ∧ worthP ps + worthP us ≤ low ∧ ps.length = i)
      ⟨[], [], [], [], 0, none, none, none, none, none, rfl, exd, (Ex.nw hd) _ _ ((Ex.nw hg) _ _ upd_same), (Ex.nw hd) _ _ upd_same, upd_same, .nil, .nil, List.nodup_nil, List.nodup_nil, by simp, by simp, Nat.le_refl _, Int.le_refl _, by decide, Int.le_refl _, rfl⟩ ?_ ?_
    · rintro i σ H1 hi ⟨xs, ys, ps, us, low, y7, y8, y9, y10, y11, rfl, ex, ef, eg, ed, hps, hus, hnp, hnu, hvp, hvu, hfew, hlo0, hlo6, hwo, hlen⟩
      have hi' : i < 10 := by omega
      refine ⟨_, rfl, a, ns, 1, rfl, ex.seq hS, ?_⟩
      repeat (first | refine ⟨_, rfl, ?_⟩ | refine ⟨(by show (0 : Int) < _; decide), ?_⟩ | refine ⟨⟨by decide, by decide⟩, ?_⟩ | refine ⟨.inr ⟨by decide, by decide⟩, ?_⟩ | refine ⟨.inl ⟨by decide, by decide⟩, ?_⟩ | refine ⟨⟨by decide, by decide, by decide⟩, ?_⟩ | refine ⟨_, _, rfl, rfl, ?_⟩ | refine ⟨rfl, _, rfl, ?_⟩)
      refine ⟨_, _, rfl, ⟨by omega, by omega⟩, fun H2 e2 => ?_⟩
      have ex2 := Ex.tr ex e2
      have ef2 := e2 _ _ ef
      have eg2 := e2 _ _ eg
      have ed2 := e2 _ _ ed
      have hps2 := hps.ex e2
      have hus2 := hus.ex e2
      have hv := valueT_in (cell ns 1) (0 + (i : Int) + 1) (by omega)
      generalize hvv : valueT (cell ns 1) (0 + (i : Int) + 1) = v0 at hv
      obtain ⟨j, hj, hmin⟩ := least (free_at (ks := ps.map (·.1)) v0 (by rw [List.length_map]; omega))
      refine ⟨fun n σ H => ∃ k, k + n = j ∧ σ = [some (.ref a), some (.int most), some (.int m), some (.ref f), some (.ref g), some (.ref d), some (.int low), some (.int (0 + (i : Int))), some (.int (itn v0 k)), y9, y10, y11] ∧ H = H2,
        ⟨j, 0, by omega, by rw [itn_zero hv.1 hv.2]; rfl, rfl⟩, ?_⟩
      rintro n σ H4 ⟨k, hk, rfl, rfl⟩
      refine ⟨_, rfl, _, rfl, d, _, rfl, DGet.k (k := Sum.inl (itn v0 k)) ed2, _, rfl, ?_⟩
      by_cases hn : n = 0
      · have hkj : k = j := by omega
        subst hkj
        rw [dkv_none hj]
        refine iteF ?_
        refine ⟨_, rfl, _, rfl, d, _, rfl, DPut.k (k := Sum.inl (itn v0 k)) ed2 ?_, ?_⟩
        · unfold dkv
          rw [List.length_map, List.length_map]
          exact len63' (by omega)
        rw [dkv_put hj]
        have hin := itn_in v0 k
        generalize hvk : itn v0 k = v at hin hj
        have ef3 : (upd H4 d (.dK (dkv (ps.map (·.1) ++ [v])))) f = some (.lst xs) := by rw [upd_ne nfd]; exact ef2
        have eg3 : (upd H4 d (.dK (dkv (ps.map (·.1) ++ [v])))) g = some (.lst ys) := by rw [upd_ne ngd]; exact eg2
        have ed3 : (upd H4 d (.dK (dkv (ps.map (·.1) ++ [v])))) d = some (.dK (dkv (ps.map (·.1) ++ [v]))) := upd_same
        have ex3 : Ex H' (upd H4 d (.dK (dkv (ps.map (·.1) ++ [v])))) := Ex.mu ex2 hd0
        have hps3 : Prs (upd H4 d (.dK (dkv (ps.map (·.1) ++ [v])))) xs ps := hps2.up (by intro ys z; rw [ed2] at z; cases z)
        have hus3 : Prs (upd H4 d (.dK (dkv (ps.map (·.1) ++ [v])))) ys us := hus2.up (by intro ys z; rw [ed2] at z; cases z)
        generalize upd H4 d (.dK (dkv (ps.map (·.1) ++ [v]))) = H5 at ef3 eg3 ed3 ex3 hps3 hus3
        refine ⟨_, rfl, a, ns, 2, rfl, ex3.seq hS, ?_⟩
        repeat (first | refine ⟨_, rfl, ?_⟩ | refine ⟨(by show (0 : Int) < _; decide), ?_⟩ | refine ⟨⟨by decide, by decide⟩, ?_⟩ | refine ⟨.inr ⟨by decide, by decide⟩, ?_⟩ | refine ⟨.inl ⟨by decide, by decide⟩, ?_⟩ | refine ⟨⟨by decide, by decide, by decide⟩, ?_⟩ | refine ⟨_, _, rfl, rfl, ?_⟩ | refine ⟨rfl, _, rfl, ?_⟩)
        refine ⟨_, _, rfl, ⟨by omega, by omega⟩, ?_⟩
        generalize hdr : mixed (cell ns 2) (0 + (i : Int) + 1) = dr
        -- the counts
        refine ⟨_, rfl, _, _, rfl, rfl, ⟨by decide, by decide⟩, _, _, rfl, rfl, by show (0 : Int) < 4; decide, ?_⟩
        refine ⟨fun σ' H => ∃ c : Int, 0 ≤ c ∧ c ≤ 30 ∧ σ' = [some (.ref a), some (.int most), some (.int m), some (.ref f), some (.ref g), some (.ref d), some (.int low), some (.int (0 + (i : Int))), some (.int v), some (.int dr), some (.int c), y11] ∧ H = H5, ?_, ?_⟩
        · have c0 : 0 ≤ dr / 2 % 4 := Int.emod_nonneg _ (by decide)
          have c4 : dr / 2 % 4 < 4 := Int.emod_lt_of_pos _ (by decide)
          have f0 : 0 ≤ dr / 12 % 30 := Int.emod_nonneg _ (by decide)
          have f4 : dr / 12 % 30 < 30 := Int.emod_lt_of_pos _ (by decide)
          repeat (first | refine ⟨_, rfl, ?_⟩ | refine ⟨(by show (0 : Int) < _; decide), ?_⟩ | refine ⟨⟨by decide, by decide⟩, ?_⟩ | refine ⟨.inr ⟨by decide, by decide⟩, ?_⟩ | refine ⟨.inl ⟨by decide, by decide⟩, ?_⟩ | refine ⟨⟨by decide, by decide, by decide⟩, ?_⟩ | refine ⟨_, _, rfl, rfl, ?_⟩ | refine ⟨rfl, _, rfl, ?_⟩)
          first | refine iteVI (fun e => ?_) (fun e => ?_) | refine iteVN (fun e => ?_) (fun e => ?_) | refine iteD (fun e => ?_) (fun e => ?_) | refine iteDN (fun e => ?_) (fun e => ?_) | refine iteB (fun e => ?_) (fun e => ?_)
          · repeat (first | refine ⟨_, rfl, ?_⟩ | refine ⟨(by show (0 : Int) < _; decide), ?_⟩ | refine ⟨⟨by decide, by decide⟩, ?_⟩ | refine ⟨.inr ⟨by decide, by decide⟩, ?_⟩ | refine ⟨.inl ⟨by decide, by decide⟩, ?_⟩ | refine ⟨⟨by decide, by decide, by decide⟩, ?_⟩ | refine ⟨_, _, rfl, rfl, ?_⟩ | refine ⟨rfl, _, rfl, ?_⟩)
            exact ⟨_, f0, by omega, rfl, rfl⟩
          · exact ⟨_, c0, by omega, rfl, rfl⟩
        rintro σ' H ⟨c, hc0, hc30, rfl, rfl⟩
        refine ⟨_, rfl, _, _, rfl, rfl, ⟨by decide, by decide⟩, _, _, rfl, rfl, by show (0 : Int) < 4; decide, ?_⟩
        refine ⟨fun σ' H9 => ∃ o : Int, 0 ≤ o ∧ o ≤ 30 ∧ σ' = [some (.ref a), some (.int most), some (.int m), some (.ref f), some (.ref g), some (.ref d), some (.int low), some (.int (0 + (i : Int))), some (.int v), some (.int dr), some (.int c), some (.int o)] ∧ H9 = H, ?_, ?_⟩
        · have c0 : 0 ≤ dr / 360 % 4 := Int.emod_nonneg _ (by decide)
          have c4 : dr / 360 % 4 < 4 := Int.emod_lt_of_pos _ (by decide)
          have f0 : 0 ≤ dr / 360 % 30 := Int.emod_nonneg _ (by decide)
          have f4 : dr / 360 % 30 < 30 := Int.emod_lt_of_pos _ (by decide)
          repeat (first | refine ⟨_, rfl, ?_⟩ | refine ⟨(by show (0 : Int) < _; decide), ?_⟩ | refine ⟨⟨by decide, by decide⟩, ?_⟩ | refine ⟨.inr ⟨by decide, by decide⟩, ?_⟩ | refine ⟨.inl ⟨by decide, by decide⟩, ?_⟩ | refine ⟨⟨by decide, by decide, by decide⟩, ?_⟩ | refine ⟨_, _, rfl, rfl, ?_⟩ | refine ⟨rfl, _, rfl, ?_⟩)
          first | refine iteVI (fun e => ?_) (fun e => ?_) | refine iteVN (fun e => ?_) (fun e => ?_) | refine iteD (fun e => ?_) (fun e => ?_) | refine iteDN (fun e => ?_) (fun e => ?_) | refine iteB (fun e => ?_) (fun e => ?_)
          · repeat (first | refine ⟨_, rfl, ?_⟩ | refine ⟨(by show (0 : Int) < _; decide), ?_⟩ | refine ⟨⟨by decide, by decide⟩, ?_⟩ | refine ⟨.inr ⟨by decide, by decide⟩, ?_⟩ | refine ⟨.inl ⟨by decide, by decide⟩, ?_⟩ | refine ⟨⟨by decide, by decide, by decide⟩, ?_⟩ | refine ⟨_, _, rfl, rfl, ?_⟩ | refine ⟨rfl, _, rfl, ?_⟩)
            exact ⟨_, f0, by omega, rfl, rfl⟩
          · exact ⟨_, c0, by omega, rfl, rfl⟩
        rintro σ' H9 ⟨o, ho0, ho30, rfl, rfl⟩
        refine ⟨fun σ' H => ∃ c o : Int, 0 ≤ c ∧ c ≤ 30 ∧ 0 ≤ o ∧ o ≤ 30 ∧ σ' = [some (.ref a), some (.int most), some (.int m), some (.ref f), some (.ref g), some (.ref d), some (.int low), some (.int (0 + (i : Int))), some (.int v), some (.int dr), some (.int c), some (.int o)] ∧ H = H9, ?_, ?_⟩
        · have c0 : 0 ≤ c % 2 := Int.emod_nonneg _ (by decide)
          have c4 : c % 2 < 2 := Int.emod_lt_of_pos _ (by decide)
          have f0 : 0 ≤ o % 2 := Int.emod_nonneg _ (by decide)
          have f4 : o % 2 < 2 := Int.emod_lt_of_pos _ (by decide)
          repeat (first | refine ⟨_, rfl, ?_⟩ | refine ⟨(by show (0 : Int) < _; decide), ?_⟩ | refine ⟨⟨by decide, by decide⟩, ?_⟩ | refine ⟨.inr ⟨by decide, by decide⟩, ?_⟩ | refine ⟨.inl ⟨by decide, by decide⟩, ?_⟩ | refine ⟨⟨by decide, by decide, by decide⟩, ?_⟩ | refine ⟨_, _, rfl, rfl, ?_⟩ | refine ⟨rfl, _, rfl, ?_⟩)
          first | refine iteVI (fun e => ?_) (fun e => ?_) | refine iteVN (fun e => ?_) (fun e => ?_) | refine iteD (fun e => ?_) (fun e => ?_) | refine iteDN (fun e => ?_) (fun e => ?_) | refine iteB (fun e => ?_) (fun e => ?_)
          · repeat (first | refine ⟨_, rfl, ?_⟩ | refine ⟨(by show (0 : Int) < _; decide), ?_⟩ | refine ⟨⟨by decide, by decide⟩, ?_⟩ | refine ⟨.inr ⟨by decide, by decide⟩, ?_⟩ | refine ⟨.inl ⟨by decide, by decide⟩, ?_⟩ | refine ⟨⟨by decide, by decide, by decide⟩, ?_⟩ | refine ⟨_, _, rfl, rfl, ?_⟩ | refine ⟨rfl, _, rfl, ?_⟩)
            exact ⟨_, _, c0, by omega, f0, by omega, rfl, rfl⟩
          · exact ⟨c, o, hc0, hc30, ho0, ho30, rfl, rfl⟩
        rintro σ' H ⟨c, o, hc0, hc30, ho0, ho30, rfl, rfl⟩
        refine ⟨fun σ' H9 => ∃ c o : Int, 0 ≤ c ∧ c ≤ 30 ∧ 0 ≤ o ∧ o ≤ 30 ∧ low + v * (c + o) ≤ 600 ∧ σ' = [some (.ref a), some (.int most), some (.int m), some (.ref f), some (.ref g), some (.ref d), some (.int low), some (.int (0 + (i : Int))), some (.int v), some (.int dr), some (.int c), some (.int o)] ∧ H9 = H, ?_, ?_⟩
        · refine ⟨_, rfl, _, rfl, _, rfl, _, rfl, _, _, rfl, rfl, _, _, rfl, rfl, .inl ⟨by omega, by omega⟩, _, _, rfl, rfl, _, _, rfl, rfl, _, rfl, iteD (fun e => ?_) (fun e => ?_)⟩
          · exact ⟨0, 0, Int.le_refl _, by decide, Int.le_refl _, by decide, by rw [Int.add_zero, Int.mul_zero]; omega, rfl, rfl⟩
          · have e' : ¬ 600 < low + v * (c + o) := e
            exact ⟨c, o, hc0, hc30, ho0, ho30, by omega, rfl, rfl⟩
        rintro σ' H9 ⟨c, o, hc0, hc30, ho0, ho30, hle, rfl, rfl⟩
        have hvc : 0 ≤ v * c := Int.mul_nonneg (by omega) hc0
        have hvo : 0 ≤ v * o := Int.mul_nonneg (by omega) ho0
        have hvd : v * (c + o) = v * c + v * o := Int.mul_add ..
        refine ⟨_, rfl, _, rfl, _, rfl, _, rfl, _, _, rfl, rfl, _, _, rfl, rfl, .inl ⟨by omega, by omega⟩, _, _, rfl, rfl, ?_⟩
        -- into the till
        refine ⟨_, rfl, .inl ⟨rfl, xs, .of ef3⟩, _, rfl, _, rfl, len63 (by show 2 ≤ _; decide), fun t ht => ?_⟩
        have ntf : f ≠ t := ne_of_none ef3 ht
        have ntg : g ≠ t := ne_of_none eg3 ht
        have ntd : d ≠ t := ne_of_none ed3 ht
        have ef4 : (upd H9 t (.tup [.int v, .int c])) f = some (.lst xs) := by rw [upd_ne ntf]; exact ef3
        refine ⟨f, xs, _, rfl, rfl, ef4, len63' (by rw [hps3.len]; omega), ?_⟩
        generalize hH6 : upd (upd H9 t (.tup [.int v, .int c])) f (.lst (xs ++ [.ref t])) = H6
        have ex6 : Ex H' H6 := hH6 ▸ Ex.mu (ex3.tr (Ex.nw ht)) hf
        have ef6 : H6 f = some (.lst (xs ++ [.ref t])) := by rw [← hH6]; exact upd_same
        have eg6 : H6 g = some (.lst ys) := by rw [← hH6, upd_ne nfg.symm]; exact (Ex.nw ht) _ _ eg3
        have ed6 : H6 d = some (.dK (dkv ((ps ++ [(v, c)]).map (·.1)))) := by rw [← hH6, upd_ne nfd.symm, List.map_append]; exact (Ex.nw ht) _ _ ed3
        have up6 : ∀ {us : List V} {rs : List (Int × Int)}, Prs H9 us rs → Prs H6 us rs := fun h => hH6 ▸ (h.ex (Ex.nw ht)).up (by intro bs y; rw [ef4] at y; cases y)
        have ht6 : H6 t = some (.tup [.int v, .int c]) := by rw [← hH6, upd_ne ntf.symm]; exact upd_same
        have hps6 : Prs H6 (xs ++ [.ref t]) (ps ++ [(v, c)]) := Prs.snoc (up6 hps3) ⟨t, rfl, ht6⟩
        have hus6 := up6 hus3
        have hnp' : ((ps ++ [(v, c)]).map (·.1)).Nodup := by
          rw [List.map_append]
          exact nd_snoc hnp hj
        have hvp' : ∀ p ∈ ps ++ [(v, c)], 1 ≤ p.1 ∧ p.1 ≤ 1000 ∧ 0 ≤ p.2 ∧ p.2 ≤ 1000 := fun p hp => by
          rcases List.mem_append.mp hp with h | h
          · exact hvp p h
          · rw [List.mem_singleton.mp h]
            exact ⟨hin.1, hin.2, hc0, by show c ≤ 1000; omega⟩
        have hvu' : ∀ u ∈ us, (∃ c', (u.1, c') ∈ ps ++ [(v, c)]) ∧ 0 ≤ u.2 ∧ u.2 ≤ 1000 := fun u hu => by
          obtain ⟨⟨c', h1⟩, h2⟩ := hvu u hu
          exact ⟨⟨c', List.mem_append.mpr (.inl h1)⟩, h2⟩
        have hw1 : worthP (ps ++ [(v, c)]) = worthP ps + v * c := by
          rw [worthP_app]
          show _ + (v * c + 0) = _
          omega
        have hpl : (ps ++ [(v, c)]).length = i + 1 := by rw [List.length_append, hlen]; rfl
        refine ⟨_, rfl, _, _, rfl, rfl, ⟨by decide, by decide⟩, _, _, rfl, rfl, by show (0 : Int) < 3; decide, _, _, rfl, rfl, _, rfl, iteD (fun e => ?_) (fun e => ?_)⟩
        · refine ⟨_, rfl, .inl ⟨rfl, ys, .of eg6⟩, _, rfl, _, rfl, len63 (by show 2 ≤ _; decide), fun t2 ht2 => ?_⟩
          have eg7 : (upd H6 t2 (.tup [.int v, .int o])) g = some (.lst ys) := by rw [upd_ne (ne_of_none eg6 ht2)]; exact eg6
          refine ⟨g, ys, _, rfl, rfl, eg7, len63' (by rw [hus.len]; omega), ?_⟩
          have hunv : v ∉ us.map (·.1) := fun hm => by
            obtain ⟨u, hu, hu1⟩ := List.mem_map.mp hm
            obtain ⟨⟨c', h1⟩, _⟩ := hvu u hu
            exact hj (List.mem_map.mpr ⟨_, h1, hu1⟩)
          refine ⟨xs ++ [.ref t], ys ++ [.ref t2], ps ++ [(v, c)], us ++ [(v, o)], low + v * (c + o), _, _, _, _, _, rfl, Ex.mu (ex6.tr (Ex.nw ht2)) hg0, ?_, upd_same, ?_, ?_, ?_, hnp', by rw [List.map_append]; exact nd_snoc hnu hunv, hvp', fun u hu => ?_, by rw [List.length_append, List.length_append]; show us.length + 1 ≤ ps.length + 1; omega, by omega, by omega, ?_, hpl⟩
          · rw [upd_ne nfg]
            exact (Ex.nw ht2) _ _ ef6
          · rw [upd_ne ngd.symm]
            exact (Ex.nw ht2) _ _ ed6
          · exact (hps6.ex (Ex.nw ht2)).up (by intro bs y; rw [eg7] at y; cases y)
          · refine Prs.up (by intro bs y; rw [eg7] at y; cases y) ?_
            exact Prs.snoc (hus6.ex (Ex.nw ht2)) ⟨t2, rfl, upd_same⟩
          · rcases List.mem_append.mp hu with h | h
            · exact hvu' u h
            · rw [List.mem_singleton.mp h]
              exact ⟨⟨c, List.mem_append.mpr (.inr (List.mem_singleton.mpr rfl))⟩, ho0, by show o ≤ 1000; omega⟩
          · rw [hw1, worthP_app, hvd]
            show _ + (_ + (v * o + 0)) ≤ _
            omega
        · exact ⟨xs ++ [.ref t], ys, ps ++ [(v, c)], us, low + v * (c + o), _, _, _, _, _, rfl, ex6, ef6, eg6, ed6, hps6, hus6, hnp', hnu, hvp', hvu', by rw [List.length_append]; omega, by omega, by omega, by rw [hw1, hvd]; omega, hpl⟩
      · have hin : itn v0 k ∈ ps.map (·.1) := by
          by_cases z : itn v0 k ∈ ps.map (·.1)
          · exact z
          · exact absurd z (hmin k (by omega))
        obtain ⟨v, ev⟩ := dkv_some hin
        rw [ev]
        refine iteT ⟨fun σ' H'' => ∃ n', n' < n ∧ ∃ k', k' + n' = j ∧ σ' = [some (.ref a), some (.int most), some (.int m), some (.ref f), some (.ref g), some (.ref d), some (.int low), some (.int (0 + (i : Int))), some (.int (itn v0 k')), y9, y10, y11] ∧ H'' = H4, fun _ _ z => z, ?_⟩
        repeat (first | refine ⟨_, rfl, ?_⟩ | refine ⟨(by show (0 : Int) < _; decide), ?_⟩ | refine ⟨⟨by decide, by decide⟩, ?_⟩ | refine ⟨.inr ⟨by decide, by decide⟩, ?_⟩ | refine ⟨.inl ⟨by decide, by decide⟩, ?_⟩ | refine ⟨⟨by decide, by decide, by decide⟩, ?_⟩ | refine ⟨_, _, rfl, rfl, ?_⟩ | refine ⟨rfl, _, rfl, ?_⟩)
        exact ⟨n - 1, by omega, k + 1, by omega, by rw [itn_succ]; rfl, rfl⟩
    · rintro σ H1 ⟨xs, ys, ps, us, low, y7, y8, y9, y10, y11, rfl, ex, ef, eg, ed, hps, hus, hnp, hnu, hvp, hvu, hfew, hlo0, hlo6, hwo, hlen⟩
      refine ⟨_, rfl, f, xs, pairAt H1, rfl, .of ef, hps.all, fun zs t z1 z2 ht => ?_⟩
      obtain ⟨qs, hq, hpm, hris⟩ := sorted_prs hps hnp z1 z2
      (generalize hh : upd H1 t _ = H2; have e2 : Ex H1 H2 := (by rw [← hh]; exact Ex.nw ht); have ct := (show H2 t = some _ by rw [← hh]; exact upd_same); clear hh)
      have hq2 := hq.ex e2
      have hus2 := hus.ex e2
      refine ⟨_, rfl, g, ys, pairAt H2, rfl, .of (e2 _ _ eg), hus2.all, fun ws u z3 z4 hu => ?_⟩
      obtain ⟨rs, hr, hpm2, hris2⟩ := sorted_prs hus2 hnu z3 z4
      have ntu : t ≠ u := ne_of_none ct hu
      (generalize hh : upd H2 u _ = H3; have e3 : Ex H2 H3 := (by rw [← hh]; exact Ex.nw hu); have cu := (show H3 u = some _ by rw [← hh]; exact upd_same); clear hh)
      refine ⟨len63 (by show 2 ≤ _; decide), fun l hl => ?_⟩
      have ex3 := (ex.tr e2).tr e3
      have ntl : t ≠ l := ne_of_none (e3 _ _ ct) hl
      have nul : u ≠ l := ne_of_none cu hl
      refine q l t u zs ws qs rs _ (ex3.tr (Ex.nw hl)) (none_back ex3 hl) upd_same (none_back ex ht) (none_back (ex.tr e2) hu) ntu ntl nul ((Ex.nw hl) _ _ (e3 _ _ ct)) ((Ex.nw hl) _ _ cu) ((hq2.ex e3).ex (Ex.nw hl)) ((hr.ex e3).ex (Ex.nw hl)) hris hris2 ?_ (by rw [hpm.length_eq]; omega) (by rw [hpm.length_eq]; omega) (fun h => by have := hm3 h; rw [hpm.length_eq]; omega)
      refine ⟨(hpm.map _).nodup_iff.mpr hnp, (hpm2.map _).nodup_iff.mpr hnu, fun p hp => hvp p (hpm.mem_iff.mp hp), fun p hp => ?_, by rw [hpm.length_eq, hpm2.length_eq]; exact hfew, ?_⟩
      · obtain ⟨⟨c, hc⟩, h2, h3⟩ := hvu p (hpm2.mem_iff.mp hp)
        exact ⟨⟨c, hpm.mem_iff.mpr hc⟩, h2, h3⟩
      · have w1 : worthP qs = worthP ps := perm_sum (hpm.map _)
        have w2 : worthP rs = worthP us := perm_sum (hpm2.map _)
        omega
/-! ### a till and a purse, and what is due of their scales -/
structure Gen2 (ps us : List (Int × Int)) : Prop where
  rp : Rising ps
  ru : Rising us
  vp : ∀ p ∈ ps, 1 ≤ p.1 ∧ p.1 ≤ 5000 ∧ 0 ≤ p.2 ∧ p.2 ≤ 2000000
  vu : ∀ p ∈ us, 1 ≤ p.1 ∧ p.1 ≤ 5000 ∧ 0 ≤ p.2 ∧ p.2 ≤ 2000000
  lp : 1 ≤ ps.length ∧ ps.length ≤ 12
  lu : us.length ≤ 12
def lacks (ps us : List (Int × Int)) : Bool := us.any fun q => !decide (q.1 ∈ ps.map fun p => p.1)
def dueS (ps us : List (Int × Int)) : Str := if lacks ps us = true then "kind" else if worthP ps + worthP us > 1500 then "sum" else ""
theorem dueS_in (ps us : List (Int × Int)) : dueS ps us = "kind" ∨ dueS ps us = "sum" ∨ dueS ps us = "" := by
  unfold dueS
  split
  · exact .inl rfl
  · split
    · exact .inr (.inl rfl)
    · exact .inr (.inr rfl)
def lowOf (ps : List (Int × Int)) : Nat := (worthP ps).toNat
/-! ### places and pairs, told again -/
theorem vO_scal (o : Cell) (i : Int) : scal (vO o) (.int i) = true := by cases o <;> rfl
theorem vO_int {o : Cell} {i : Int} : vO o = .int i ↔ o = some i := by
  cases o with
  | none => exact ⟨(fun h => nomatch h), (fun h => nomatch h)⟩
  | some j => exact ⟨fun h => congrArg some (V.int.inj h), fun h => congrArg V.int (Option.some.inj h)⟩
theorem Prs.rev {H : Hp} : ∀ {xs : List V} {ps : List (Int × Int)}, Prs H xs ps → Prs H xs.reverse ps.reverse
  | _, _, .nil => .nil
  | _, _, .cons h r => by
    rw [List.reverse_cons, List.reverse_cons]
    exact Prs.snoc (Prs.rev r) h
def spCheck (lo hi : Int) (cN : Addr) : Sp := fun vs H Q E => ∃ v : Int, vs = [.int v] ∧ ((lo ≤ v ∧ v ≤ hi) → Q .non H) ∧ (¬ (lo ≤ v ∧ v ≤ hi) → E (.ref cN) none H)
theorem ok_check_sum (T : Tx K mg) : FnOk P w K mg base (L2.CX P w) 1 T.a_check_sum T.d_check_sum P_check_sum (spCheck 0 1000 T.c_NoSum) := by
  refine T.f_check_sum.okX sc_check_sum (fun vs H Q E h => ?_) (fun cdv A outer s H vs Q E hr h => ?_)
  · obtain ⟨v, rfl, _⟩ := h
    rfl
  · obtain ⟨v, rfl, q1, q2⟩ := h
    refine ⟨_, (pss_one (ps_if (pt_not (pt_chain op_le op_le pe_int (pv 0) (pe_glob (v := .int 1000) (by rfl) T.w_MOST_SUM.choose_spec ⟨_, rfl⟩)))
      (pss_one (ps_raise rfl (takes_of rfl rfl rfl rfl) (pmk_own PySem.F.excBase_ValueError T.x_NoSum T.g_NoSum T.k_NoSum (raises_own T.b_NoSum T.t_NoSum) rfl)))
      pss_nil)), ?_⟩
    repeat (first | refine ⟨_, rfl, ?_⟩ | refine ⟨(by show (0 : Int) < _; decide), ?_⟩ | refine ⟨⟨by decide, by decide⟩, ?_⟩ | refine ⟨.inr ⟨by decide, by decide⟩, ?_⟩ | refine ⟨.inl ⟨by decide, by decide⟩, ?_⟩ | refine ⟨⟨by decide, by decide, by decide⟩, ?_⟩ | refine ⟨_, _, rfl, rfl, ?_⟩ | refine ⟨rfl, _, rfl, ?_⟩)
    first | refine iteVI (fun e => ?_) (fun e => ?_) | refine iteVN (fun e => ?_) (fun e => ?_) | refine iteD (fun e => ?_) (fun e => ?_) | refine iteDN (fun e => ?_) (fun e => ?_) | refine iteB (fun e => ?_) (fun e => ?_)
    · repeat (first | refine ⟨_, rfl, ?_⟩ | refine ⟨(by show (0 : Int) < _; decide), ?_⟩ | refine ⟨⟨by decide, by decide⟩, ?_⟩ | refine ⟨.inr ⟨by decide, by decide⟩, ?_⟩ | refine ⟨.inl ⟨by decide, by decide⟩, ?_⟩ | refine ⟨⟨by decide, by decide, by decide⟩, ?_⟩ | refine ⟨_, _, rfl, rfl, ?_⟩ | refine ⟨rfl, _, rfl, ?_⟩)
      first | refine iteVI (fun e' => ?_) (fun e' => ?_) | refine iteVN (fun e' => ?_) (fun e' => ?_) | refine iteD (fun e' => ?_) (fun e' => ?_) | refine iteDN (fun e' => ?_) (fun e' => ?_) | refine iteB (fun e' => ?_) (fun e' => ?_)
      · exact q2 fun z => e' z.2
      · exact q1 ⟨e, e'⟩
    · exact ⟨_, rfl, iteT (q2 fun z => e z.1)⟩
/-! ### what fits -/
theorem scl0 (low high : Nat) : (List.replicate low [V.non]).flatten ++ [V.int 0] ++ (List.replicate high [V.non]).flatten = (row0L low high).map vO := by
  have h : ∀ n, (List.replicate n [V.non]).flatten = (List.replicate n (none : Cell)).map vO := by
    intro n
    induction n with
    | zero => rfl
    | succ n ih =>
      rw [List.replicate_succ, List.replicate_succ, List.flatten_cons, List.map_cons, ih]
      rfl
  rw [h, h]
  unfold row0L
  rw [List.map_append, List.append_assoc]
  rfl
/-- small enough to be told -/
def Fits (us : List (Int × Int)) : Prop := us.length ≤ 1000 ∧ ∀ p ∈ us, 0 ≤ p.1 ∧ p.1 ≤ 100000 ∧ 0 ≤ p.2 ∧ p.2 ≤ 100000
theorem worthP_nn {us : List (Int × Int)} (h : ∀ p ∈ us, 0 ≤ p.1 ∧ 0 ≤ p.2) : 0 ≤ worthP us := by
  unfold worthP
  induction us with
  | nil => exact Int.le_refl _
  | cons p us ih =>
    rw [List.map_cons, List.sum_cons]
    have h1 := ih fun q hq => h q (List.mem_cons_of_mem _ hq)
    have h2 := h p List.mem_cons_self
    have h3 : 0 ≤ p.1 * p.2 := Int.mul_nonneg h2.1 h2.2
    omega
theorem worthP_ge {us : List (Int × Int)} (h : ∀ p ∈ us, 0 ≤ p.1 ∧ 0 ≤ p.2) {p : Int × Int} (hp : p ∈ us) : p.1 * p.2 ≤ worthP us := by
  induction us with
  | nil => cases hp
  | cons q us ih =>
    have h1 := worthP_nn fun r hr => h r (List.mem_cons_of_mem _ hr)
    have h2 := h q List.mem_cons_self
    have h3 : 0 ≤ q.1 * q.2 := Int.mul_nonneg h2.1 h2.2
    show _ ≤ (List.map (fun p : Int × Int => p.1 * p.2) (q :: us)).sum
    rw [List.map_cons, List.sum_cons]
    rcases List.mem_cons.mp hp with e | e
    · rw [e]
      unfold worthP at h1
      omega
    · have := ih (fun r hr => h r (List.mem_cons_of_mem _ hr)) e
      unfold worthP at this
      omega
theorem le_mul_of {a b : Int} (ha : 1 ≤ a) (hb : 0 ≤ b) : b ≤ a * b := by
  have : 1 * b ≤ a * b := Int.mul_le_mul_of_nonneg_right ha hb
  rw [Int.one_mul] at this
  exact this
theorem ownOf_in {us : List (Int × Int)} (h : Fits us) (v : Int) : 0 ≤ ownOf us v ∧ ownOf us v ≤ 100000 := by
  unfold ownOf
  cases e : countIn us v with
  | none => exact ⟨Int.le_refl _, by decide⟩
  | some c =>
    have := h.2 _ (countIn_mem e)
    exact ⟨this.2.2.1, this.2.2.2⟩
def scalesOf (ps us : List (Int × Int)) : List (List Cell) := rowsL (row0L (lowOf ps) (lowOf us)) (kindsOf ps us)
def spScales (K : PySem.W.Frag) (cK cS : Addr) : Sp := fun vs H Q E => ∃ (t u : Addr) (ps us : List (Int × Int)), vs = [.ref t, .ref u] ∧ Till K H t ps ∧ Till K H u us ∧ Gen2 ps us ∧
  (dueS ps us = "kind" → ∀ H2, Ex H H2 → E (.ref cK) none H2) ∧ (dueS ps us = "sum" → ∀ H2, Ex H H2 → E (.ref cS) none H2) ∧ (dueS ps us = "" → NewRows H (scalesOf ps us) Q)
/-! ### a dict of pairs -/
def dkP (us : List (Int × Int)) : List (Key × V) := us.map fun p => (Sum.inl p.1, V.int p.2)
theorem prs_dk {K : PySem.W.Frag} {H : Hp} : ∀ {xs : List V} {ps : List (Int × Int)}, Prs H xs ps → ∃ as : List Addr, xs = as.map V.ref ∧ Paired (fun p (kv : Key × V) => SqT K H p [kV kv.1, kv.2]) as (dkP ps)
  | _, _, .nil => ⟨[], rfl, .nil⟩
  | _, _, .cons (b := p) ⟨t, h1, h2⟩ r => by
    obtain ⟨as, e, q⟩ := prs_dk (K := K) r
    exact ⟨t :: as, by rw [h1, e]; rfl, .cons (.of h2) q⟩
theorem countIn_none {ps : List (Int × Int)} {v : Int} (h : ∀ p ∈ ps, p.1 ≠ v) : countIn ps v = none := by
  induction ps with
  | nil => rfl
  | cons p ps ih =>
    rw [countIn_cons, if_neg (h p List.mem_cons_self)]
    exact ih fun q hq => h q (List.mem_cons_of_mem _ hq)
theorem valV_merge {v : Int} : ∀ {us : List (Int × Int)} {kvs : List (Key × V)}, (us.map (·.1)).Nodup → valV (mergeK kvs (dkP us)) (Sum.inl v) = (match countIn us v with
  | some c => some (V.int c)
  | none => valV kvs (Sum.inl v))
  | [], kvs, _ => rfl
  | p :: us, kvs, nd => by
    rw [List.map_cons, List.nodup_cons] at nd
    have ih := valV_merge (v := v) (us := us) (kvs := putK kvs (Sum.inl p.1) (V.int p.2)) nd.2
    show valV (mergeK (putK kvs (Sum.inl p.1) (V.int p.2)) (dkP us)) (Sum.inl v) = _
    rw [ih, countIn_cons, valV_put]
    by_cases e : p.1 = v
    · rw [if_pos e, if_pos (by rw [e])]
      rw [countIn_none fun q hq z => nd.1 (by rw [e, ← z]; exact List.mem_map.mpr ⟨q, hq, rfl⟩)]
    · rw [if_neg e, if_neg (fun z => e (Sum.inl.inj z).symm)]
theorem dict_val {us : List (Int × Int)} (nd : (us.map (·.1)).Nodup) (v : Int) : valV (mergeK [] (dkP us)) (Sum.inl v) = (countIn us v).map V.int := by
  rw [valV_merge nd]
  cases countIn us v <;> rfl
theorem countIn_some {ps : List (Int × Int)} {v : Int} (h : v ∈ ps.map fun p : Int × Int => p.1) : ∃ c, countIn ps v = some c := by
  cases e : countIn ps v with
  | some c => exact ⟨c, rfl⟩
  | none =>
    exfalso
    obtain ⟨p, hp, rfl⟩ := List.mem_map.mp h
    induction ps with
    | nil => cases hp
    | cons q ps ih =>
      rw [countIn_cons] at e
      by_cases z : q.1 = p.1
      · rw [if_pos z] at e
        cases e
      · rw [if_neg z] at e
        rcases List.mem_cons.mp hp with y | y
        · exact z (by rw [y])
        · exact ih y (List.mem_map.mpr ⟨p, y, rfl⟩) e
/-! ### a row, turned round -/
theorem rAt_rev {r : List Cell} {i : Nat} (h : i < r.length) : rAt r.reverse i = rAt r (r.length - 1 - i) := by
  unfold rAt
  rw [List.getD_eq_getElem?_getD, List.getD_eq_getElem?_getD, List.getElem?_reverse h]
theorem nextRow_lst {r : List Cell} {v c d : Nat} (hv : 0 < v) (h : d < r.length) : Lst r v c d (rAt (nextRow r v c) d) := by
  rw [show rAt (nextRow r v c) d = leastF r v c d from rAt_map h]
  exact leastF_lst hv
theorem cellAt_nat {r : List Cell} {i : Nat} {x : Int} (h : i < r.length) (hx : rAt r i = some x) : cellAt r (i : Int) = some x := by
  unfold cellAt
  rw [if_pos ⟨by omega, by omega⟩, Int.toNat_natCast]
  exact hx
theorem of_cellAt {r : List Cell} {z x : Int} (h : cellAt r z = some x) : ∃ i : Nat, z = (i : Int) ∧ i < r.length ∧ rAt r i = some x := by
  unfold cellAt at h
  split at h
  · next hz => exact ⟨z.toNat, by omega, by omega, h⟩
  · cases h
theorem turn_lit {r : List Cell} {v c o d : Nat} (hv : 0 < v) (hd : d < r.length) : Lit r v c o (d : Int) (rAt (nextRow (nextRow r v o).reverse v c).reverse d) := by
  have pl : (nextRow r v o).length = r.length := nextRow_len ..
  have prl : (nextRow r v o).reverse.length = r.length := by rw [List.length_reverse, pl]
  have ql : (nextRow (nextRow r v o).reverse v c).length = r.length := by rw [nextRow_len, prl]
  rw [rAt_rev (by rw [ql]; exact hd), ql]
  have hq := nextRow_lst (r := (nextRow r v o).reverse) (v := v) (c := c) (d := r.length - 1 - d) hv (by rw [prl]; omega)
  generalize rAt (nextRow (nextRow r v o).reverse v c) (r.length - 1 - d) = res at hq
  have mid : ∀ b : Nat, b * v ≤ r.length - 1 - d → rAt (nextRow r v o).reverse (r.length - 1 - d - b * v) = rAt (nextRow r v o) (d + b * v) := fun b hb => by
    rw [rAt_rev (by rw [pl]; omega), pl]
    congr 1
    omega
  have hp : ∀ b : Nat, b * v ≤ r.length - 1 - d → Lst r v o (d + b * v) (rAt (nextRow r v o) (d + b * v)) := fun b hb => nextRow_lst hv (by omega)
  have first : ∀ (j x : Int), -(c : Int) ≤ j → j ≤ o → cellAt r ((d : Int) - j * v) = some x → ∃ m, res = some m ∧ m ≤ x + j.natAbs := by
    intro j x h1 h2 hx
    obtain ⟨i, hi, hil, hx'⟩ := of_cellAt hx
    by_cases hj : 0 ≤ j
    · obtain ⟨b, rfl⟩ : ∃ b : Nat, j = (b : Int) := ⟨j.toNat, by omega⟩
      have eb : ((b * v : Nat) : Int) = (b : Int) * v := Int.natCast_mul ..
      obtain ⟨m1, e1, l1⟩ := (hp 0 (by omega)).1 b x (by omega) (by omega) (by rw [show d + 0 * v - b * v = i by omega]; exact hx')
      obtain ⟨m, e2, l2⟩ := hq.1 0 m1 (by omega) (by omega) (by rw [mid 0 (by omega)]; exact e1)
      exact ⟨m, e2, by omega⟩
    · obtain ⟨b, hb⟩ : ∃ b : Nat, j = -(b : Int) := ⟨(-j).toNat, by omega⟩
      subst hb
      have eb : ((b * v : Nat) : Int) = (b : Int) * v := Int.natCast_mul ..
      rw [Int.neg_mul] at hi
      obtain ⟨m1, e1, l1⟩ := (hp b (by omega)).1 0 x (by omega) (by omega) (by rw [show d + b * v - 0 * v = i by omega]; exact hx')
      obtain ⟨m, e2, l2⟩ := hq.1 b m1 (by omega) (by omega) (by rw [mid b (by omega)]; exact e1)
      exact ⟨m, e2, by omega⟩
  refine ⟨first, fun m hm => ?_⟩
  obtain ⟨b, x1, b1, b2, b3, rfl⟩ := hq.2 m hm
  rw [mid b b2] at b3
  obtain ⟨a, x, a1, a2, a3, rfl⟩ := (hp b b2).2 x1 b3
  have ea : ((a * v : Nat) : Int) = (a : Int) * v := Int.natCast_mul ..
  have eb : ((b * v : Nat) : Int) = (b : Int) * v := Int.natCast_mul ..
  have hc : cellAt r ((d : Int) - ((a : Int) - b) * v) = some x := by
    rw [Int.sub_mul, show (d : Int) - ((a : Int) * v - (b : Int) * v) = ((d + b * v - a * v : Nat) : Int) by omega]
    exact cellAt_nat (by omega) a3
  obtain ⟨m', e', l'⟩ := first ((a : Int) - b) x (by omega) (by omega) hc
  rw [hm] at e'
  have := Option.some.inj e'
  exact ⟨(a : Int) - b, x, by omega, by omega, hc, by omega⟩
theorem turn_next {r : List Cell} {v c o : Nat} (hv : 0 < v) : (nextRow (nextRow r v o).reverse v c).reverse = nextLit r v c o := by
  have pl : (nextRow r v o).length = r.length := nextRow_len ..
  refine row_ext (by rw [List.length_reverse, nextRow_len, List.length_reverse, pl]) fun d hd => ?_
  exact Lit.uniq (turn_lit hv hd) litF_lit
/-! ### what pieces are worth -/
def spWorthP (K : PySem.W.Frag) : Sp := fun vs H Q _ => ∃ (a : Addr) (ps : List (Int × Int)), vs = [.ref a] ∧ Till K H a ps ∧ ps.length ≤ 1000 ∧ (∀ p ∈ ps, 0 ≤ p.1 ∧ p.1 ≤ 1000000000) ∧ Ret (.int (worthP ps)) H Q
theorem ok_worth (T : Tx K mg) : FnOk P w K mg base CX0 1 T.a_worth T.d_worth P_worth (spWorthP K) := by
  refine T.f_worth.ok sc_worth (fun vs H Q E h => ?_) (fun cdv A outer s H vs Q E hr h => ?_)
  · obtain ⟨a, ps, rfl, _⟩ := h
    rfl
  · obtain ⟨a, ps, rfl, ⟨xs, hS, hp⟩, hl, hb, q⟩ := h
    refine ⟨_, (pss_one (ps_ret (pe_callB (cr_sum rfl) (by rfl) T.m_sum (by decide +kernel) (pa_cons (pe_lc (own := [("value", 1), ("count", 2)]) (g := gTup K 2 (gCons (gName 1) (gCons (gName 2) gNil))) rfl sc_worth.nd (pi_list (pv 0)) (blkOk_by (own := [("value", 1), ("count", 2)]) (N := N_worth) (sc := defScope s_worth) (by decide +kernel)) (fun _ _ _ _ _ => pg_tup rfl (pgs_cons (pg_name (i := 1) sc_worth.nd rfl (.inl rfl) (.inr rfl)) (pgs_cons (pg_name (i := 2) sc_worth.nd rfl (.inl rfl) (.inr rfl)) pgs_nil))) (fun _ _ _ _ _ => pts_nil) (fun _ _ _ _ _ => (pe_op op_mul (pv 1) (pv 2)))) pa_nil)))), ?_⟩
    refine ⟨_, rfl, a, rfl, ⟨xs, hS⟩, fun D hD => lc_list (xs := xs) (fun i H' => Ex H H' ∧ H' D = some (.lst ((ps.take i).map fun p => .int (p.1 * p.2)))) ⟨Ex.nw hD, upd_same⟩ (fun i H' _ h => h.1.seq hS) ?_ ?_⟩
    · rintro i x H' hx ⟨ex, eD⟩
      obtain ⟨p, t, h1, rfl, h3⟩ := Prs.get hp hx
      have hpm := hb p (List.mem_of_getElem? h1)
      refine ⟨t, _, rfl, .of (ex _ _ h3), rfl, _, _, rfl, _, _, rfl, rfl, rfl, ?_⟩
      refine t_yes ?_
      repeat (first | refine ⟨_, rfl, ?_⟩ | refine ⟨(by show (0 : Int) < _; decide), ?_⟩ | refine ⟨⟨by decide, by decide⟩, ?_⟩ | refine ⟨.inr ⟨by decide, by decide⟩, ?_⟩ | refine ⟨.inl ⟨by decide, by decide⟩, ?_⟩ | refine ⟨⟨by decide, by decide, by decide⟩, ?_⟩ | refine ⟨_, _, rfl, rfl, ?_⟩ | refine ⟨rfl, _, rfl, ?_⟩)
      refine ⟨.inl ⟨by omega, by omega⟩, _, eD, ?_, ?_, ?_⟩
      · rw [List.length_map, List.length_take]
        exact len63' (by omega)
      · exact Ex.mu ex hD
      · rw [upd_same, take_succ_map _ h1]
    · rintro H' ⟨ex, eD⟩
      rw [List.take_of_length_le (by rw [hp.len]; exact Nat.le_refl _)] at eD
      refine ⟨D, ps.map fun p : Int × Int => p.1 * p.2, rfl, .of (by rw [eD, List.map_map]; rfl), q H' ex⟩
/-! ### the scales, as the program makes them -/
theorem rowsL_snoc (r : List Cell) (ks : List Kd) (k : Kd) : rowsL r (ks ++ [k]) = rowsL r ks ++ [lastL r (ks ++ [k])] := by
  unfold rowsL
  rw [List.length_append, show ks.length + [k].length + 1 = (ks.length + 1) + 1 from rfl, List.range_succ, List.map_append]
  congr 1
  · refine List.map_congr_left fun i hi => ?_
    rw [List.take_append_of_le_length (by have := List.mem_range.mp hi; omega)]
  · show [lastL r ((ks ++ [k]).take (ks.length + 1))] = _
    rw [List.take_of_length_le (by rw [List.length_append]; exact Nat.le_refl _)]
def spPurse (K : PySem.W.Frag) (cK : Addr) : Sp := fun vs H Q E => ∃ (t u : Addr) (ps us : List (Int × Int)), vs = [.ref t, .ref u] ∧ Till K H t ps ∧ Till K H u us ∧ (ps.map (·.1)).Nodup ∧
  (lacks ps us = true → ∀ H2, Ex H H2 → E (.ref cK) none H2) ∧ (lacks ps us = false → ∀ H2, Ex H H2 → Q .non H2)
theorem ok_check_purse (T : Tx K mg) : FnOk P w K mg base (L2.CX P w) 1 T.a__check_purse T.d__check_purse P__check_purse (spPurse K T.c_NoKind) := by
  refine T.f__check_purse.okX sc__check_purse (fun vs H Q E h => ?_) (fun cdv A outer s H vs Q E hr h => ?_)
  · obtain ⟨t, u, ps, us, rfl, _⟩ := h
    rfl
  · obtain ⟨t, u, ps, us, rfl, ⟨xs, hS, hp⟩, ⟨ys, hS2, hu⟩, nd, q1, q2⟩ := h
    refine ⟨_, (pss_cons (ps_set (i := 2) sc__check_purse.nd rfl (.inl rfl) (pe_callTy (call_dictP rfl) (by rfl) T.m_dict (by decide +kernel) (pa_cons (pv 0) pa_nil)))
    (pss_one (ps_for (passes_of rfl) rfl (pi_list (pv 1)) (pg_tup rfl (pgs_cons (pg_name (i := 3) sc__check_purse.nd rfl (.inl rfl)) (pgs_cons (pg_name (i := 4) sc__check_purse.nd rfl (.inl rfl)) pgs_nil)))
      (pss_one (ps_if (pt_cmp (pc_dnotin (hu_of hr) (pv 3) (pv 2)))
        (pss_one (ps_raise rfl (takes_of rfl rfl rfl rfl) (pmk_own PySem.F.excBase_ValueError T.x_NoKind T.g_NoKind T.k_NoKind (raises_own T.b_NoKind T.t_NoKind) rfl)))
        pss_nil))))), ?_⟩
    obtain ⟨as, rfl, hd⟩ := prs_dk (K := K) hp
    refine ⟨_, rfl, t, as, dkP ps, rfl, hS, hd, fun D hD => ?_⟩
    (generalize hh : upd H D _ = H1; have e1 : Ex H H1 := (by rw [← hh]; exact Ex.nw hD); have c1 := (show H1 D = some _ by rw [← hh]; exact upd_same); clear hh)
    refine ⟨_, rfl, u, rfl, ⟨ys, e1.seq hS2⟩, for_list (xs := ys) (fun i σ H' => ∃ y3 y4, σ = [some (.ref t), some (.ref u), some (.ref D), y3, y4] ∧ H' = H1 ∧ ∀ q ∈ us.take i, q.1 ∈ ps.map fun p => p.1) ⟨_, _, rfl, rfl, by simp⟩ (fun i σ H' _ h => by obtain ⟨_, _, _, rfl, _⟩ := h; exact e1.seq hS2) ?_ ?_⟩
    · rintro i x σ H' hx ⟨y3, y4, rfl, rfl, hin⟩
      obtain ⟨q, t2, h1, rfl, h3⟩ := Prs.get (hu.ex e1) hx
      refine ⟨t2, _, rfl, .of h3, rfl, _, _, rfl, _, _, rfl, rfl, ?_⟩
      refine ⟨_, rfl, _, rfl, D, _, rfl, DGet.k (k := Sum.inl q.1) c1, _, rfl, ?_⟩
      rw [dict_val nd]
      by_cases hm : q.1 ∈ ps.map fun p : Int × Int => p.1
      · obtain ⟨c, hc⟩ := countIn_some hm
        rw [hc]
        refine iteF ⟨_, _, rfl, rfl, fun z hz => ?_⟩
        rw [take_snoc h1] at hz
        rcases List.mem_append.mp hz with y | y
        · exact hin z y
        · rw [List.mem_singleton.mp y]
          exact hm
      · rw [countIn_none fun p hp z => hm (List.mem_map.mpr ⟨p, hp, z⟩)]
        refine iteT (q1 ?_ _ e1)
        unfold lacks
        rw [List.any_eq_true]
        exact ⟨q, List.mem_of_getElem? h1, by rw [decide_eq_false hm]; rfl⟩
    · rintro σ H' ⟨y3, y4, rfl, rfl, hin⟩
      rw [List.take_of_length_le (by rw [hu.len]; exact Nat.le_refl _)] at hin
      refine q2 ?_ _ e1
      unfold lacks
      rw [List.any_eq_false]
      intro q hq
      rw [decide_eq_true (hin q hq)]
      decide
def spNumbers (K : PySem.W.Frag) : Sp := fun vs H Q _ => ∃ (a : Addr) (r : List Cell) (v c o : Nat), vs = [.ref a, .int (v : Int), .int (c : Int), .int (o : Int)] ∧ Row K H a r ∧ 1 ≤ r.length ∧ r.length ≤ 2000 ∧ 1 ≤ v ∧ v ≤ 100000 ∧ NewRow H (nextLit r v c o) Q
theorem ok_with_numbers (T : Tx K mg) : FnOk P w K mg base CX0 3 T.a__with_numbers T.d__with_numbers P__with_numbers (spNumbers K) := by
  have G_with_kind := ok_with_kind (P := P) (w := w) (base := base) T
  refine T.f__with_numbers.ok sc__with_numbers (fun vs H Q E h => ?_) (fun cdv A outer s H vs Q E hr h => ?_)
  · obtain ⟨a, r, v, c, o, rfl, _⟩ := h
    rfl
  · obtain ⟨a, r, v, c, o, rfl, hS, hl1, hl, hv1, hv2, q⟩ := h
    refine ⟨_, (pss_cons (ps_set (i := 4) sc__with_numbers.nd rfl (.inl rfl) (pe_call G_with_kind (hr.mono (by decide)) (by rfl) T.g_with_kind T.f_with_kind.kp T.p_with_kind .nil pass0 (pa_cons (pv 0) (pa_cons (pv 1) (pa_cons (pv 3) pa_nil)))))
    (pss_one (ps_ret (pe_revL (pe_call G_with_kind (hr.mono (by decide)) (by rfl) T.g_with_kind T.f_with_kind.kp T.p_with_kind .nil pass0 (pa_cons (pe_revL (pv 4)) (pa_cons (pv 1) (pa_cons (pv 2) pa_nil)))))))), ?_⟩
    have pl : (nextRow r v o).length = r.length := nextRow_len ..
    refine ⟨_, rfl, _, rfl, _, rfl, a, r, v, o, rfl, hS, hl1, hl, hv1, hv2, fun p H2 e2 hp ep => ?_⟩
    refine ⟨_, rfl, p, _, rfl, .of ep, fun p2 hp2 => ?_⟩
    rw [← List.map_reverse]
    (generalize hh : upd H2 p2 _ = H3; have e3 : Ex H2 H3 := (by rw [← hh]; exact Ex.nw hp2); have c3 := (show H3 p2 = some _ by rw [← hh]; exact upd_same); clear hh)
    refine ⟨_, rfl, _, rfl, p2, (nextRow r v o).reverse, v, c, rfl, .of c3, by rw [List.length_reverse, pl]; exact hl1, by rw [List.length_reverse, pl]; exact hl, hv1, hv2, fun p3 H4 e4 hp3 ep3 => ?_⟩
    refine ⟨p3, _, rfl, .of ep3, fun p4 hp4 => ?_⟩
    rw [← List.map_reverse, turn_next (by omega)]
    exact q p4 _ (((e2.tr e3).tr e4).tr (Ex.nw hp4)) (none_back ((e2.tr e3).tr e4) hp4) upd_same
theorem gen_worth {ps : List (Int × Int)} (h : ∀ p ∈ ps, 1 ≤ p.1 ∧ p.1 ≤ 5000 ∧ 0 ≤ p.2 ∧ p.2 ≤ 2000000) : worthP ps = (lowOf ps : Int) :=
  (Int.toNat_of_nonneg (worthP_nn fun p hp => by have := h p hp; omega)).symm
theorem ok_scales (T : Tx K mg) : FnOk P w K mg base (L2.CX P w) 4 T.a_scales T.d_scales P_scales (spScales K T.c_NoKind T.c_NoSum) := by
  have G__check_purse := ok_check_purse (P := P) (w := w) (base := base) T
  have G_worth := ok_worth (P := P) (w := w) (base := base) T
  have G__with_numbers := ok_with_numbers (P := P) (w := w) (base := base) T
  refine T.f_scales.okX sc_scales (fun vs H Q E h => ?_) (fun cdv A outer s H vs Q E hr h => ?_)
  · obtain ⟨t, u, ps, us, rfl, _⟩ := h
    rfl
  · obtain ⟨t, u, ps, us, rfl, hT, hU, hg, qk, qs, q0⟩ := h
    refine ⟨_, (pss_cons (ps_expr (pe_call G__check_purse (hr.mono (by decide)) (by rfl) T.g__check_purse T.f__check_purse.kp T.p__check_purse .nil (passes_call (takes_of rfl rfl rfl rfl) fun _ _ _ _ h => h) (pa_cons (pv 0) (pa_cons (pv 1) pa_nil))))
    (pss_cons (ps_set (i := 2) sc_scales.nd rfl (.inl rfl) (pe_call G_worth (hr.mono (by decide)) (by rfl) T.g_worth T.f_worth.kp T.p_worth .nil pass0 (pa_cons (pv 0) pa_nil)))
    (pss_cons (ps_set (i := 3) sc_scales.nd rfl (.inl rfl) (pe_call G_worth (hr.mono (by decide)) (by rfl) T.g_worth T.f_worth.kp T.p_worth .nil pass0 (pa_cons (pv 1) pa_nil)))
    (pss_cons (ps_if (pt_cmpR op_gt (pe_op op_add (pv 2) (pv 3)) (pe_glob (v := .int 1500) (by rfl) T.w_MOST_WORTH.choose_spec ⟨_, rfl⟩) (nomark _))
      (pss_one (ps_raise rfl (takes_of rfl rfl rfl rfl) (pmk_own PySem.F.excBase_ValueError T.x_NoSum T.g_NoSum T.k_NoSum (raises_own T.b_NoSum T.t_NoSum) rfl)))
      pss_nil)
    (pss_cons (ps_set (i := 4) sc_scales.nd rfl (.inl rfl) (pe_callTy (call_dictP rfl) (by rfl) T.m_dict (by decide +kernel) (pa_cons (pv 1) pa_nil)))
    (pss_cons (ps_set (i := 5) sc_scales.nd rfl (.inl rfl) (pe_op op_cat (pe_op op_cat (pe_op op_rep (pe_lst (pa_cons pe_non pa_nil)) (pv 2)) (pe_lst (pa_cons pe_int pa_nil))) (pe_op op_rep (pe_lst (pa_cons pe_non pa_nil)) (pv 3))))
    (pss_cons (ps_set (i := 6) sc_scales.nd rfl (.inl rfl) (pe_lst (pa_cons (pv 5) pa_nil)))
    (pss_cons (ps_for (passes_of rfl) rfl (pi_list (pv 0)) (pg_tup rfl (pgs_cons (pg_name (i := 7) sc_scales.nd rfl (.inl rfl)) (pgs_cons (pg_name (i := 8) sc_scales.nd rfl (.inl rfl)) pgs_nil)))
      (pss_cons (ps_set (i := 5) sc_scales.nd rfl (.inl rfl) (pe_call G__with_numbers (hr.mono (by decide)) (by rfl) T.g__with_numbers T.f__with_numbers.kp T.p__with_numbers .nil pass0 (pa_cons (pv 5) (pa_cons (pv 7) (pa_cons (pv 8) (pa_cons (pe_dget2 (hu_of hr) (pv 4) (pv 7) pe_int ⟨by rfl, by rfl, by rfl, by rfl⟩) pa_nil))))))
      (pss_one (ps_expr (pe_bm PySem.F.plainAttrs_list PySem.F.slot_list_append PySem.F.type_list_append mt_append (pv 6) (pa_cons (pv 5) pa_nil))))))
    (pss_one (ps_ret (pv 6))))))))))), ?_⟩
    have hwp := gen_worth hg.vp
    have hwu := gen_worth hg.vu
    refine ⟨_, rfl, _, rfl, t, u, ps, us, rfl, hT, hU, rising_nd hg.rp, fun hl => qk (by unfold dueS; rw [if_pos hl]), fun hl H2 e2 => ?_⟩
    have hl' : ¬ lacks ps us = true := by rw [hl]; decide
    refine ⟨_, rfl, t, ps, rfl, hT.ex e2, by have := hg.lp; omega, fun p hp => by have := hg.vp p hp; omega, fun H3 e3 => ?_⟩
    rw [hwp]
    refine ⟨_, rfl, u, us, rfl, (hU.ex e2).ex e3, by have := hg.lu; omega, fun p hp => by have := hg.vu p hp; omega, fun H4 e4 => ?_⟩
    rw [hwu]
    have ex4 := (e2.tr e3).tr e4
    refine ⟨_, rfl, _, rfl, _, _, rfl, rfl, _, _, rfl, rfl, _, rfl, iteD (fun e => ?_) (fun e => ?_)⟩
    · have e' : (lowOf ps : Int) + (lowOf us : Int) > 1500 := e
      exact qs (by unfold dueS; rw [if_neg hl', if_pos (by omega)]) _ ex4
    have e' : ¬ (lowOf ps : Int) + (lowOf us : Int) > 1500 := e
    have q1 := q0 (by unfold dueS; rw [if_neg hl', if_neg (by omega)])
    unfold scalesOf at q1
    obtain ⟨ys, hSu, hu⟩ := hU
    obtain ⟨bs, rfl, hdu⟩ := prs_dk (K := K) (hu.ex ex4)
    refine ⟨_, rfl, u, bs, dkP us, rfl, ex4.seq hSu, hdu, fun hd hhd => ?_⟩
    (generalize hh : upd H4 hd _ = H5; have e5 : Ex H4 H5 := (by rw [← hh]; exact Ex.nw hhd); have cd := (show H5 hd = some _ by rw [← hh]; exact upd_same); clear hh)
    generalize hlo : lowOf ps = low at *
    generalize hhi : lowOf us = high at *
    have hrl : (row0L low high).length = low + high + 1 := row0L_len ..
    refine ⟨len63 (by show 1 ≤ _; decide), fun l1 hl1 => ?_⟩
    (generalize hh : upd H5 l1 _ = H6; have e6 : Ex H5 H6 := (by rw [← hh]; exact Ex.nw hl1); have c1 := (show H6 l1 = some _ by rw [← hh]; exact upd_same); clear hh)
    refine ⟨_, rfl, l1, _, _, rfl, rfl, c1, by omega, by omega, len63 (by rw [Int.toNat_natCast]; show 1 * low ≤ _; omega), fun l2 hl2 => ?_⟩
    rw [Int.toNat_natCast]
    (generalize hh : upd H6 l2 _ = H7; have e7 : Ex H6 H7 := (by rw [← hh]; exact Ex.nw hl2); have c2 := (show H7 l2 = some _ by rw [← hh]; exact upd_same); clear hh)
    refine ⟨len63 (by show 1 ≤ _; decide), fun l3 hl3 => ?_⟩
    (generalize hh : upd H7 l3 _ = H8; have e8 : Ex H7 H8 := (by rw [← hh]; exact Ex.nw hl3); have c3 := (show H8 l3 = some _ by rw [← hh]; exact upd_same); clear hh)
    refine ⟨l2, l3, _, _, rfl, rfl, e8 _ _ c2, c3, len63 (by simp; omega), fun l4 hl4 => ?_⟩
    (generalize hh : upd H8 l4 _ = H9; have e9 : Ex H8 H9 := (by rw [← hh]; exact Ex.nw hl4); have c4 := (show H9 l4 = some _ by rw [← hh]; exact upd_same); clear hh)
    refine ⟨len63 (by show 1 ≤ _; decide), fun l5 hl5 => ?_⟩
    (generalize hh : upd H9 l5 _ = H10; have e10 : Ex H9 H10 := (by rw [← hh]; exact Ex.nw hl5); have c5 := (show H10 l5 = some _ by rw [← hh]; exact upd_same); clear hh)
    refine ⟨_, rfl, l5, _, _, rfl, rfl, c5, by omega, by omega, len63 (by rw [Int.toNat_natCast]; show 1 * high ≤ _; omega), fun l6 hl6 => ?_⟩
    rw [Int.toNat_natCast]
    (generalize hh : upd H10 l6 _ = H11; have e11 : Ex H10 H11 := (by rw [← hh]; exact Ex.nw hl6); have c6 := (show H11 l6 = some _ by rw [← hh]; exact upd_same); clear hh)
    refine ⟨l4, l6, _, _, rfl, rfl, e11 _ _ (e10 _ _ c4), c6, len63 (by simp; omega), fun l7 hl7 => ?_⟩
    rw [scl0]
    (generalize hh : upd H11 l7 _ = H12; have e12 : Ex H11 H12 := (by rw [← hh]; exact Ex.nw hl7); have c7 := (show H12 l7 = some _ by rw [← hh]; exact upd_same); clear hh)
    have ex5 := ex4.tr e5
    have ex12 : Ex H5 H12 := (((((e6.tr e7).tr e8).tr e9).tr e10).tr e11).tr e12
    have hl70 : H l7 = none := none_back ((((((ex5.tr e6).tr e7).tr e8).tr e9).tr e10).tr e11) hl7
    refine ⟨_, rfl, len63 (by show 1 ≤ _; decide), fun R hR => ?_⟩
    have exA := ex5.tr ex12
    have hR0 : H R = none := none_back exA hR
    have n7R : l7 ≠ R := ne_of_none c7 hR
    obtain ⟨xs, hS, hp⟩ := hT
    have cd12 := ex12 _ _ cd
    refine ⟨_, rfl, t, rfl, ⟨xs, (exA.tr (Ex.nw hR)).seq hS⟩, for_list (xs := xs) (fun i σ H' => ∃ as b y7 y8, σ = [some (.ref t), some (.ref u), some (.int (low : Int)), some (.int (high : Int)), some (.ref hd), some (.ref b), some (.ref R), y7, y8] ∧ Ex H H' ∧ H' hd = some (.dK (mergeK [] (dkP us))) ∧ (∀ x ∈ R :: as, H x = none) ∧ (R :: as).Nodup ∧
        H' R = some (.lst (as.map V.ref)) ∧ RowsAt H' as (rowsL (row0L low high) ((kindsOf ps us).take i)) ∧ H' b = some (.lst ((lastL (row0L low high) ((kindsOf ps us).take i)).map vO)))
      ⟨[l7], l7, _, _, rfl, exA.tr (Ex.nw hR), (Ex.nw hR) _ _ cd12, ?_, ?_, upd_same, .cons ((Ex.nw hR) _ _ c7) .nil, (Ex.nw hR) _ _ c7⟩ (fun i σ H' _ h => by
        obtain ⟨_, _, _, _, _, e, _⟩ := h
        exact e.seq hS) ?_ ?_⟩
    · intro x hx
      rcases List.mem_cons.mp hx with e | e
      · exact e ▸ hR0
      · rw [List.mem_singleton.mp e]
        exact hl70
    · rw [List.nodup_cons, List.mem_singleton]
      exact ⟨fun e => n7R e.symm, List.nodup_cons.mpr ⟨by simp, List.nodup_nil⟩⟩
    · rintro i x σ H5 hx ⟨as, b, y7, y8, rfl, ex, ehd, hfr, hnd, eR, hrows, eb⟩
      obtain ⟨p, t2, h1, rfl, h3⟩ := Prs.get hp hx
      have hpm := hg.vp p (List.mem_of_getElem? h1)
      have hi : i < ps.length := (List.getElem?_eq_some_iff.mp h1).1
      have hll : (lastL (row0L low high) ((kindsOf ps us).take i)).length = low + high + 1 := by rw [lastL_len, hrl]
      have hkk := kindsOf_at (us := us) h1
      have hown : 0 ≤ ownOf us p.1 := by
        unfold ownOf
        cases e : countIn us p.1 with
        | none => exact Int.le_refl _
        | some c => exact (hg.vu _ (countIn_mem e)).2.2.1
      refine ⟨t2, _, rfl, .of (ex _ _ h3), rfl, _, _, rfl, _, _, rfl, rfl, ?_⟩
      refine ⟨_, rfl, _, rfl, _, rfl, _, rfl, hd, rfl, .inl ⟨_, .inl ehd⟩, _, rfl, _, DGet.k (k := Sum.inl p.1) ehd, ?_⟩
      rw [dict_val (rising_nd hg.ru), show (Option.map V.int (countIn us p.1)).getD (.int 0) = .int (ownOf us p.1) by unfold ownOf; cases countIn us p.1 <;> rfl]
      refine ⟨b, _, p.1.toNat, p.2.toNat, (ownOf us p.1).toNat, by rw [Int.toNat_of_nonneg (by omega), Int.toNat_of_nonneg (by omega), Int.toNat_of_nonneg hown]; rfl, .of eb, by omega, by omega, by omega, by omega, fun p' H6 e6 hp' ep' => ?_⟩
      rw [show nextLit (lastL (row0L low high) ((kindsOf ps us).take i)) p.1.toNat p.2.toNat (ownOf us p.1).toNat = stepL (lastL (row0L low high) ((kindsOf ps us).take i)) (p.1, p.2, ownOf us p.1) from rfl, ← lastL_snoc, ← take_snoc hkk] at ep'
      have hal := hrows.len
      rw [rowsL_len, List.length_take, kindsOf_len] at hal
      refine ⟨_, rfl, .inl ⟨rfl, _, .of (e6 _ _ eR)⟩, _, rfl, R, _, _, rfl, rfl, e6 _ _ eR, len63' (by rw [List.length_map]; have := hg.lp; omega), ?_⟩
      have hRa : R ∉ as := (List.nodup_cons.mp hnd).1
      have hpR : p' ≠ R := (ne_of_none eR hp').symm
      have hdR : hd ≠ R := fun z => by rw [z, eR] at ehd; cases ehd
      have hpa : p' ∉ as := fun z => by
        obtain ⟨o, ho⟩ := hrows.mem z
        rw [ho] at hp'
        cases hp'
      refine ⟨as ++ [p'], p', _, _, rfl, Ex.mu (ex.tr e6) hR0, by rw [upd_ne hdR]; exact e6 _ _ ehd, ?_, ?_, ?_, ?_, ?_⟩
      · intro x hx
        rcases List.mem_cons.mp hx with e | e
        · exact e ▸ hR0
        · rcases List.mem_append.mp e with e | e
          · exact hfr x (List.mem_cons_of_mem _ e)
          · rw [List.mem_singleton.mp e]
            exact none_back ex hp'
      · rw [← List.cons_append]
        refine nd_snoc hnd fun z => ?_
        rcases List.mem_cons.mp z with e | e
        · exact hpR e
        · exact hpa e
      · rw [upd_same, List.map_append]
        rfl
      · rw [take_snoc hkk, rowsL_snoc, ← take_snoc hkk]
        exact RowsAt.snoc ((hrows.ex e6).up hRa) (by rw [upd_ne hpR]; exact ep')
      · rw [upd_ne hpR]
        exact ep'
    · rintro σ H5 ⟨as, b, y7, y8, rfl, ex, ehd, hfr, hnd, eR, hrows, eb⟩
      rw [List.take_of_length_le (by rw [hp.len, kindsOf_len]; exact Nat.le_refl _)] at hrows
      exact ⟨_, rfl, q1 R as H5 ex hfr hnd eR hrows⟩
/-! ### a deal, as the program gives it -/
def cellD (ps us : List (Int × Int)) (c : Int) : Cell := cellAt (lastL (row0L (lowOf ps) (lowOf us)) (kindsOf ps us)) ((lowOf ps : Int) + c)
def wayOf (ps us : List (Int × Int)) (c : Int) : List Int := wayL (row0L (lowOf ps) (lowOf us)) (kindsOf ps us) ps.length ((lowOf ps : Int) + c)
def dueDl (ps us : List (Int × Int)) (c : Int) : Str := if 0 ≤ c ∧ c ≤ 1000 then (if dueS ps us = "" then (if cellD ps us c = none then "change" else "") else dueS ps us) else "sum"
def NewDeal (H : Hp) (pa ga : List (Int × Int)) (Q : VK) : Prop := ∀ l a b xs ys H2, Ex H H2 → H l = none → H a = none → H b = none → l ≠ a → l ≠ b → a ≠ b → H2 l = some (.tup [.ref a, .ref b]) → H2 a = some (.lst xs) → H2 b = some (.lst ys) → Prs H2 xs pa → Prs H2 ys ga → Q (.ref l) H2
def spDeal (K : PySem.W.Frag) (cK cS cC : Addr) : Sp := fun vs H Q E => ∃ (t u : Addr) (ps us : List (Int × Int)) (c : Int), vs = [.ref t, .ref u, .int c] ∧ Till K H t ps ∧ Till K H u us ∧ Gen2 ps us ∧
  (dueDl ps us c = "kind" → ∀ H2, Ex H H2 → E (.ref cK) none H2) ∧ (dueDl ps us c = "sum" → ∀ H2, Ex H H2 → E (.ref cS) none H2) ∧ (dueDl ps us c = "change" → ∀ H2, Ex H H2 → E (.ref cC) none H2) ∧
  (dueDl ps us c = "" → NewDeal H (payD (kindsOf ps us) (wayOf ps us c)) (giveD (kindsOf ps us) (wayOf ps us c)) Q)
/-! ### the greatest number that goes -/
def hits (r : List Cell) (v : Nat) (d m lo : Int) (n : Nat) : List Int := ((List.range n).map fun i : Nat => lo + (i : Int)).filter fun j => decide (cellAt r (d - j * v) = some (m - (j.natAbs : Int)))
theorem hits_succ (r : List Cell) (v : Nat) (d m lo : Int) (n : Nat) : hits r v d m lo (n + 1) = hits r v d m lo n ++ (if cellAt r (d - (lo + n) * v) = some (m - ((lo + (n : Int)).natAbs : Int)) then [lo + (n : Int)] else []) := by
  unfold hits
  rw [List.range_succ, List.map_append, List.filter_append]
  congr 1
  show List.filter _ [lo + (n : Int)] = _
  by_cases h : cellAt r (d - (lo + n) * v) = some (m - ((lo + (n : Int)).natAbs : Int))
  · rw [if_pos h, List.filter_cons_of_pos (by simpa using h)]
    rfl
  · rw [if_neg h, List.filter_cons_of_neg (by simpa using h)]
    rfl
theorem hits_len (r : List Cell) (v : Nat) (d m lo : Int) (n : Nat) : (hits r v d m lo n).length ≤ n := by
  unfold hits
  refine Nat.le_trans (List.length_filter_le ..) ?_
  rw [List.length_map, List.length_range]
  exact Nat.le_refl _
theorem hits_in {r : List Cell} {v : Nat} {d m lo : Int} {n : Nat} {j : Int} : j ∈ hits r v d m lo n ↔ lo ≤ j ∧ j < lo + n ∧ cellAt r (d - j * v) = some (m - (j.natAbs : Int)) := by
  unfold hits
  rw [List.mem_filter, List.mem_map]
  constructor
  · rintro ⟨⟨i, hi, rfl⟩, h⟩
    have := List.mem_range.mp hi
    exact ⟨by omega, by omega, by simpa using h⟩
  · rintro ⟨h1, h2, h⟩
    exact ⟨⟨(j - lo).toNat, List.mem_range.mpr (by omega), by omega⟩, by simpa using h⟩
theorem hits_pick {r : List Cell} {v c o d : Nat} {m : Int} (hv : 1 ≤ v) (hd : d < r.length) (hex : ∃ i : Nat, i ≤ c + o ∧ cellAt r (d - (-(c : Int) + i) * v) = some (m - ((-(c : Int) + i).natAbs : Int))) {A B : Nat} (hA : A = min c ((r.length - 1 - d) / v)) (hB : B = min o (d / v)) :
    pickL r v c d m (c + o) ∈ hits r v d m (-(A : Int)) (A + B + 1) ∧ ∀ j ∈ hits r v d m (-(A : Int)) (A + B + 1), j ≤ pickL r v c d m (c + o) := by
  obtain ⟨h1, h2⟩ := pickL_ok hex
  have hin := pickL_in r v c d m (c + o)
  generalize pickL r v c d m (c + o) = g at h1 h2 hin
  refine ⟨hits_in.mpr ?_, fun j hj => ?_⟩
  · obtain ⟨i, hi, hil, _⟩ := of_cellAt h1
    by_cases hg : 0 ≤ g
    · obtain ⟨b, rfl⟩ : ∃ b : Nat, g = (b : Int) := ⟨g.toNat, by omega⟩
      have eb : ((b * v : Nat) : Int) = (b : Int) * v := Int.natCast_mul ..
      have : b ≤ d / v := (Nat.le_div_iff_mul_le (by omega)).mpr (by omega)
      exact ⟨by omega, by omega, h1⟩
    · obtain ⟨b, hb⟩ : ∃ b : Nat, g = -(b : Int) := ⟨(-g).toNat, by omega⟩
      subst hb
      have eb : ((b * v : Nat) : Int) = (b : Int) * v := Int.natCast_mul ..
      rw [Int.neg_mul] at hi
      have : b ≤ (r.length - 1 - d) / v := (Nat.le_div_iff_mul_le (by omega)).mpr (by omega)
      exact ⟨by omega, by omega, h1⟩
  · obtain ⟨a1, a2, a3⟩ := hits_in.mp hj
    by_cases hlt : g < j
    · exact absurd a3 (h2 j hlt (by omega))
    · omega
def spGreatest (K : PySem.W.Frag) : Sp := fun vs H Q _ => ∃ (a : Addr) (r : List Cell) (d v c o : Nat) (m : Int), vs = [.ref a, .int m, .int (d : Int), .int (v : Int), .int (c : Int), .int (o : Int)] ∧ Row K H a r ∧ d < r.length ∧ r.length ≤ 100000 ∧ 1 ≤ v ∧ v ≤ 100000 ∧
  (∃ i : Nat, i ≤ c + o ∧ cellAt r (d - (-(c : Int) + i) * v) = some (m - ((-(c : Int) + i).natAbs : Int))) ∧ ∀ H2, Ex H H2 → Q (.int (pickL r v c d m (c + o))) H2
theorem ok_greatest (T : Tx K mg) : FnOk P w K mg base CX0 1 T.a__greatest_number T.d__greatest_number P__greatest_number (spGreatest K) := by
  refine T.f__greatest_number.ok sc__greatest_number (fun vs H Q E h => ?_) (fun cdv A0 outer s H vs Q E hr h => ?_)
  · obtain ⟨a, r, d, v, c, o, m, rfl, _⟩ := h
    rfl
  · obtain ⟨a, r, d, v, c, o, m, rfl, hS, hd, hl, hv1, hv2, hex, q⟩ := h
    refine ⟨_, (pss_cons (ps_set (i := 6) sc__greatest_number.nd rfl (.inl rfl) (pe_un un_neg (pe_callB (call_min2 rfl) (by rfl) T.m_min (by decide +kernel) (pa_cons (pv 4) (pa_cons (pe_op op_fdiv (pe_op op_sub (pe_op op_sub (pe_callB call_len_seq (by rfl) T.m_len (by decide +kernel) (pa_cons (pv 0) pa_nil)) pe_int) (pv 2)) (pv 3)) pa_nil)))))
    (pss_cons (ps_set (i := 7) sc__greatest_number.nd rfl (.inl rfl) (pe_callB (call_min2 rfl) (by rfl) T.m_min (by decide +kernel) (pa_cons (pv 5) (pa_cons (pe_op op_fdiv (pv 2) (pv 3)) pa_nil))))
    (pss_one (ps_ret (pe_callB (cr_max rfl) (by rfl) T.m_max (by decide +kernel) (pa_cons (pe_lc (own := [("number", 8)]) (g := gName 8) rfl sc__greatest_number.nd (pi_range2 (by rfl) T.m_range (pa_cons (pv 6) (pa_cons (pe_op op_add (pv 7) pe_int) pa_nil))) (blkOk_by (own := [("number", 8)]) (N := N__greatest_number) (sc := defScope s__greatest_number) (by decide +kernel)) (fun _ _ _ _ _ => pg_name (i := 8) sc__greatest_number.nd rfl (.inl rfl) (.inr rfl)) (fun _ _ _ _ _ => (pts_one (pt_cmpR op_eq (pe_ix (r := rIxL K) ix_list (pv 0) (pe_op op_sub (pv 2) (pe_op op_mul (pv 8) (pv 3))) (fun _ _ => rfl)) (pe_op op_sub (pv 1) (pe_callB call_abs (by rfl) T.m_abs (by decide +kernel) (pa_cons (pv 8) pa_nil))) (nomark _)))) (fun _ _ _ _ _ => (pv 8))) pa_nil)))))), ?_⟩
    have hS' : SqL K H a (r.map vO) := hS
    have hrl : (r.map vO).length = r.length := List.length_map _
    obtain ⟨A, hA, hA2⟩ : ∃ A : Nat, (if (((r.map vO).length : Int) - 1 - (d : Int)) / (v : Int) < (c : Int) then (((r.map vO).length : Int) - 1 - (d : Int)) / (v : Int) else (c : Int)) = (A : Int) ∧ A = min c ((r.length - 1 - d) / v) := by
      rw [hrl, show ((r.length : Int) - 1 - (d : Int)) / (v : Int) = (((r.length - 1 - d) / v : Nat) : Int) by
        rw [Int.natCast_ediv]
        congr 1
        omega]
      by_cases h : (((r.length - 1 - d) / v : Nat) : Int) < (c : Int)
      · exact ⟨(r.length - 1 - d) / v, if_pos h, by omega⟩
      · exact ⟨c, if_neg h, by omega⟩
    obtain ⟨B, hB, hB2⟩ : ∃ B : Nat, (if (d : Int) / (v : Int) < (o : Int) then (d : Int) / (v : Int) else (o : Int)) = (B : Int) ∧ B = min o (d / v) := by
      rw [← Int.natCast_ediv]
      by_cases h : ((d / v : Nat) : Int) < (o : Int)
      · exact ⟨d / v, if_pos h, by omega⟩
      · exact ⟨o, if_neg h, by omega⟩
    have hAv : A * v ≤ r.length - 1 - d := by
      rw [hA2]
      exact Nat.le_trans (Nat.mul_le_mul_right _ (Nat.min_le_right ..)) (Nat.div_mul_le_self ..)
    have hBv : B * v ≤ d := by
      rw [hB2]
      exact Nat.le_trans (Nat.mul_le_mul_right _ (Nat.min_le_right ..)) (Nat.div_mul_le_self ..)
    have hAl : A ≤ 100000 := by
      have : A * 1 ≤ A * v := Nat.mul_le_mul_left _ hv1
      omega
    have hBl : B ≤ 100000 := by
      have : B * 1 ≤ B * v := Nat.mul_le_mul_left _ hv1
      omega
    refine ⟨_, rfl, _, rfl, a, _, rfl, .inl hS', _, _, rfl, rfl, _, rfl, _, _, rfl, rfl, _, rfl, _, _, rfl, rfl, ⟨by omega, by omega⟩, _, _, rfl, ?_⟩
    rw [hA]
    refine ⟨_, rfl, ?_⟩
    refine ⟨_, rfl, _, rfl, _, rfl, _, _, rfl, rfl, ⟨by omega, by omega⟩, _, _, rfl, ?_⟩
    rw [hB]
    refine ⟨_, rfl, _, rfl, _, _, rfl, rfl, _, _, rfl, ⟨by omega, by omega, by omega, by omega⟩, fun D hD => ?_⟩
    rw [show ((B : Int) + 1 - -(A : Int)).toNat = A + B + 1 by omega]
    refine lc_range (fun i H' => Ex H H' ∧ H' D = some (.lst ((hits r v d m (-(A : Int)) i).map V.int))) ⟨Ex.nw hD, upd_same⟩ ?_ ?_
    · rintro i H' hi ⟨ex, eD⟩
      have hhl := hits_len r v d m (-(A : Int)) i
      have hsu := hits_succ r v d m (-(A : Int)) i
      generalize hj : -(A : Int) + (i : Int) = j at hsu ⊢
      have eA : ((A * v : Nat) : Int) = (A : Int) * v := Int.natCast_mul ..
      have eB : ((B * v : Nat) : Int) = (B : Int) * v := Int.natCast_mul ..
      have j1 : -(A : Int) * (v : Int) ≤ j * (v : Int) := Int.mul_le_mul_of_nonneg_right (by omega) (by omega)
      have j2 : j * (v : Int) ≤ (B : Int) * (v : Int) := Int.mul_le_mul_of_nonneg_right (by omega) (by omega)
      rw [Int.neg_mul] at j1
      have z0 : 0 ≤ (d : Int) - j * (v : Int) := by omega
      have z1 : (d : Int) - j * (v : Int) < (r.length : Int) := by omega
      have hcz : cellAt r ((d : Int) - j * (v : Int)) = rAt r ((d : Int) - j * (v : Int)).toNat := if_pos ⟨z0, z1⟩
      have a1 : atI (r.map vO) ((d : Int) - j * (v : Int)) = some (vO (cellAt r ((d : Int) - j * (v : Int)))) := at_of (j := ((d : Int) - j * (v : Int)).toNat) (by omega) (by rw [hcz]; exact vO_at (by omega))
      have hab : (if j < 0 then -j else j) = (j.natAbs : Int) := by split <;> omega
      refine ⟨rfl, ?_⟩
      refine ⟨_, rfl, _, rfl, _, rfl, _, rfl, _, _, rfl, rfl, .inr ⟨by omega, by omega⟩, _, _, rfl, rfl, a, _, _, _, rfl, rfl, ex.seq hS', a1, ?_⟩
      refine ⟨_, rfl, _, rfl, _, rfl, ?_⟩
      rw [hab]
      refine ⟨_, _, rfl, rfl, vO_scal _ _, _, rfl, iteD (fun e => ?_) (fun e => ?_)⟩
      · rw [if_pos (vO_int.mp e)] at hsu
        refine ⟨_, rfl, _, eD, len63' (by rw [List.length_map]; omega), Ex.mu ex hD, ?_⟩
        rw [upd_same, hsu, List.map_append]
        rfl
      · rw [if_neg fun z => e (vO_int.mpr z), List.append_nil] at hsu
        rw [hsu]
        exact ⟨ex, eD⟩
    · rintro H' ⟨ex, eD⟩
      obtain ⟨p1, p2⟩ := hits_pick hv1 hd hex hA2 hB2
      refine ⟨D, _, rfl, .of eD, List.length_pos_of_mem p1, fun M hM1 hM2 => ?_⟩
      have : M = pickL r v c d m (c + o) := Int.le_antisymm (p2 M hM1) (hM2 _ p1)
      rw [this]
      exact q _ ex
/-! ### the way, as pairs -/
def pairsW (ks : List Kd) (w : List Int) : List (Int × Int) := (ks.zip w).map fun x => (x.1.1, x.2)
theorem pairsW_snoc {ks : List Kd} {w : List Int} {p : Kd} {j : Int} (h : ks.length = w.length) : pairsW (ks ++ [p]) (w ++ [j]) = pairsW ks w ++ [(p.1, j)] := by
  unfold pairsW
  rw [List.zip_append h, List.map_append]
  rfl
theorem pairsW_len {ks : List Kd} {w : List Int} (h : ks.length = w.length) : (pairsW ks w).length = ks.length := by
  unfold pairsW
  rw [List.length_map, List.length_zip, h, Nat.min_self]
theorem payD_eq (ks : List Kd) (w : List Int) : payD ks w = (pairsW ks w).filter fun p => decide (0 < p.2) := by
  unfold payD pairsW
  rw [List.filter_map]
  rfl
theorem giveD_eq (ks : List Kd) (w : List Int) : giveD ks w = ((pairsW ks w).filter fun p => decide (p.2 < 0)).map fun p => (p.1, -p.2) := by
  unfold giveD pairsW
  rw [List.filter_map, List.map_map]
  rfl
def spBestWay (K : PySem.W.Frag) : Sp := fun vs H Q _ => ∃ (R t u : Addr) (as : List Addr) (ps us : List (Int × Int)) (low high : Nat) (d m : Int), vs = [.ref R, .ref t, .ref u, .int d] ∧ H R = some (.lst (as.map V.ref)) ∧ RowsAt H as (rowsL (row0L low high) (kindsOf ps us)) ∧ Till K H t ps ∧ Till K H u us ∧ Gen2 ps us ∧ low + high ≤ 2000 ∧
  cellAt (lastL (row0L low high) (kindsOf ps us)) d = some m ∧ ∀ p xs H2, Ex H H2 → H p = none → H2 p = some (.lst xs) → Prs H2 xs (pairsW (kindsOf ps us) (wayL (row0L low high) (kindsOf ps us) ps.length d)) → Q (.ref p) H2
theorem ok_best_way (T : Tx K mg) : FnOk P w K mg base CX0 2 T.a__best_way T.d__best_way P__best_way (spBestWay K) := by
  have G__greatest_number := ok_greatest (P := P) (w := w) (base := base) T
  refine T.f__best_way.ok sc__best_way (fun vs H Q E h => ?_) (fun cdv A outer s H vs Q E hr h => ?_)
  · obtain ⟨R, t, u, as, ps, us, low, high, d, m, rfl, _⟩ := h
    rfl
  · obtain ⟨R, t, u, as, ps, us, low, high, d, m, rfl, eR, hrows, ⟨xs, hS, hp⟩, ⟨ys, hSu, hu⟩, hg, hlh, hm, q⟩ := h
    refine ⟨_, (pss_cons (ps_set (i := 4) sc__best_way.nd rfl (.inl rfl) (pe_callTy (call_dictP rfl) (by rfl) T.m_dict (by decide +kernel) (pa_cons (pv 2) pa_nil)))
    (pss_cons (ps_set (i := 5) sc__best_way.nd rfl (.inl rfl) (pe_lst pa_nil))
    (pss_cons (ps_for PassesOwn.never rfl (pi_revR (by rfl) T.m_reversed (prg_1 (by rfl) T.m_range (pe_callB call_len_seq (by rfl) T.m_len (by decide +kernel) (pa_cons (pv 1) pa_nil)))) (pg_name (i := 6) sc__best_way.nd rfl (.inl rfl))
      (pss_cons (ps_asg (pe_ix ix_list (pv 1) (pv 6) (fun _ _ => rfl)) (pg_tup rfl (pgs_cons (pg_name (i := 7) sc__best_way.nd rfl (.inl rfl)) (pgs_cons (pg_name (i := 8) sc__best_way.nd rfl (.inl rfl)) pgs_nil))))
      (pss_cons (ps_set (i := 9) sc__best_way.nd rfl (.inl rfl) (pe_call G__greatest_number (hr.mono (by decide)) (by rfl) T.g__greatest_number T.f__greatest_number.kp T.p__greatest_number .nil pass0 (pa_cons (pe_ix ix_list (pv 0) (pv 6) (fun _ _ => rfl)) (pa_cons (pe_ix ix_list (pe_ix ix_list (pv 0) (pe_op op_add (pv 6) pe_int) (fun _ _ => rfl)) (pv 3) (fun _ _ => rfl)) (pa_cons (pv 3) (pa_cons (pv 7) (pa_cons (pv 8) (pa_cons (pe_dget2 (hu_of hr) (pv 4) (pv 7) pe_int ⟨by rfl, by rfl, by rfl, by rfl⟩) pa_nil))))))))
      (pss_cons (ps_expr (pe_bm PySem.F.plainAttrs_list PySem.F.slot_list_append PySem.F.type_list_append mt_append (pv 5) (pa_cons (pe_tup (pa_cons (pv 7) (pa_cons (pv 9) pa_nil))) pa_nil)))
      (pss_one (ps_aug (i := 3) sc__best_way.nd rfl (.inl rfl) (pe_op op_mul (pv 9) (pv 7)) ip_sub))))))
    (pss_one (ps_ret (pe_revL (pv 5))))))), ?_⟩
    obtain ⟨bs, rfl, hdu⟩ := prs_dk (K := K) hu
    have hpl := hp.len
    have hkl : (kindsOf ps us).length = ps.length := kindsOf_len ..
    have hl12 := hg.lp
    have hll : ∀ j, (lastL (row0L low high) ((kindsOf ps us).take j)).length = low + high + 1 := fun j => by rw [lastL_len, row0L_len]
    refine ⟨_, rfl, u, bs, dkP us, rfl, hSu, hdu, fun hd hhd => ?_⟩
    (generalize hh : upd H hd _ = H1; have e1 : Ex H H1 := (by rw [← hh]; exact Ex.nw hhd); have cd := (show H1 hd = some _ by rw [← hh]; exact upd_same); clear hh)
    refine ⟨Nat.zero_le _, fun ch hch => ?_⟩
    have hch0 : H ch = none := none_back e1 hch
    have e2 := e1.tr (Ex.nw (o := .lst []) hch)
    have ndc : hd ≠ ch := ne_of_none cd hch
    refine ⟨_, rfl, t, xs, rfl, .inl (e2.seq hS), _, rfl, by omega, by omega, by omega, by omega, ?_⟩
    refine for_rangeC (fun i σ H' => ∃ (k : Nat) (dk x : Int) (zs : List V) (acc : List (Int × Int)) (y6 y7 y8 y9 : Option V), k + i = ps.length ∧ σ = [some (.ref R), some (.ref t), some (.ref u), some (.int dk), some (.ref hd), some (.ref ch), y6, y7, y8, y9] ∧
      Ex H H' ∧ H' hd = some (.dK (mergeK [] (dkP us))) ∧ H' ch = some (.lst zs) ∧ Prs H' zs acc ∧ cellAt (lastL (row0L low high) ((kindsOf ps us).take k)) dk = some x ∧
      pairsW (kindsOf ps us) (wayL (row0L low high) (kindsOf ps us) ps.length d) = pairsW ((kindsOf ps us).take k) (wayL (row0L low high) (kindsOf ps us) k dk) ++ acc.reverse ∧ acc.length = i)
      ⟨ps.length, d, m, [], [], none, none, none, none, rfl, rfl, e2, (Ex.nw hch) _ _ cd, upd_same, .nil, by rw [← hkl, List.take_length]; exact hm, by rw [← hkl, List.take_length]; simp, rfl⟩ ?_ ?_
    · rintro i σ H' hi ⟨k, dk, x, zs, acc, y6, y7, y8, y9, hki, rfl, ex, ehd, ech, hacc, hx, hgv, hal⟩
      have hi' : i < ps.length := by omega
      obtain ⟨j, rfl⟩ : ∃ j, k = j + 1 := ⟨k - 1, by omega⟩
      have ej : (0 : Int) + ((((xs.length : Int) - 0).toNat : Nat) : Int) - 1 + (i : Int) * -1 = (j : Int) := by omega
      rw [ej]
      have hj : j < ps.length := by omega
      obtain ⟨t2, hx0, h3⟩ := Prs.getL hp (List.getElem?_eq_getElem hj)
      have hpj := List.getElem?_eq_getElem hj
      have hpv := hg.vp _ (List.getElem_mem hj)
      generalize ps[j] = p at hpj h3 hpv
      have hkj := kindsOf_at (us := us) hpj
      have hown : 0 ≤ ownOf us p.1 := by
        unfold ownOf
        cases e : countIn us p.1 with
        | none => exact Int.le_refl _
        | some c => exact (hg.vu _ (countIn_mem e)).2.2.1
      refine ⟨_, rfl, _, rfl, t, xs, _, _, rfl, rfl, ex.seq hS, at_of rfl hx0, t2, _, rfl, .of (ex _ _ h3), rfl, _, _, rfl, _, _, rfl, rfl, ?_⟩
      have hrows' := hrows.ex ex
      obtain ⟨b, ib, _, eb⟩ := at_row hrows' (i := (j : Int)) (k := j) rfl (rowsL_at _ _ (by omega))
      obtain ⟨b1, ib1, _, eb1⟩ := at_row hrows' (i := (j : Int) + 1) (k := j + 1) rfl (rowsL_at _ _ (by omega))
      have eR' := ex _ _ eR
      obtain ⟨dn, hdn, hdl, hdx⟩ := of_cellAt hx
      subst hdn
      rw [hll] at hdl
      refine ⟨_, rfl, _, rfl, R, _, _, .ref b, rfl, rfl, .of eR', ib, ?_⟩
      refine ⟨_, rfl, _, rfl, _, _, rfl, rfl, R, _, _, .ref b1, rfl, rfl, .of eR', ib1, _, rfl, b1, _, _, _, rfl, rfl, .of eb1, at_of rfl (vO_at (by rw [hll]; omega)), _, rfl, _, rfl, _, rfl, ?_⟩
      rw [hdx]
      refine ⟨_, rfl, hd, rfl, .inl ⟨_, .inl ehd⟩, _, rfl, _, DGet.k (k := Sum.inl p.1) ehd, ?_⟩
      rw [dict_val (rising_nd hg.ru), show (Option.map V.int (countIn us p.1)).getD (.int 0) = .int (ownOf us p.1) by unfold ownOf; cases countIn us p.1 <;> rfl]
      obtain ⟨g1, g2, g3, _⟩ := stepL_ok hkj hx rfl
      have gs := wayL_succ (row0L low high) (kindsOf ps us) j (dn : Int) hkj (g := pickK (lastL (row0L low high) ((kindsOf ps us).take j)) (p.1, p.2, ownOf us p.1) (dn : Int) x) (by rw [hx]; rfl)
      have hback : ∃ i : Nat, i ≤ p.2.toNat + (ownOf us p.1).toNat ∧ cellAt (lastL (row0L low high) ((kindsOf ps us).take j)) ((dn : Int) - (-(p.2.toNat : Int) + i) * p.1.toNat) = some (x - ((-(p.2.toNat : Int) + i).natAbs : Int)) := by
        have hx2 := hx
        rw [take_snoc hkj, lastL_snoc] at hx2
        obtain ⟨_, _, hl⟩ := cellAt_next hx2
        exact back_oneL hl
      refine ⟨b, _, dn, p.1.toNat, p.2.toNat, (ownOf us p.1).toNat, x, by rw [Int.toNat_of_nonneg (by omega), Int.toNat_of_nonneg (by omega), Int.toNat_of_nonneg hown]; rfl, .of eb, by rw [hll]; omega, by rw [hll]; omega, by omega, by omega, hback, fun H3 e3 => ?_⟩
      change wayL _ _ _ _ = wayL _ _ _ (_ - pickL (lastL (row0L low high) ((kindsOf ps us).take j)) p.1.toNat p.2.toNat (dn : Int) x (p.2.toNat + (ownOf us p.1).toNat) * _) ++ [pickL (lastL (row0L low high) ((kindsOf ps us).take j)) p.1.toNat p.2.toNat (dn : Int) x (p.2.toNat + (ownOf us p.1).toNat)] at gs
      change -(p.2.toNat : Int) ≤ pickL (lastL (row0L low high) ((kindsOf ps us).take j)) p.1.toNat p.2.toNat (dn : Int) x (p.2.toNat + (ownOf us p.1).toNat) at g1
      change pickL (lastL (row0L low high) ((kindsOf ps us).take j)) p.1.toNat p.2.toNat (dn : Int) x (p.2.toNat + (ownOf us p.1).toNat) ≤ _ at g2
      change cellAt _ (_ - pickL (lastL (row0L low high) ((kindsOf ps us).take j)) p.1.toNat p.2.toNat (dn : Int) x (p.2.toNat + (ownOf us p.1).toNat) * _) = some (_ - ((pickL (lastL (row0L low high) ((kindsOf ps us).take j)) p.1.toNat p.2.toNat (dn : Int) x (p.2.toNat + (ownOf us p.1).toNat)).natAbs : Int)) at g3
      generalize pickL (lastL (row0L low high) ((kindsOf ps us).take j)) p.1.toNat p.2.toNat (dn : Int) x (p.2.toNat + (ownOf us p.1).toNat) = g at g1 g2 g3 gs ⊢
      have hpv1 : (p.1.toNat : Int) = p.1 := Int.toNat_of_nonneg (by omega)
      have ech3 := e3 _ _ ech
      have hacc3 := hacc.ex e3
      refine ⟨_, rfl, .inl ⟨rfl, zs, .of ech3⟩, _, rfl, _, rfl, len63 (by show 2 ≤ _; decide), fun t3 ht3 => ?_⟩
      have nct : ch ≠ t3 := ne_of_none ech3 ht3
      have ech' : (upd H3 t3 (.tup [.int p.1, .int g])) ch = some (.lst zs) := by rw [upd_ne nct]; exact ech3
      refine ⟨ch, zs, _, rfl, rfl, ech', len63' (by rw [hacc.len]; omega), ?_⟩
      refine ⟨_, rfl, _, rfl, _, rfl, _, _, rfl, rfl, .inr ⟨by omega, by omega⟩, _, _, rfl, rfl, ?_⟩
      refine ⟨j, (dn : Int) - g * p.1, x - (g.natAbs : Int), zs ++ [.ref t3], acc ++ [(p.1, g)], some (.int (j : Int)), some (.int p.1), some (.int p.2), some (.int g), by omega, rfl, Ex.mu ((ex.tr e3).tr (Ex.nw ht3)) hch0, ?_, upd_same, ?_, ?_, ?_, by rw [List.length_append, hal]; rfl⟩
      · rw [upd_ne ndc]
        exact (Ex.nw ht3) _ _ (e3 _ _ ehd)
      · refine Prs.up (by intro ys y; rw [ech'] at y; cases y) ?_
        exact Prs.snoc (hacc3.ex (Ex.nw ht3)) ⟨t3, rfl, upd_same⟩
      · rw [← hpv1]
        exact g3
      · rw [hgv, gs, take_snoc hkj, pairsW_snoc (by rw [wayL_len, List.length_take]; omega), List.reverse_append, List.append_assoc]
        rw [show ((p.1, p.2, ownOf us p.1) : Kd).1.toNat = p.1.toNat from rfl, hpv1]
        rfl
    · rintro σ H' ⟨k, dk, x, zs, acc, y6, y7, y8, y9, hki, rfl, ex, ehd, ech, hacc, hx, hgv, hal⟩
      obtain rfl : k = 0 := by omega
      refine ⟨_, rfl, ch, zs, rfl, .of ech, fun p hp2 => ?_⟩
      refine q p _ _ (ex.tr (Ex.nw hp2)) (none_back ex hp2) upd_same ?_
      rw [hgv]
      exact (Prs.rev hacc).ex (Ex.nw hp2)
theorem at_lastL {H : Hp} {as : List Addr} {r0 : List Cell} {ks : List Kd} (h : RowsAt H as (rowsL r0 ks)) : ∃ a, atI (as.map V.ref) (-1) = some (.ref a) ∧ as[ks.length]? = some a ∧ H a = some (.lst ((lastL r0 ks).map vO)) := by
  obtain ⟨a, h1, h2⟩ := h.get (rowsL_at _ _ (Nat.le_refl _))
  rw [List.take_length] at h2
  refine ⟨a, ?_, h1, h2⟩
  have hal : (as.map V.ref).length = ks.length + 1 := by rw [List.length_map, h.len, rowsL_len]
  unfold atI
  rw [show ixN (as.map V.ref).length (-1) = some ks.length by
    unfold ixN
    rw [if_neg (by omega), if_pos (by omega)]
    congr 1
    omega]
  show (as.map V.ref)[ks.length]? = _
  rw [List.getElem?_map, h1]
  rfl
theorem ok_deal (T : Tx K mg) : FnOk P w K mg base (L2.CX P w) 5 T.a_deal T.d_deal P_deal (spDeal K T.c_NoKind T.c_NoSum T.c_NoChange) := by
  have G_check_sum := ok_check_sum (P := P) (w := w) (base := base) T
  have G_scales := ok_scales (P := P) (w := w) (base := base) T
  have G_worth := ok_worth (P := P) (w := w) (base := base) T
  have G__best_way := ok_best_way (P := P) (w := w) (base := base) T
  refine T.f_deal.okX sc_deal (fun vs H Q E h => ?_) (fun cdv A outer s H vs Q E hr h => ?_)
  · obtain ⟨t, u, ps, us, c, rfl, _⟩ := h
    rfl
  · obtain ⟨t, u, ps, us, c, rfl, hT, hU, hg, qk, qs, qc, q⟩ := h
    refine ⟨_, (pss_cons (ps_expr (pe_call G_check_sum (hr.mono (by decide)) (by rfl) T.g_check_sum T.f_check_sum.kp T.p_check_sum .nil (passes_call (takes_of rfl rfl rfl rfl) fun _ _ _ _ h => h) (pa_cons (pv 2) pa_nil)))
    (pss_cons (ps_set (i := 3) sc_deal.nd rfl (.inl rfl) (pe_call G_scales (hr.mono (by decide)) (by rfl) T.g_scales T.f_scales.kp T.p_scales .nil (passes_call (takes_of rfl rfl rfl rfl) fun _ _ _ _ h => h) (pa_cons (pv 0) (pa_cons (pv 1) pa_nil))))
    (pss_cons (ps_set (i := 4) sc_deal.nd rfl (.inl rfl) (pe_op op_add (pe_call G_worth (hr.mono (by decide)) (by rfl) T.g_worth T.f_worth.kp T.p_worth .nil pass0 (pa_cons (pv 0) pa_nil)) (pv 2)))
    (pss_cons (ps_if (PW.pt (pw_or (pt_cmpR op_ge (pv 4) (pe_callB call_len_seq (by rfl) T.m_len (by decide +kernel) (pa_cons (pe_ix ix_list (pv 3) (pe_un un_neg pe_int) (fun _ _ => rfl)) pa_nil)) (nomark _)) (pw_or1 (pt_cmpR op_isN (pe_ix ix_list (pe_ix ix_list (pv 3) (pe_un un_neg pe_int) (fun _ _ => rfl)) (pv 4) (fun _ _ => rfl)) pe_non (nomark _)))))
      (pss_one (ps_raise rfl (takes_of rfl rfl rfl rfl) (pmk_own PySem.F.excBase_ValueError T.x_NoChange T.g_NoChange T.k_NoChange (raises_own T.b_NoChange T.t_NoChange) rfl)))
      pss_nil)
    (pss_cons (ps_set (i := 5) sc_deal.nd rfl (.inl rfl) (pe_call G__best_way (hr.mono (by decide)) (by rfl) T.g__best_way T.f__best_way.kp T.p__best_way .nil pass0 (pa_cons (pv 3) (pa_cons (pv 0) (pa_cons (pv 1) (pa_cons (pv 4) pa_nil))))))
    (pss_cons (ps_setLc (i := 6) (own := [("value", 8), ("number", 9)]) (g := gTup K 2 (gCons (gName 8) (gCons (gName 9) gNil))) rfl sc_deal.nd rfl rfl (sw_true rfl rfl rfl (by decide +kernel)) (pi_list (pv 5)) (blkOk_by (own := [("value", 8), ("number", 9)]) (N := N_deal) (sc := defScope s_deal) (by decide +kernel)) (fun _ _ _ _ _ => pg_tup rfl (pgs_cons (pg_name (i := 8) sc_deal.nd rfl (.inl rfl) (.inr rfl)) (pgs_cons (pg_name (i := 9) sc_deal.nd rfl (.inl rfl) (.inr rfl)) pgs_nil))) (fun _ _ _ _ _ => (pts_one (pt_cmpR op_gt (pv 9) pe_int (nomark _)))) (fun _ _ _ _ _ => (pe_tup (pa_cons (pv 8) (pa_cons (pv 9) pa_nil)))))
    (pss_cons (ps_setLc (i := 7) (own := [("value", 8), ("number", 9)]) (g := gTup K 2 (gCons (gName 8) (gCons (gName 9) gNil))) rfl sc_deal.nd rfl rfl (sw_true rfl rfl rfl (by decide +kernel)) (pi_list (pv 5)) (blkOk_by (own := [("value", 8), ("number", 9)]) (N := N_deal) (sc := defScope s_deal) (by decide +kernel)) (fun _ _ _ _ _ => pg_tup rfl (pgs_cons (pg_name (i := 8) sc_deal.nd rfl (.inl rfl) (.inr rfl)) (pgs_cons (pg_name (i := 9) sc_deal.nd rfl (.inl rfl) (.inr rfl)) pgs_nil))) (fun _ _ _ _ _ => (pts_one (pt_cmpR op_lt (pv 9) pe_int (nomark _)))) (fun _ _ _ _ _ => (pe_tup (pa_cons (pv 8) (pa_cons (pe_un un_neg (pv 9)) pa_nil)))))
    (pss_one (ps_ret (pe_tup (pa_cons (pv 6) (pa_cons (pv 7) pa_nil)))))))))))), ?_⟩
    refine ⟨_, rfl, c, rfl, fun hc => ?_, fun hc => qs (by unfold dueDl; rw [if_neg hc]) _ Ex.rfl'⟩
    refine ⟨_, rfl, _, rfl, t, u, ps, us, rfl, hT, hU, hg, fun hd H2 e2 => qk (by unfold dueDl; rw [if_pos hc, hd, if_neg (by decide)]) _ e2, fun hd H2 e2 => qs (by unfold dueDl; rw [if_pos hc, hd, if_neg (by decide)]) _ e2, fun hd => ?_⟩
    intro R as H2 e2 hfr hnd eR hrows
    have hw15 : worthP ps + worthP us ≤ 1500 := by
      unfold dueS at hd
      split at hd
      · cases hd
      · split at hd
        · cases hd
        · omega
    have hwp := gen_worth hg.vp
    have hwu := gen_worth hg.vu
    have hdl : dueDl ps us c = if cellD ps us c = none then ("change" : Str) else ("" : Str) := by
      unfold dueDl
      rw [if_pos hc, if_pos hd]
    unfold scalesOf at hrows
    obtain ⟨z, iz, _, ez⟩ := at_lastL hrows
    have hll : (lastL (row0L (lowOf ps) (lowOf us)) (kindsOf ps us)).length = lowOf ps + lowOf us + 1 := by rw [lastL_len, row0L_len]
    refine ⟨_, rfl, t, ps, rfl, hT.ex e2, by have := hg.lp; omega, fun p hp => by have := hg.vp p hp; omega, fun H3 e3 => ?_⟩
    rw [hwp]
    refine ⟨_, rfl, _, _, rfl, rfl, ?_⟩
    have ex3 := e2.tr e3
    have eR3 := e3 _ _ eR
    have ez3 := e3 _ _ ez
    have hrl : ((((lastL (row0L (lowOf ps) (lowOf us)) (kindsOf ps us)).map vO).length : Nat) : Int) = (lowOf ps : Int) + (lowOf us : Int) + 1 := by rw [List.length_map, hll]; omega
    have refuse : cellD ps us c = none → ∀ H4, Ex H3 H4 → E (.ref T.c_NoChange) none H4 := fun hn H4 e4 => qc (by rw [hdl, if_pos hn]) _ (ex3.tr e4)
    refine ⟨_, rfl, _, rfl, _, rfl, R, _, _, .ref z, rfl, rfl, .of eR3, iz, z, _, rfl, .inl (.of ez3), _, _, rfl, rfl, _, rfl, iteD (fun e => ?_) (fun e => ?_)⟩
    · have e' : (lowOf ps : Int) + c ≥ (lowOf ps : Int) + (lowOf us : Int) + 1 := by rw [← hrl]; exact e
      refine iteT (refuse ?_ _ Ex.rfl')
      unfold cellD cellAt
      rw [if_neg fun y => by have := y.2; rw [hll] at this; omega]
    have e' : ¬ (lowOf ps : Int) + c ≥ (lowOf ps : Int) + (lowOf us : Int) + 1 := by rw [← hrl]; exact e
    have hcz : cellD ps us c = rAt (lastL (row0L (lowOf ps) (lowOf us)) (kindsOf ps us)) ((lowOf ps : Int) + c).toNat := if_pos ⟨by omega, by rw [hll]; omega⟩
    have ia : atI ((lastL (row0L (lowOf ps) (lowOf us)) (kindsOf ps us)).map vO) ((lowOf ps : Int) + c) = some (vO (cellD ps us c)) := at_of (j := ((lowOf ps : Int) + c).toNat) (by omega) (by rw [hcz]; exact vO_at (by rw [hll]; omega))
    refine ⟨_, rfl, _, rfl, R, _, _, .ref z, rfl, rfl, .of eR3, iz, _, rfl, z, _, _, _, rfl, rfl, .of ez3, ia, ?_⟩
    cases hx : cellD ps us c with
    | none => exact ⟨rfl, _, rfl, iteD (fun _ => refuse hx _ Ex.rfl') (fun y => absurd rfl y)⟩
    | some m =>
      refine ⟨rfl, _, rfl, iteD (fun y => nomatch y) (fun _ => ?_)⟩
      have q1 := q (by rw [hdl, if_neg (by rw [hx]; exact fun y => nomatch y)])
      refine ⟨_, rfl, _, rfl, _, rfl, _, rfl, R, t, u, as, ps, us, lowOf ps, lowOf us, (lowOf ps : Int) + c, m, rfl, eR3, hrows.ex e3, (hT.ex e2).ex e3, hU.ex ex3, hg, by omega, hx, fun wy xs H4 e4 hwy ewy hpw => ?_⟩
      have ex4 := ex3.tr e4
      change Prs H4 xs (pairsW (kindsOf ps us) (wayOf ps us c)) at hpw
      have hwl : (pairsW (kindsOf ps us) (wayOf ps us c)).length ≤ 12 := by
        unfold wayOf
        rw [pairsW_len (by rw [wayL_len, kindsOf_len]), kindsOf_len]
        exact hg.lp.2
      rw [payD_eq, giveD_eq] at q1
      generalize pairsW (kindsOf ps us) (wayOf ps us c) = ws at hpw hwl q1
      have hxl := hpw.len
      refine ⟨_, rfl, wy, rfl, ⟨xs, .of ewy⟩, fun D hD => lc_list (xs := xs) (fun i H' => ∃ ys, Ex H4 H' ∧ H' D = some (.lst ys) ∧ ys.length ≤ i ∧ Prs H' ys ((ws.take i).filter fun p : Int × Int => decide (0 < p.2))) ⟨[], Ex.nw hD, upd_same, Nat.le_refl _, .nil⟩ (fun i H' _ h => by
        obtain ⟨_, e, _⟩ := h
        exact .of (e _ _ ewy)) ?_ ?_⟩
      · rintro i x H' hx ⟨ys, ex, eD, hyl, hys⟩
        obtain ⟨p, t1, h1, rfl, h3⟩ := Prs.get hpw hx
        have hi : i < ws.length := (List.getElem?_eq_some_iff.mp h1).1
        refine ⟨t1, _, rfl, .of (ex _ _ h3), rfl, _, _, rfl, _, _, rfl, rfl, rfl, ?_⟩
        refine ⟨_, rfl, _, _, rfl, rfl, _, rfl, iteD (fun e => ?_) (fun e => ?_)⟩
        · have e2 : 0 < p.2 := e
          refine ⟨_, rfl, _, rfl, len63 (by show 2 ≤ _; decide), fun t2 ht2 => ?_⟩
          have nDt : D ≠ t2 := ne_of_none eD ht2
          have eD' : (upd H' t2 (.tup [.int p.1, .int p.2])) D = some (.lst ys) := by rw [upd_ne nDt]; exact eD
          refine ⟨ys, eD', len63' (by omega), ys ++ [.ref t2], Ex.mu (ex.tr (Ex.nw ht2)) hD, upd_same, by rw [List.length_append]; show _ + 1 ≤ _; omega, ?_⟩
          rw [take_snoc h1, List.filter_append, show List.filter (fun p : Int × Int => decide (0 < p.2)) [p] = [p] from List.filter_cons_of_pos (by simpa using e2)]
          refine Prs.up (by intro bs y; rw [eD'] at y; cases y) ?_
          exact Prs.snoc (hys.ex (Ex.nw ht2)) ⟨t2, rfl, upd_same⟩
        · have e2 : ¬ 0 < p.2 := e
          refine ⟨ys, ex, eD, by omega, ?_⟩
          rw [take_snoc h1, List.filter_append, show List.filter (fun p : Int × Int => decide (0 < p.2)) [p] = [] from List.filter_cons_of_neg (by simpa using e2), List.append_nil]
          exact hys
      rintro H5 ⟨ys, e5, eD, hyl, hys⟩
      rw [List.take_of_length_le (by omega)] at hys
      have ewy5 := e5 _ _ ewy
      have hpw5 := hpw.ex e5
      refine ⟨_, rfl, wy, rfl, ⟨xs, .of ewy5⟩, fun G hG => lc_list (xs := xs) (fun i H' => ∃ zs, Ex H5 H' ∧ H' G = some (.lst zs) ∧ zs.length ≤ i ∧ Prs H' zs (((ws.take i).filter fun p : Int × Int => decide (p.2 < 0)).map fun p => (p.1, -p.2))) ⟨[], Ex.nw hG, upd_same, Nat.le_refl _, .nil⟩ (fun i H' _ h => by
        obtain ⟨_, e, _⟩ := h
        exact .of (e _ _ ewy5)) ?_ ?_⟩
      · rintro i x H' hx ⟨zs, ex, eG, hzl, hzs⟩
        obtain ⟨p, t1, h1, rfl, h3⟩ := Prs.get hpw5 hx
        have hi : i < ws.length := (List.getElem?_eq_some_iff.mp h1).1
        refine ⟨t1, _, rfl, .of (ex _ _ h3), rfl, _, _, rfl, _, _, rfl, rfl, rfl, ?_⟩
        refine ⟨_, rfl, _, _, rfl, rfl, _, rfl, iteD (fun e => ?_) (fun e => ?_)⟩
        · have e2 : p.2 < 0 := e
          refine ⟨_, rfl, _, rfl, _, rfl, len63 (by show 2 ≤ _; decide), fun t2 ht2 => ?_⟩
          have nDt : G ≠ t2 := ne_of_none eG ht2
          have eG' : (upd H' t2 (.tup [.int p.1, .int (-p.2)])) G = some (.lst zs) := by rw [upd_ne nDt]; exact eG
          refine ⟨zs, eG', len63' (by omega), zs ++ [.ref t2], Ex.mu (ex.tr (Ex.nw ht2)) hG, upd_same, by rw [List.length_append]; show _ + 1 ≤ _; omega, ?_⟩
          rw [take_snoc h1, List.filter_append, show List.filter (fun p : Int × Int => decide (p.2 < 0)) [p] = [p] from List.filter_cons_of_pos (by simpa using e2), List.map_append]
          refine Prs.up (by intro bs y; rw [eG'] at y; cases y) ?_
          exact Prs.snoc (hzs.ex (Ex.nw ht2)) ⟨t2, rfl, upd_same⟩
        · have e2 : ¬ p.2 < 0 := e
          refine ⟨zs, ex, eG, by omega, ?_⟩
          rw [take_snoc h1, List.filter_append, show List.filter (fun p : Int × Int => decide (p.2 < 0)) [p] = [] from List.filter_cons_of_neg (by simpa using e2), List.append_nil]
          exact hzs
      rintro H6 ⟨zs, e6, eG, hzl, hzs⟩
      rw [List.take_of_length_le (by omega)] at hzs
      have eD6 := e6 _ _ eD
      refine ⟨_, rfl, _, rfl, len63 (by show 2 ≤ _; decide), fun l hl => ?_⟩
      have ex6 := (ex4.tr e5).tr e6
      exact q1 l D G ys zs _ (ex6.tr (Ex.nw hl)) (none_back ex6 hl) (none_back ex4 hD) (none_back (ex4.tr e5) hG) (ne_of_none eD6 hl).symm (ne_of_none eG hl).symm (ne_of_none eD hG) upd_same ((Ex.nw hl) _ _ eD6) ((Ex.nw hl) _ _ eG) (((hys.ex e6)).ex (Ex.nw hl)) (hzs.ex (Ex.nw hl))
def spDealL (K : PySem.W.Frag) : Sp := fun vs H Q _ => ∃ (t u : Addr) (ps us : List (Int × Int)) (c : Int), vs = [.ref t, .ref u, .int c] ∧ Till K H t ps ∧ Till K H u us ∧ Gen2 ps us ∧
  (dueDl ps us c = "kind" → Ret (.int 1) H Q) ∧ (dueDl ps us c = "sum" → Ret (.int 2) H Q) ∧ (dueDl ps us c = "change" → Ret .non H Q) ∧
  (dueDl ps us c = "" → NewDeal H (payD (kindsOf ps us) (wayOf ps us c)) (giveD (kindsOf ps us) (wayOf ps us c)) Q)
theorem ok_dealL (T : Tx K mg) : FnOk P w K mg base CX0 6 T.a__law_deal T.d__law_deal P__law_deal (spDealL K) := by
  have G_deal := ok_deal (P := P) (w := w) (base := base) T
  refine T.f__law_deal.ok sc__law_deal (fun vs H Q E h => ?_) (fun cdv A outer s H vs Q E hr h => ?_)
  · obtain ⟨t, u, ps, us, c, rfl, _⟩ := h
    rfl
  · obtain ⟨t, u, ps, us, c, rfl, hT, hU, hg, q1, q2, q3, q4⟩ := h
    refine ⟨_, (pss_one (ps_try_many rfl rfl takes0
      (fun W pn xe tk hp => (pss_one (ps_ret (pe_callS G_deal (hr.mono (by decide)) rfl T.g_deal T.f_deal.kp T.p_deal (fun σ => passAt tk σ) (pa_cons (pv 0) (pa_cons (pv 1) (pa_cons (pv 2) pa_nil)))))))
      (.cons ⟨by rfl, by decide, .inl T.g_NoKind⟩ (fun a oe cls d pn hz hf => (pss_one (ps_ret pe_int)))
      (.cons ⟨by rfl, by decide, .inl T.g_NoSum⟩ (fun a oe cls d pn hz hf => (pss_one (ps_ret pe_int)))
      (.cons ⟨by rfl, by decide, .inl T.g_NoChange⟩ (fun a oe cls d pn hz hf => (pss_one (ps_ret pe_non)))
      .nil))))), ?_⟩
    refine ⟨_, rfl, _, rfl, _, rfl, t, u, ps, us, c, rfl, hT, hU, hg, fun hd H2 ex => ?_, fun hd H2 ex => ?_, fun hd H2 ex => ?_, fun hd => ?_⟩
    · refine ⟨true, exm_mk T.b_NoKind T.i_NoKind T.t_NoKind T.u_NoKind_NoKind, (fun _ x hx => ?_), fun z => nomatch z⟩
      exact q1 hd _ ex
    · refine ⟨false, exm_mk T.b_NoKind T.i_NoKind T.t_NoKind T.u_NoSum_NoKind, (fun z => nomatch z), fun _ => ?_⟩
      refine ⟨true, exm_mk T.b_NoSum T.i_NoSum T.t_NoSum T.u_NoSum_NoSum, (fun _ x hx => ?_), fun z => nomatch z⟩
      exact q2 hd _ ex
    · refine ⟨false, exm_mk T.b_NoKind T.i_NoKind T.t_NoKind T.u_NoChange_NoKind, (fun z => nomatch z), fun _ => ?_⟩
      refine ⟨false, exm_mk T.b_NoSum T.i_NoSum T.t_NoSum T.u_NoChange_NoSum, (fun z => nomatch z), fun _ => ?_⟩
      refine ⟨true, exm_mk T.b_NoChange T.i_NoChange T.t_NoChange T.u_NoChange_NoChange, (fun _ x hx => ?_), fun z => nomatch z⟩
      exact q3 hd _ ex
    · exact q4 hd
/-! ### what is in the purse, told by the kinds of the till -/
theorem sum_same {ps : List (Int × Int)} {f g : Int → Int} (h : ∀ p ∈ ps, f p.1 = g p.1) : (ps.map fun p => f p.1).sum = (ps.map fun p => g p.1).sum := by
  congr 1
  exact List.map_congr_left h
theorem sum_split {v : Int} {f g : Int → Int} (hfg : ∀ x, x ≠ v → f x = g x) : ∀ {ps : List (Int × Int)}, (ps.map (·.1)).Nodup → v ∈ ps.map (·.1) → (ps.map fun p => f p.1).sum = (ps.map fun p => g p.1).sum + (f v - g v)
  | [], _, h => by cases h
  | p :: ps, nd, h => by
    rw [List.map_cons, List.nodup_cons] at nd
    rw [List.map_cons, List.map_cons, List.sum_cons, List.sum_cons]
    by_cases e : p.1 = v
    · rw [e, sum_same (f := f) (g := g) (ps := ps) fun q hq => hfg _ fun z => nd.1 (by rw [e, ← z]; exact List.mem_map.mpr ⟨q, hq, rfl⟩)]
      omega
    · rw [List.map_cons] at h
      rcases List.mem_cons.mp h with z | z
      · exact absurd z.symm e
      · rw [hfg _ e, sum_split hfg nd.2 z]
        omega
theorem ownOf_cons (u : Int × Int) (us : List (Int × Int)) (v : Int) : ownOf (u :: us) v = if u.1 = v then u.2 else ownOf us v := by
  unfold ownOf
  rw [countIn_cons]
  split <;> rfl
theorem own_sum {ps : List (Int × Int)} (nd : (ps.map (·.1)).Nodup) : ∀ {us : List (Int × Int)}, (us.map (·.1)).Nodup → (∀ u ∈ us, u.1 ∈ ps.map (·.1)) → (ps.map fun p => p.1 * ownOf us p.1).sum = worthP us
  | [], _, _ => by
    show (ps.map fun p => p.1 * 0).sum = 0
    induction ps with
    | nil => rfl
    | cons p ps ih =>
      rw [List.map_cons, List.sum_cons, ih (by rw [List.map_cons, List.nodup_cons] at nd; exact nd.2) (fun u hu => by cases hu), Int.mul_zero]
      rfl
  | u :: us, nu, h => by
    rw [List.map_cons, List.nodup_cons] at nu
    have ih := own_sum nd nu.2 fun q hq => h q (List.mem_cons_of_mem _ hq)
    have h0 : ownOf us u.1 = 0 := by
      unfold ownOf
      rw [countIn_none fun q hq z => nu.1 (by rw [← z]; exact List.mem_map.mpr ⟨q, hq, rfl⟩)]
      rfl
    have := sum_split (v := u.1) (f := fun x => x * ownOf (u :: us) x) (g := fun x => x * ownOf us x) (fun x hx => by
      show x * ownOf (u :: us) x = x * ownOf us x
      rw [ownOf_cons, if_neg fun z => hx z.symm]) nd (h u List.mem_cons_self)
    have h1 : ownOf (u :: us) u.1 = u.2 := by rw [ownOf_cons, if_pos rfl]
    simp only [h0, h1, Int.mul_zero, Int.sub_zero] at this
    rw [this, ih]
    unfold worthP
    rw [List.map_cons, List.sum_cons]
    omega
/-- a till and a purse whose kinds all lie in the till -/
theorem kinds_fit {ps us : List (Int × Int)} (hg : Gen2 ps us) (hl : lacks ps us = false) : KdOk (kindsOf ps us) ∧ loK (kindsOf ps us) = lowOf ps ∧ hiK (kindsOf ps us) = lowOf us := by
  have hin : ∀ u ∈ us, u.1 ∈ ps.map (·.1) := fun u hu => by
    unfold lacks at hl
    rw [List.any_eq_false] at hl
    have := hl u hu
    simpa using this
  refine ⟨fun k hk => ?_, ?_, ?_⟩
  · obtain ⟨p, hp, rfl⟩ := List.mem_map.mp hk
    have := hg.vp p hp
    refine ⟨this.1, this.2.2.1, ?_⟩
    show 0 ≤ ownOf us p.1
    unfold ownOf
    cases e : countIn us p.1 with
    | none => exact Int.le_refl _
    | some c => exact (hg.vu _ (countIn_mem e)).2.2.1
  · rw [← gen_worth hg.vp]
    unfold loK kindsOf worthP
    rw [List.map_map]
    rfl
  · rw [← gen_worth hg.vu, ← own_sum (rising_nd hg.rp) (rising_nd hg.ru) hin]
    unfold hiK kindsOf
    rw [List.map_map]
    rfl
/-- the way told is the best of all -/
theorem way_best {ps us : List (Int × Int)} {c : Int} (hg : Gen2 ps us) (hl : lacks ps us = false) :
    (∀ w ∈ waysD (kindsOf ps us) ps.length, worthD (kindsOf ps us) w = c → ∃ m, cellD ps us c = some m ∧ m ≤ fewD w) ∧
    ∀ m, cellD ps us c = some m → wayOf ps us c ∈ waysD (kindsOf ps us) ps.length ∧ worthD (kindsOf ps us) (wayOf ps us c) = c ∧ fewD (wayOf ps us c) = m ∧
      ∀ w ∈ waysD (kindsOf ps us) ps.length, worthD (kindsOf ps us) w = c → w ≠ wayOf ps us c → betterD (wayOf ps us c) w = true ∧ betterD w (wayOf ps us c) = false := by
  obtain ⟨h1, h2, h3⟩ := kinds_fit hg hl
  have hkl : (kindsOf ps us).length = ps.length := kindsOf_len ..
  have tk : (kindsOf ps us).take ps.length = kindsOf ps us := by rw [← hkl, List.take_length]
  have some_of : ∀ w ∈ waysD (kindsOf ps us) ps.length, worthD (kindsOf ps us) w = c → ∃ m, cellD ps us c = some m ∧ m ≤ fewD w := fun w hw hwc => by
    have := wayD_some h1 h2 h3 (k := ps.length) (by omega) hw
    rw [tk, hwc] at this
    exact this
  refine ⟨some_of, fun m hm => ?_⟩
  obtain ⟨g1, g2, g3, g4⟩ := wayL_best h1 h2 h3 (k := ps.length) (d := (lowOf ps : Int) + c) (m := m) (by omega) (by rw [tk]; exact hm)
  rw [tk] at g2 g4
  change wayOf ps us c ∈ _ at g1
  change worthD _ (wayOf ps us c) = _ at g2
  change fewD (wayOf ps us c) = _ at g3
  change ∀ w ∈ _, _ → w ≠ wayOf ps us c → _ → lexI (wayOf ps us c).reverse w.reverse = true ∧ lexI w.reverse (wayOf ps us c).reverse = false at g4
  refine ⟨g1, by omega, g3, fun w hw hwc hne => ?_⟩
  obtain ⟨m', hm', hle⟩ := some_of w hw hwc
  rw [hm] at hm'
  cases hm'
  unfold betterD
  by_cases e : fewD (wayOf ps us c) = fewD w
  · rw [if_pos e, if_pos e.symm]
    exact g4 w hw (by omega) hne (by omega)
  · rw [if_neg e, if_neg (Ne.symm e)]
    exact ⟨decide_eq_true (by omega), decide_eq_false (by omega)⟩
def pairD (a b : List (Int × Int)) : PyData := .tuple [.list (a.map dP), .list (b.map dP)]
theorem shaped_pair (a b : List (Int × Int)) : SeqAt.shaped (pairD a b) = true := by
  unfold SeqAt.shaped
  have h1 : PyData.canLay0 (pairD a b) = true := by
    show (PyData.canLayAll0 (a.map dP) && (PyData.canLayAll0 (b.map dP) && true)) = true
    rw [canLay_dPs, canLay_dPs]
    rfl
  have h2 : PyData.depth (pairD a b) ≤ 64 := by
    have x := depth_dPs a
    have y := depth_dPs b
    simp only [pairD, PyData.depth, PyData.depthAll]
    omega
  rw [h1, decide_eq_true h2]
  rfl
/-! ### a comprehension over zip -/
theorem lc_zip {K : PySem.W.Frag} {a b : Addr} {zs ys : List V} {g : TG} {tt : TT} {te : TE} {us : List Nat} {σ : L2.St} {H1 : Hp} {D : Addr} {Qd : Hp → Prop} (he : zs.length = ys.length) (Pv : Nat → Hp → Prop) (h0 : Pv 0 (upd H1 D (.lst []))) (hl : ∀ i H, i ≤ zs.length → Pv i H → SqL K H a zs ∧ SqL K H b ys)
    (hs : ∀ (i : Nat) (x y : V) (T : Addr) (H : Hp), zs[i]? = some x → ys[i]? = some y → Pv i H → H T = none → g (.ref T) (wipe σ us) (upd H T (.tup [x, y])) fun σ2 H2 => wipe σ2 us = wipe σ us ∧ tt σ2 H2 fun b H3 =>
      if b = true then te σ2 H3 fun y H4 => ∃ acc, H4 D = some (.lst acc) ∧ acc.length < sizeLine ∧ Pv (i + 1) (upd H4 D (.lst (acc ++ [y]))) else Pv (i + 1) H3) (hd : ∀ H, Pv zs.length H → Qd H) :
    ∃ W : Nat → Nat → Hp → Prop, (∃ m, W 0 m (upd H1 D (.lst []))) ∧ ∀ i m H, W i m H →
      ((Itz K a b).stop i H ∧ Qd H) ∨ ((Itz K a b).go i H ∧ ∃ Nx : Hp → Prop, (∀ H', Nx H' → ∃ m', m' < m ∧ W (i + 1) m' H') ∧ ∀ x H', (Itz K a b).yld i H x H' → g x (wipe σ us) H' fun σ2 H2 => wipe σ2 us = wipe σ us ∧ tt σ2 H2 fun b H3 =>
        if b = true then te σ2 H3 fun y H4 => ∃ acc, H4 D = some (.lst acc) ∧ acc.length < sizeLine ∧ Nx (upd H4 D (.lst (acc ++ [y]))) else Nx H3) := by
  refine ⟨fun i m H => m = zs.length - i ∧ i ≤ zs.length ∧ Pv i H, ⟨zs.length, by simp, Nat.zero_le _, h0⟩, ?_⟩
  rintro i m H ⟨rfl, hi, pv⟩
  obtain ⟨sa, sb⟩ := hl i H hi pv
  by_cases hlt : i < zs.length
  · have hlt2 : i < ys.length := by omega
    refine .inr ⟨⟨zs, ys, zs[i], ys[i], sa, sb, List.getElem?_eq_getElem hlt, List.getElem?_eq_getElem hlt2⟩, Pv (i + 1), fun H' z => ⟨zs.length - (i + 1), by omega, rfl, hlt, z⟩, fun x H' y => ?_⟩
    obtain ⟨T, z, u, rfl, hT, rfl, hz, hu⟩ := y
    exact hs i z u T H (hz zs sa) (hu ys sb) pv hT
  · obtain rfl : i = zs.length := by omega
    exact .inl ⟨⟨zs, ys, sa, sb, .inl (Nat.le_refl _)⟩, hd H pv⟩
/-! ### the law -/
def capP (m : Int) (p : Int × Int) : Int × Int := (p.1, if m < p.2 then m else p.2)
theorem cap_rising {m : Int} {ps : List (Int × Int)} (h : Rising ps) : Rising (ps.map (capP m)) := by
  unfold Rising at h ⊢
  rw [List.pairwise_map]
  exact h
theorem cap_in {m : Int} {ps : List (Int × Int)} {q : Int × Int} (h : q ∈ ps.map (capP m)) (hm : 0 ≤ m) (hv : ∀ p ∈ ps, 0 ≤ p.2) : ∃ p ∈ ps, q.1 = p.1 ∧ 0 ≤ q.2 ∧ q.2 ≤ m ∧ q.2 ≤ p.2 := by
  obtain ⟨p, hp, rfl⟩ := List.mem_map.mp h
  have := hv p hp
  refine ⟨p, hp, rfl, ?_⟩
  unfold capP
  show 0 ≤ (if m < p.2 then m else p.2) ∧ (if m < p.2 then m else p.2) ≤ m ∧ (if m < p.2 then m else p.2) ≤ p.2
  split <;> omega
theorem cap_worth {m : Int} {ps : List (Int × Int)} (hv : ∀ p ∈ ps, 0 ≤ p.1) : worthP (ps.map (capP m)) ≤ worthP ps := by
  unfold worthP
  induction ps with
  | nil => exact Int.le_refl _
  | cons p ps ih =>
    have h1 := ih fun q hq => hv q (List.mem_cons_of_mem _ hq)
    have h2 := hv p List.mem_cons_self
    rw [List.map_cons, List.map_cons, List.map_cons, List.sum_cons, List.sum_cons]
    have h3 : (capP m p).1 * (capP m p).2 ≤ p.1 * p.2 := Int.mul_le_mul_of_nonneg_left (by unfold capP; show (if m < p.2 then m else p.2) ≤ _; split <;> omega) h2
    omega
theorem cap_small {ps us : List (Int × Int)} (r1 : Rising ps) (r2 : Rising us) (h : Dp2 ps us) (h1 : 1 ≤ ps.length) (h3 : ps.length ≤ 3) : Small12 (ps.map (capP 6)) (us.map (capP 5)) ∧ worthP (ps.map (capP 6)) + worthP (us.map (capP 5)) ≤ 600 := by
  have hf := h.few
  refine ⟨⟨by rw [List.length_map]; exact h1, by rw [List.length_map]; exact h3, by rw [List.length_map]; omega, cap_rising r1, cap_rising r2, fun p hp => ?_, fun u hu => ?_⟩, ?_⟩
  · obtain ⟨q, hq, e, a, b, _⟩ := cap_in hp (by decide) fun x hx => (h.val x hx).2.2.1
    have := h.val q hq
    omega
  · obtain ⟨q, hq, e, a, b, _⟩ := cap_in hu (by decide) fun x hx => (h.own x hx).2.1
    obtain ⟨⟨c, hc⟩, _⟩ := h.own q hq
    rw [e]
    exact ⟨⟨_, List.mem_map.mpr ⟨_, hc, rfl⟩⟩, a, b⟩
  · have a := cap_worth (m := 6) (ps := ps) fun p hp => by have := h.val p hp; omega
    have b := cap_worth (m := 5) (ps := us) fun p hp => by
      obtain ⟨⟨c, hc⟩, _⟩ := h.own p hp
      have := h.val _ hc
      omega
    have := h.low
    omega
theorem small_gen {ps us : List (Int × Int)} (h : Small12 ps us) : Gen2 ps us := by
  obtain ⟨a, b, c, d, e, f, g⟩ := h
  refine ⟨d, e, fun p hp => ?_, fun p hp => ?_, ⟨a, by omega⟩, by omega⟩
  · have := f p hp
    omega
  · obtain ⟨⟨c, hc⟩, h1, h2⟩ := g p hp
    have := f _ hc
    omega
theorem small_due {ps us : List (Int × Int)} (h : Small12 ps us) (hw : worthP ps + worthP us ≤ 600) : dueS ps us = "" := by
  unfold dueS
  have hl : lacks ps us = false := by
    unfold lacks
    rw [List.any_eq_false]
    intro u hu
    obtain ⟨⟨c, hc⟩, _⟩ := h.2.2.2.2.2.2 u hu
    rw [decide_eq_true (List.mem_map.mpr ⟨_, hc, rfl⟩)]
    decide
  rw [if_neg (by rw [hl]; decide), if_neg (by omega)]
def spLaw (K : PySem.W.Frag) : Sp := fun vs H Q _ => ∃ (a : Addr) (ns : List Int), vs = [.ref a] ∧ SqL K H a (ns.map V.int) ∧ ∀ H', Q (.bl true) H'
theorem ok_law (T : Tx K mg) : FnOk P w K mg base CX0 7 T.a_law T.d_law P_law (spLaw K) := by
  have G__law_cell_at := ok_cell_at (P := P) (w := w) (base := base) T
  have G__law_till_and_purse := ok_tap (P := P) (w := w) (base := base) T
  have G__law_ways := ok_waysD (P := P) (w := w) (base := base) T
  have G__law_worth := ok_worthD (P := P) (w := w) (base := base) T
  have G__law_better := ok_betterD (P := P) (w := w) (base := base) T
  have G__law_deal := ok_dealL (P := P) (w := w) (base := base) T
  have G__law_pairs_alike := ok_alike (P := P) (w := w) (base := base) T
  have G_deal := ok_deal (P := P) (w := w) (base := base) T
  refine T.f_law.ok sc_law (fun vs H Q E h => ?_) (fun cdv A outer s H vs Q E hr h => ?_)
  · obtain ⟨a, ns, rfl, _⟩ := h
    rfl
  · obtain ⟨a, ns, rfl, hS, q⟩ := h
    refine ⟨_, (pss_cons (ps_set (i := 1) sc_law.nd rfl (.inl rfl) (pe_call G__law_till_and_purse (hr.mono (by decide)) (by rfl) T.g__law_till_and_purse T.f__law_till_and_purse.kp T.p__law_till_and_purse .nil pass0 (pa_cons (pv 0) (pa_cons pe_int pa_nil))))
    (pss_cons (ps_setLc (i := 2) (own := [("_law_pair", 12)]) (g := gName 12) rfl sc_law.nd rfl rfl (sw_true rfl rfl rfl (by decide +kernel)) (pi_list (pe_ix ix_list (pv 1) pe_int (fun _ _ => rfl))) (blkOk_by (own := [("_law_pair", 12)]) (N := N_law) (sc := defScope s_law) (by decide +kernel)) (fun _ _ _ _ _ => pg_name (i := 12) sc_law.nd rfl (.inl rfl) (.inr rfl)) (fun _ _ _ _ _ => pts_nil) (fun _ _ _ _ _ => (pe_tup (pa_cons (pe_ix (r := rIxT K) ix_tup (pv 12) pe_int (fun _ _ => rfl)) (pa_cons (pe_callB (call_min2 rfl) (by rfl) T.m_min (by decide +kernel) (pa_cons (pe_ix (r := rIxT K) ix_tup (pv 12) pe_int (fun _ _ => rfl)) (pa_cons pe_int pa_nil))) pa_nil)))))
    (pss_cons (ps_setLc (i := 3) (own := [("_law_pair", 12)]) (g := gName 12) rfl sc_law.nd rfl rfl (sw_true rfl rfl rfl (by decide +kernel)) (pi_list (pe_ix ix_list (pv 1) pe_int (fun _ _ => rfl))) (blkOk_by (own := [("_law_pair", 12)]) (N := N_law) (sc := defScope s_law) (by decide +kernel)) (fun _ _ _ _ _ => pg_name (i := 12) sc_law.nd rfl (.inl rfl) (.inr rfl)) (fun _ _ _ _ _ => pts_nil) (fun _ _ _ _ _ => (pe_tup (pa_cons (pe_ix (r := rIxT K) ix_tup (pv 12) pe_int (fun _ _ => rfl)) (pa_cons (pe_callB (call_min2 rfl) (by rfl) T.m_min (by decide +kernel) (pa_cons (pe_ix (r := rIxT K) ix_tup (pv 12) pe_int (fun _ _ => rfl)) (pa_cons pe_int pa_nil))) pa_nil)))))
    (pss_cons (ps_set (i := 4) sc_law.nd rfl (.inl rfl) (pe_call G__law_ways (hr.mono (by decide)) (by rfl) T.g__law_ways T.f__law_ways.kp T.p__law_ways .nil pass0 (pa_cons (pv 2) (pa_cons (pv 3) pa_nil))))
    (pss_cons (ps_set (i := 5) sc_law.nd rfl (.inl rfl) (pe_call G__law_cell_at (hr.mono (by decide)) (by rfl) T.g__law_cell_at T.f__law_cell_at.kp T.p__law_cell_at .nil pass0 (pa_cons (pv 0) (pa_cons pe_int pa_nil))))
    (pss_cons (ps_set (i := 6) sc_law.nd rfl (.inl rfl) (pe_op op_mod (pe_callB call_abs (by rfl) T.m_abs (by decide +kernel) (pa_cons (pe_call G__law_worth (hr.mono (by decide)) (by rfl) T.g__law_worth T.f__law_worth.kp T.p__law_worth .nil pass0 (pa_cons (pv 2) (pa_cons (pe_ix ix_list (pv 4) (pe_op op_mod (pe_op op_fdiv (pv 5) pe_int) (pe_callB call_len_seq (by rfl) T.m_len (by decide +kernel) (pa_cons (pv 4) pa_nil))) (fun _ _ => rfl)) pa_nil))) pa_nil)) pe_int))
    (Evl.pss_cut (ps_if (pt_cmpR op_eq (pe_op op_mod (pv 5) pe_int) pe_int (nomark _))
      (pss_one (ps_set (i := 6) sc_law.nd rfl (.inl rfl) (pe_callB (call_max2 rfl) (by rfl) T.m_max (by decide +kernel) (pa_cons pe_int (pa_cons (pe_op op_sub (pv 6) pe_int) pa_nil)))))
      pss_nil)
    (Evl.pss_cut (ps_if (pt_cmpR op_eq (pe_op op_mod (pv 5) pe_int) pe_int (nomark _))
      (pss_one (ps_set (i := 6) sc_law.nd rfl (.inl rfl) (pe_op op_mod (pe_op op_fdiv (pv 5) pe_int) pe_int)))
      pss_nil)
    (pss_cons (ps_set (i := 7) sc_law.nd rfl (.inl rfl) pe_non)
    (pss_cons (ps_for PassesOwn.never rfl (pi_list (pv 4)) (pg_name (i := 8) sc_law.nd rfl (.inl rfl))
      (pss_one (ps_if (PW.pt (pw_and (pt_cmpR op_eq (pe_call G__law_worth (hr.mono (by decide)) (by rfl) T.g__law_worth T.f__law_worth.kp T.p__law_worth .nil pass0 (pa_cons (pv 2) (pa_cons (pv 8) pa_nil))) (pv 6) (nomark _)) (pw_and1 (PW.pt (pw_or (pt_cmpR op_isN (pv 7) pe_non (nomark _)) (pw_or1 (pt_val (pe_call G__law_better (hr.mono (by decide)) (by rfl) T.g__law_better T.f__law_better.kp T.p__law_better .nil pass0 (pa_cons (pv 8) (pa_cons (pv 7) pa_nil))))))))))
        (pss_one (ps_set (i := 7) sc_law.nd rfl (.inl rfl) (pv 8)))
        pss_nil)))
    (pss_cons (ps_set (i := 9) sc_law.nd rfl (.inl rfl) (pe_call G__law_deal (hr.mono (by decide)) (by rfl) T.g__law_deal T.f__law_deal.kp T.p__law_deal .nil pass0 (pa_cons (pv 2) (pa_cons (pv 3) (pa_cons (pv 6) pa_nil)))))
    (pss_cons (ps_if (pt_cmpR op_isN (pv 7) pe_non (nomark _))
      (pss_one (ps_ret (pe_cmpR op_isN (pv 9) pe_non (nomark _))))
      pss_nil)
    (pss_cons (ps_if (PW.pt (pw_or (pt_not (pt_val (pe_callB call_isi (by rfl) T.m_isinstance (by decide +kernel) (pa_cons (pv 9) (pa_cons (pe_bltn (v := .ty "tuple") (by rfl) T.m_tuple (by decide +kernel) rfl) pa_nil))))) (pw_or1 (pt_cmpR op_ne (pe_callB call_len_seq (by rfl) T.m_len (by decide +kernel) (pa_cons (pv 9) pa_nil)) pe_int (nomark _)))))
      (pss_one (ps_ret pe_bl))
      pss_nil)
    (pss_cons (ps_setLc (i := 10) (own := [("_law_pair", 12), ("_law_many", 13)]) (g := gTup K 2 (gCons (gName 12) (gCons (gName 13) gNil))) rfl sc_law.nd rfl rfl (sw_true rfl rfl rfl (by decide +kernel)) (pi_zip (by rfl) T.m_zip (pa_cons (pv 2) (pa_cons (pv 7) pa_nil))) (blkOk_by (own := [("_law_pair", 12), ("_law_many", 13)]) (N := N_law) (sc := defScope s_law) (by decide +kernel)) (fun _ _ _ _ _ => pg_tup rfl (pgs_cons (pg_name (i := 12) sc_law.nd rfl (.inl rfl) (.inr rfl)) (pgs_cons (pg_name (i := 13) sc_law.nd rfl (.inl rfl) (.inr rfl)) pgs_nil))) (fun _ _ _ _ _ => (pts_one (pt_cmpR op_gt (pv 13) pe_int (nomark _)))) (fun _ _ _ _ _ => (pe_tup (pa_cons (pe_ix (r := rIxT K) ix_tup (pv 12) pe_int (fun _ _ => rfl)) (pa_cons (pv 13) pa_nil)))))
    (pss_cons (ps_setLc (i := 11) (own := [("_law_pair", 12), ("_law_many", 13)]) (g := gTup K 2 (gCons (gName 12) (gCons (gName 13) gNil))) rfl sc_law.nd rfl rfl (sw_true rfl rfl rfl (by decide +kernel)) (pi_zip (by rfl) T.m_zip (pa_cons (pv 2) (pa_cons (pv 7) pa_nil))) (blkOk_by (own := [("_law_pair", 12), ("_law_many", 13)]) (N := N_law) (sc := defScope s_law) (by decide +kernel)) (fun _ _ _ _ _ => pg_tup rfl (pgs_cons (pg_name (i := 12) sc_law.nd rfl (.inl rfl) (.inr rfl)) (pgs_cons (pg_name (i := 13) sc_law.nd rfl (.inl rfl) (.inr rfl)) pgs_nil))) (fun _ _ _ _ _ => (pts_one (pt_cmpR op_lt (pv 13) pe_int (nomark _)))) (fun _ _ _ _ _ => (pe_tup (pa_cons (pe_ix (r := rIxT K) ix_tup (pv 12) pe_int (fun _ _ => rfl)) (pa_cons (pe_op op_sub pe_int (pv 13)) pa_nil)))))
    (pss_cons (ps_if (PW.pt (pw_or (pt_not (pt_val (pe_call G__law_pairs_alike (hr.mono (by decide)) (by rfl) T.g__law_pairs_alike T.f__law_pairs_alike.kp T.p__law_pairs_alike .nil pass0 (pa_cons (pe_ix ix_tup (pv 9) pe_int (fun _ _ => rfl)) (pa_cons (pv 10) pa_nil))))) (pw_or1 (pt_not (pt_val (pe_call G__law_pairs_alike (hr.mono (by decide)) (by rfl) T.g__law_pairs_alike T.f__law_pairs_alike.kp T.p__law_pairs_alike .nil pass0 (pa_cons (pe_ix ix_tup (pv 9) pe_int (fun _ _ => rfl)) (pa_cons (pv 11) pa_nil))))))))
      (pss_one (ps_ret pe_bl))
      pss_nil)
    (pss_cons (ps_expr (pe_bm PySem.F.plainAttrs_list PySem.F.slot_list_append PySem.F.type_list_append mt_append (pe_ix ix_tup (pv 9) pe_int (fun _ _ => rfl)) (pa_cons (pe_tup (pa_cons pe_int (pa_cons pe_int pa_nil))) pa_nil)))
    (pss_cons (ps_expr (pe_bm PySem.F.plainAttrs_list PySem.F.slot_list_append PySem.F.type_list_append mt_append (pe_ix ix_tup (pv 9) pe_int (fun _ _ => rfl)) (pa_cons (pe_tup (pa_cons pe_int (pa_cons pe_int pa_nil))) pa_nil)))
    (pss_one (ps_ret (pe_cmpR (op_eqD hr.units) (pe_call G_deal (hr.mono (by decide)) (by rfl) T.g_deal T.f_deal.kp T.p_deal .nil passL (pa_cons (pv 2) (pa_cons (pv 3) (pa_cons (pv 6) pa_nil)))) (pe_tup (pa_cons (pv 10) (pa_cons (pv 11) pa_nil))) (nomark _)))))))))))))))))))))), ?_⟩
    refine ⟨_, rfl, a, ns, 3, rfl, hS, by decide, by decide, fun l0 t0 u0 xs0 ys0 ps0 us0 H1 e1 hl0 el0 ht0 hu0 n1 n2 n3 et0 eu0 hp0 hq0 r1 r2 hd2 h1 _ h3 => ?_⟩
    have hlen3 := h3 (by decide)
    have hl0' := hp0.len
    have hus3 : us0.length ≤ 3 := by have := hd2.few; omega
    have hul := hq0.len
    refine ⟨_, rfl, l0, _, _, .ref t0, rfl, rfl, .of el0, rfl, t0, rfl, ⟨xs0, .of et0⟩, fun D hD => lc_list (xs := xs0) (fun i H' => ∃ zs, Ex H1 H' ∧ H' D = some (.lst zs) ∧ zs.length = i ∧ Prs H' zs ((ps0.take i).map (capP 6))) ⟨[], Ex.nw hD, upd_same, rfl, .nil⟩ (fun i H' _ h => by
      obtain ⟨_, e, _⟩ := h
      exact .of (e _ _ et0)) ?_ ?_⟩
    · rintro i x H' hx ⟨zs, ex, eD, hzl, hz⟩
      obtain ⟨p, t1, h1, rfl, h3⟩ := Prs.get hp0 hx
      have hi : i < ps0.length := (List.getElem?_eq_some_iff.mp h1).1
      refine ⟨rfl, t_yes ?_⟩
      refine ⟨_, rfl, t1, _, 0, .int p.1, rfl, rfl, .of (ex _ _ h3), rfl, _, rfl, t1, _, 1, .int p.2, rfl, rfl, .of (ex _ _ h3), rfl, p.2, 6, rfl, len63 (by show 2 ≤ _; decide), fun t2 ht2 => ?_⟩
      have nDt : D ≠ t2 := ne_of_none eD ht2
      have eD' : (upd H' t2 (.tup [.int p.1, .int (if 6 < p.2 then 6 else p.2)])) D = some (.lst zs) := by rw [upd_ne nDt]; exact eD
      refine ⟨zs, eD', len63' (by omega), zs ++ [.ref t2], Ex.mu (ex.tr (Ex.nw ht2)) hD, upd_same, by rw [List.length_append, hzl]; rfl, ?_⟩
      rw [take_snoc h1, List.map_append]
      refine Prs.up (by intro bs y; rw [eD'] at y; cases y) ?_
      exact Prs.snoc (hz.ex (Ex.nw ht2)) ⟨t2, rfl, upd_same⟩
    rintro H2 ⟨xs, e2, eD, _, hp⟩
    rw [List.take_of_length_le (by omega)] at hp
    have el2 := e2 _ _ el0
    have eu2 := e2 _ _ eu0
    have hq2 := hq0.ex e2
    refine ⟨_, rfl, l0, _, _, .ref u0, rfl, rfl, .of el2, rfl, u0, rfl, ⟨ys0, .of eu2⟩, fun F hF => lc_list (xs := ys0) (fun i H' => ∃ zs, Ex H2 H' ∧ H' F = some (.lst zs) ∧ zs.length = i ∧ Prs H' zs ((us0.take i).map (capP 5))) ⟨[], Ex.nw hF, upd_same, rfl, .nil⟩ (fun i H' _ h => by
      obtain ⟨_, e, _⟩ := h
      exact .of (e _ _ eu2)) ?_ ?_⟩
    · rintro i x H' hx ⟨zs, ex, eD, hzl, hz⟩
      obtain ⟨p, t1, h1, rfl, h3⟩ := Prs.get hq2 hx
      have hi : i < us0.length := (List.getElem?_eq_some_iff.mp h1).1
      refine ⟨rfl, t_yes ?_⟩
      refine ⟨_, rfl, t1, _, 0, .int p.1, rfl, rfl, .of (ex _ _ h3), rfl, _, rfl, t1, _, 1, .int p.2, rfl, rfl, .of (ex _ _ h3), rfl, p.2, 5, rfl, len63 (by show 2 ≤ _; decide), fun t2 ht2 => ?_⟩
      have nDt : F ≠ t2 := ne_of_none eD ht2
      have eD' : (upd H' t2 (.tup [.int p.1, .int (if 5 < p.2 then 5 else p.2)])) F = some (.lst zs) := by rw [upd_ne nDt]; exact eD
      refine ⟨zs, eD', len63' (by omega), zs ++ [.ref t2], Ex.mu (ex.tr (Ex.nw ht2)) hF, upd_same, by rw [List.length_append, hzl]; rfl, ?_⟩
      rw [take_snoc h1, List.map_append]
      refine Prs.up (by intro bs y; rw [eD'] at y; cases y) ?_
      exact Prs.snoc (hz.ex (Ex.nw ht2)) ⟨t2, rfl, upd_same⟩
    rintro H3 ⟨ys, e3, eF, _, hq⟩
    rw [List.take_of_length_le (by omega)] at hq
    have eD3 := e3 _ _ eD
    have hp3 := hp.ex e3
    obtain ⟨hsm, hw6⟩ := cap_small r1 r2 hd2 h1 (by omega)
    have hg2 := small_gen hsm
    have hdue := small_due hsm hw6
    generalize ps0.map (capP 6) = ps at hp3 hsm hw6 hg2 hdue
    generalize us0.map (capP 5) = us at hq hsm hw6 hg2 hdue
    refine ⟨_, rfl, _, rfl, D, F, ps, us, rfl, ⟨xs, .of eD3, hp3⟩, ⟨ys, .of eF, hq⟩, hsm, fun W as H4 e4 eW hws => ?_⟩
    have ex4 := ((e1.tr e2).tr e3).tr e4
    refine ⟨_, rfl, a, ns, 3, rfl, ex4.seq hS, ?_⟩
    have hkl : (kindsOf ps us).length = ps.length := kindsOf_len _ _
    have hasl := hws.len
    have hpos := waysD_pos (kindsOf ps us) ps.length (by omega)
    have j0 : 0 ≤ cell ns 3 / 4 % (as.length : Int) := Int.emod_nonneg _ (by omega)
    have j1 : cell ns 3 / 4 % (as.length : Int) < (as.length : Int) := Int.emod_lt_of_pos _ (by omega)
    obtain ⟨j, hj⟩ : ∃ j : Nat, cell ns 3 / 4 % (as.length : Int) = (j : Int) := ⟨_, (Int.toNat_of_nonneg j0).symm⟩
    have hja : j < as.length := by omega
    obtain ⟨w0, hw0, ew0⟩ := hws.getA (List.getElem?_eq_getElem hja)
    have ha0 := List.getElem?_eq_getElem hja
    generalize as[j] = a0 at ew0 ha0
    have hwl := waysD_len (by omega) (List.mem_of_getElem? hw0)
    have hvv : ∀ p ∈ ps, 1 ≤ p.1 ∧ p.1 ≤ 1000 := fun p hp => by
      have := hsm.2.2.2.2.2.1 p hp
      omega
    have hpx : Till K H4 D ps := ⟨xs, .of (e4 _ _ eD3), hp3.ex e4⟩
    have lenW : ((as.map V.ref).length : Int) = as.length := by rw [List.length_map]
    have it : atI (as.map V.ref) (cell ns 3 / 4 % ((as.map V.ref).length : Int)) = some (.ref a0) := at_of (j := j) (by rw [lenW]; exact hj) (by rw [List.getElem?_map, ha0]; rfl)
    refine ⟨_, rfl, _, rfl, _, rfl, _, _, rfl, rfl, ⟨by decide, by decide⟩, _, rfl, W, _, rfl, .inl (.of eW), _, _, rfl, rfl, by rw [lenW]; omega, W, _, _, _, rfl, rfl, .of eW, it, D, a0, ps, us, w0, rfl, hpx, ew0, hwl.symm, hvv, fun H5 e5 => ?_⟩
    refine ⟨_, rfl, _, _, rfl, rfl, by show (0 : Int) < 1001; decide, ?_⟩
    generalize hc0 : (if worthD (kindsOf ps us) w0 < 0 then -worthD (kindsOf ps us) w0 else worthD (kindsOf ps us) w0) % 1001 = c0
    have hc1 : 0 ≤ c0 ∧ c0 ≤ 1000 := by omega
    have ex5 := ex4.tr e5
    refine ⟨fun σ' H' => ∃ c : Int, (0 ≤ c ∧ c ≤ 1000) ∧ σ' = [some (.ref a), some (.ref l0), some (.ref D), some (.ref F), some (.ref W), some (.int (cell ns 3)), some (.int c), none, none, none, none, none, none, none] ∧ H' = H5, ?_, ?_⟩
    · repeat (first | refine ⟨_, rfl, ?_⟩ | refine ⟨(by show (0 : Int) < _; decide), ?_⟩ | refine ⟨⟨by decide, by decide⟩, ?_⟩ | refine ⟨.inr ⟨by decide, by decide⟩, ?_⟩ | refine ⟨.inl ⟨by decide, by decide⟩, ?_⟩ | refine ⟨⟨by decide, by decide, by decide⟩, ?_⟩ | refine ⟨_, _, rfl, rfl, ?_⟩ | refine ⟨rfl, _, rfl, ?_⟩)
      first | refine iteVI (fun e => ?_) (fun e => ?_) | refine iteVN (fun e => ?_) (fun e => ?_) | refine iteD (fun e => ?_) (fun e => ?_) | refine iteDN (fun e => ?_) (fun e => ?_) | refine iteB (fun e => ?_) (fun e => ?_)
      · refine ⟨_, rfl, _, _, rfl, rfl, 0, c0 - 1, by rw [← hc0], (if c0 - 1 > 0 then c0 - 1 else 0), ?_, rfl, rfl⟩
        split <;> omega
      · exact ⟨c0, hc1, by rw [← hc0]; rfl, rfl⟩
    rintro σ' H' ⟨c1, hc1', rfl, rfl⟩
    refine ⟨fun σ' H2 => ∃ c : Int, (0 ≤ c ∧ c ≤ 1000) ∧ σ' = [some (.ref a), some (.ref l0), some (.ref D), some (.ref F), some (.ref W), some (.int (cell ns 3)), some (.int c), none, none, none, none, none, none, none] ∧ H2 = H', ?_, ?_⟩
    · repeat (first | refine ⟨_, rfl, ?_⟩ | refine ⟨(by show (0 : Int) < _; decide), ?_⟩ | refine ⟨⟨by decide, by decide⟩, ?_⟩ | refine ⟨.inr ⟨by decide, by decide⟩, ?_⟩ | refine ⟨.inl ⟨by decide, by decide⟩, ?_⟩ | refine ⟨⟨by decide, by decide, by decide⟩, ?_⟩ | refine ⟨_, _, rfl, rfl, ?_⟩ | refine ⟨rfl, _, rfl, ?_⟩)
      first | refine iteVI (fun e => ?_) (fun e => ?_) | refine iteVN (fun e => ?_) (fun e => ?_) | refine iteD (fun e => ?_) (fun e => ?_) | refine iteDN (fun e => ?_) (fun e => ?_) | refine iteB (fun e => ?_) (fun e => ?_)
      · repeat (first | refine ⟨_, rfl, ?_⟩ | refine ⟨(by show (0 : Int) < _; decide), ?_⟩ | refine ⟨⟨by decide, by decide⟩, ?_⟩ | refine ⟨.inr ⟨by decide, by decide⟩, ?_⟩ | refine ⟨.inl ⟨by decide, by decide⟩, ?_⟩ | refine ⟨⟨by decide, by decide, by decide⟩, ?_⟩ | refine ⟨_, _, rfl, rfl, ?_⟩ | refine ⟨rfl, _, rfl, ?_⟩)
        refine ⟨_, ?_, rfl, rfl⟩
        omega
      · exact ⟨c1, hc1', rfl, rfl⟩
    rintro σ' H5 ⟨c, hc, rfl, rfl⟩
    have hl0 : lacks ps us = false := by
      cases z : lacks ps us with
      | false => rfl
      | true =>
        unfold dueS at hdue
        rw [if_pos z] at hdue
        cases hdue
    have hdl : dueDl ps us c = if cellD ps us c = none then ("change" : Str) else ("" : Str) := by
      unfold dueDl
      rw [if_pos hc, if_pos hdue]
    obtain ⟨some_of, best_of⟩ := way_best (c := c) hg2 hl0
    have hks : ∀ w ∈ waysD (kindsOf ps us) ps.length, w.length = ps.length := fun w hw => waysD_len (by omega) hw
    have hps3 := hsm.2.1
    have hgl : (wayOf ps us c).length = ps.length := wayL_len ..
    generalize hG : wayOf ps us c = G at best_of hgl
    generalize hvs : waysD (kindsOf ps us) ps.length = vs at hws some_of best_of hks hasl
    have eW5 := e5 _ _ eW
    have hws5 := hws.ex e5
    have hp5 := hpx.ex e5
    have eD5 : H5 D = some (.lst xs) := e5 _ _ (e4 _ _ eD3)
    have eF5 : H5 F = some (.lst ys) := e5 _ _ (e4 _ _ eF)
    have hpr5 : Prs H5 xs ps := (hp3.ex e4).ex e5
    have hqr5 : Prs H5 ys us := (hq.ex e4).ex e5
    refine ⟨_, rfl, W, rfl, ⟨_, .of eW5⟩, for_list (xs := as.map V.ref) (fun i σ H' => ∃ (b : V) (y8 : Option V), σ = [some (.ref a), some (.ref l0), some (.ref D), some (.ref F), some (.ref W), some (.int (cell ns 3)), some (.int c), some b, y8, none, none, none, none, none] ∧ Ex H5 H' ∧
        ((b = .non ∧ ∀ w ∈ vs.take i, worthD (kindsOf ps us) w ≠ c) ∨ ∃ x wv, b = .ref x ∧ H' x = some (.lst (wv.map V.int)) ∧ wv ∈ vs ∧ worthD (kindsOf ps us) wv = c ∧ (G ∈ vs.take i → wv = G)))
      ⟨.non, _, rfl, Ex.rfl', .inl ⟨rfl, by simp⟩⟩ (fun i σ H' _ h => by
        obtain ⟨_, _, _, e, _⟩ := h
        exact .of (e _ _ eW5)) ?_ ?_⟩
    · rintro i x σ H6 hx ⟨b, y8, rfl, ex6, hb⟩
      rw [List.getElem?_map] at hx
      obtain ⟨xa, hxa, rfl⟩ := Option.map_eq_some_iff.mp hx
      obtain ⟨wi, hwi, ewi⟩ := hws5.getA hxa
      have hwm := List.mem_of_getElem? hwi
      have htk := take_snoc hwi
      refine ⟨_, rfl, _, rfl, D, xa, ps, us, wi, rfl, hp5.ex ex6, ex6 _ _ ewi, (hks _ hwm).symm, hvv, fun H7 e7 => ?_⟩
      have ex7 := ex6.tr e7
      have ewi7 := ex7 _ _ ewi
      refine ⟨_, rfl, rfl, _, rfl, iteVI (fun hv => ?_) (fun hv => ?_)⟩
      · rcases hb with ⟨rfl, hno⟩ | ⟨xb, wb, rfl, eb, hwb, hwbn, hGb⟩
        · refine ⟨_, rfl, rfl, _, rfl, iteD (fun _ => iteT ?_) (fun z => absurd rfl z)⟩
          refine ⟨_, rfl, _, _, rfl, ex7, .inr ⟨xa, wi, rfl, ewi7, hwm, hv, fun hGi => ?_⟩⟩
          rw [htk] at hGi
          rcases List.mem_append.mp hGi with h | h
          · obtain ⟨m, hm, _⟩ := some_of wi hwm hv
            exact absurd (best_of m hm).2.1 (hno G h)
          · exact (List.mem_singleton.mp h).symm
        · have hne : ¬ V.ref xb = V.non := fun z => nomatch z
          have eb7 := e7 _ _ eb
          obtain ⟨m, hm, _⟩ := some_of wi hwm hv
          obtain ⟨b1, b2, _, b3⟩ := best_of m hm
          refine ⟨_, rfl, rfl, _, rfl, iteD (fun z => absurd z hne) (fun _ => ?_)⟩
          refine ⟨_, rfl, _, rfl, xa, xb, wi, wb, rfl, ewi7, eb7, by rw [hks _ hwm, hks _ hwb], by rw [hks _ hwm]; omega, fun H8 e8 => ⟨_, rfl, iteB (fun y => ?_) (fun y => ?_)⟩⟩
          · refine ⟨_, rfl, _, _, rfl, ex7.tr e8, .inr ⟨xa, wi, rfl, e8 _ _ ewi7, hwm, hv, fun hGi => ?_⟩⟩
            rw [htk] at hGi
            by_cases e : wi = G
            · exact e
            · rcases List.mem_append.mp hGi with h | h
              · rw [hGb h, (b3 wi hwm hv e).2] at y
                cases y
              · exact absurd (List.mem_singleton.mp h).symm e
          · refine ⟨_, _, rfl, ex7.tr e8, .inr ⟨xb, wb, rfl, e8 _ _ eb7, hwb, hwbn, fun hGi => ?_⟩⟩
            rw [htk] at hGi
            rcases List.mem_append.mp hGi with h | h
            · exact hGb h
            · by_cases e : wb = G
              · exact e
              · rw [← List.mem_singleton.mp h, (b3 wb hwb hwbn e).1] at y
                cases y
      · refine iteF ⟨_, _, rfl, ex7, ?_⟩
        rcases hb with ⟨rfl, hno⟩ | ⟨xb, wb, rfl, eb, hwb, hwbn, hGb⟩
        · refine .inl ⟨rfl, fun w hw => ?_⟩
          rw [htk] at hw
          rcases List.mem_append.mp hw with h | h
          · exact hno w h
          · rw [List.mem_singleton.mp h]
            exact hv
        · refine .inr ⟨xb, wb, rfl, e7 _ _ eb, hwb, hwbn, fun hGi => ?_⟩
          rw [htk] at hGi
          rcases List.mem_append.mp hGi with h | h
          · exact hGb h
          · obtain ⟨m, hm, _⟩ := some_of wb hwb hwbn
            have := (best_of m hm).2.1
            rw [List.mem_singleton.mp h] at this
            exact absurd this hv
    rintro σ H6 ⟨b, y8, rfl, ex6, hb⟩
    rw [List.take_of_length_le (by rw [List.length_map, hasl]; exact Nat.le_refl _)] at hb
    have eD6 := ex6 _ _ eD5
    have eF6 := ex6 _ _ eF5
    have hpr6 := hpr5.ex ex6
    have hqr6 := hqr5.ex ex6
    refine ⟨_, rfl, _, rfl, _, rfl, D, F, ps, us, c, rfl, ⟨xs, .of eD6, hpr6⟩, ⟨ys, .of eF6, hqr6⟩, hg2, fun hd => ?_, fun hd => ?_, fun hd H7 e7 => ?_, fun hd => ?_⟩
    · rw [hdl] at hd
      split at hd <;> cases hd
    · rw [hdl] at hd
      split at hd <;> cases hd
    · have hcn : cellD ps us c = none := by
        rw [hdl] at hd
        split at hd
        · assumption
        · cases hd
      rcases hb with ⟨rfl, _⟩ | ⟨xb, wb, rfl, eb, hwb, hwbn, hGb⟩
      · refine ⟨_, rfl, rfl, _, rfl, iteD (fun _ => ?_) (fun z => absurd rfl z)⟩
        refine ⟨_, rfl, rfl, ?_⟩
        rw [decide_eq_true rfl]
        exact q _
      · obtain ⟨m, hm, _⟩ := some_of wb hwb hwbn
        rw [hcn] at hm
        cases hm
    obtain ⟨m, hm⟩ : ∃ m, cellD ps us c = some m := by
      rw [hdl] at hd
      split at hd
      · cases hd
      · exact Option.ne_none_iff_exists'.mp (by assumption)
    obtain ⟨g1, g2, _, g3⟩ := best_of m hm
    rcases hb with ⟨rfl, hno⟩ | ⟨xb, wb, rfl, eb, hwb, hwbn, hGb⟩
    · exact absurd g2 (hno G g1)
    obtain rfl := hGb g1
    rw [hG]
    intro l x y xs8 ys8 H7 e7 hl hx hy nlx nly nxy el ex ey hpa hga
    have hne : ¬ V.ref xb = V.non := fun z => nomatch z
    have eb7 := e7 _ _ eb
    refine ⟨_, rfl, rfl, _, rfl, iteD (fun z => absurd z hne) (fun _ => ?_)⟩
    refine ⟨_, rfl, _, _, _, _, true, rfl, .ty "tuple", .base (.tup el), kit_ty (by decide +kernel), _, rfl, iteF ?_⟩
    refine ⟨_, rfl, l, _, rfl, .inr (.of el), rfl, _, rfl, iteVN (fun z => absurd rfl z) (fun _ => ?_)⟩
    have eD7 := e7 _ _ eD6
    have hpr7 := hpr6.ex e7
    have hxl := hpr7.len
    have hwbl : wb.length = ps.length := hks _ g1
    -- what is paid
    refine ⟨_, rfl, _, rfl, D, xb, xs, _, rfl, .of eD7, .of eb7, fun PA hPA => ?_⟩
    refine lc_zip (zs := xs) (ys := wb.map V.int) (by rw [List.length_map, hxl, hwbl]) (fun i H' => ∃ acc, Ex H7 H' ∧ H' PA = some (.lst acc) ∧ Prs H' acc (payD ((kindsOf ps us).take i) (wb.take i)) ∧ acc.length ≤ i) ⟨[], Ex.nw hPA, upd_same, .nil, Nat.le_refl _⟩ (fun i H' _ h => by
      obtain ⟨_, e, _⟩ := h
      exact ⟨.of (e _ _ eD7), .of (e _ _ eb7)⟩) ?_ ?_
    · rintro i z y2 T5 H8 hx hy ⟨acc, ex8, eP, hacc, hal⟩ hT5
      obtain ⟨p, t2, h1, rfl, h3⟩ := Prs.get hpr7 hx
      rw [List.getElem?_map] at hy
      obtain ⟨j, hj, rfl⟩ := Option.map_eq_some_iff.mp hy
      have hi : i < ps.length := (List.getElem?_eq_some_iff.mp h1).1
      have e9 := ex8.tr (Ex.nw (o := .tup [.ref t2, .int j]) hT5)
      have nDT : PA ≠ T5 := ne_of_none eP hT5
      have hps := payD_snoc (ks := (kindsOf ps us).take i) (w := wb.take i) (p := (p.1, p.2, ownOf us p.1)) (j := j) (by rw [List.length_take, List.length_take]; omega)
      rw [← take_snoc (kindsOf_at (us := us) h1), ← take_snoc hj] at hps
      refine ⟨T5, _, rfl, .of upd_same, rfl, _, _, rfl, _, _, rfl, rfl, rfl, ?_⟩
      refine ⟨_, rfl, _, _, rfl, rfl, _, rfl, iteD (fun z => ?_) (fun z => ?_)⟩
      · have z' : 0 < j := z
        rw [if_pos z'] at hps
        refine ⟨_, rfl, t2, _, 0, .int p.1, rfl, rfl, .of (e9 _ _ h3), rfl, _, rfl, len63 (by show 2 ≤ _; decide), fun t9 ht9 => ?_⟩
        have eP9 : (upd H8 T5 (.tup [.ref t2, .int j])) PA = some (.lst acc) := by rw [upd_ne nDT]; exact eP
        have nD9 : PA ≠ t9 := ne_of_none eP9 ht9
        refine ⟨acc, by rw [upd_ne nD9]; exact eP9, len63' (by omega), acc ++ [.ref t9], Ex.mu (e9.tr (Ex.nw ht9)) hPA, upd_same, ?_, by rw [List.length_append]; show _ + 1 ≤ _; omega⟩
        rw [hps]
        refine Prs.up (by intro bs e; rw [upd_ne nD9, eP9] at e; cases e) ?_
        exact Prs.snoc ((hacc.ex (Ex.nw hT5)).ex (Ex.nw ht9)) ⟨t9, rfl, upd_same⟩
      · have z' : ¬ 0 < j := z
        rw [if_neg z', List.append_nil] at hps
        exact ⟨acc, e9, by rw [upd_ne nDT]; exact eP, by rw [hps]; exact hacc.ex (Ex.nw hT5), by omega⟩
    rintro H8 ⟨pa, e8, eP, hpa8, hpal⟩
    rw [List.take_of_length_le (by omega), List.take_of_length_le (by omega)] at hpa8
    have eD8 := e8 _ _ eD7
    have eb8 := e8 _ _ eb7
    have hpr8 := hpr7.ex e8
    -- what is given back
    refine ⟨_, rfl, _, rfl, D, xb, xs, _, rfl, .of eD8, .of eb8, fun GA hGA => ?_⟩
    refine lc_zip (zs := xs) (ys := wb.map V.int) (by rw [List.length_map, hxl, hwbl]) (fun i H' => ∃ acc, Ex H8 H' ∧ H' GA = some (.lst acc) ∧ Prs H' acc (giveD ((kindsOf ps us).take i) (wb.take i)) ∧ acc.length ≤ i) ⟨[], Ex.nw hGA, upd_same, .nil, Nat.le_refl _⟩ (fun i H' _ h => by
      obtain ⟨_, e, _⟩ := h
      exact ⟨.of (e _ _ eD8), .of (e _ _ eb8)⟩) ?_ ?_
    · rintro i z y2 T5 H9 hx hy ⟨acc, ex8, eP9, hacc, hal⟩ hT5
      obtain ⟨p, t2, h1, rfl, h3⟩ := Prs.get hpr8 hx
      rw [List.getElem?_map] at hy
      obtain ⟨j, hj, rfl⟩ := Option.map_eq_some_iff.mp hy
      have hi : i < ps.length := (List.getElem?_eq_some_iff.mp h1).1
      have e9 := ex8.tr (Ex.nw (o := .tup [.ref t2, .int j]) hT5)
      have nDT : GA ≠ T5 := ne_of_none eP9 hT5
      have hps := giveD_snoc (ks := (kindsOf ps us).take i) (w := wb.take i) (p := (p.1, p.2, ownOf us p.1)) (j := j) (by rw [List.length_take, List.length_take]; omega)
      rw [← take_snoc (kindsOf_at (us := us) h1), ← take_snoc hj] at hps
      refine ⟨T5, _, rfl, .of upd_same, rfl, _, _, rfl, _, _, rfl, rfl, rfl, ?_⟩
      refine ⟨_, rfl, _, _, rfl, rfl, _, rfl, iteD (fun z => ?_) (fun z => ?_)⟩
      · have z' : j < 0 := z
        rw [if_pos z'] at hps
        refine ⟨_, rfl, t2, _, 0, .int p.1, rfl, rfl, .of (e9 _ _ h3), rfl, _, rfl, _, _, rfl, rfl, len63 (by show 2 ≤ _; decide), fun t9 ht9 => ?_⟩
        have eQ9 : (upd H9 T5 (.tup [.ref t2, .int j])) GA = some (.lst acc) := by rw [upd_ne nDT]; exact eP9
        have nD9 : GA ≠ t9 := ne_of_none eQ9 ht9
        refine ⟨acc, by rw [upd_ne nD9]; exact eQ9, len63' (by omega), acc ++ [.ref t9], Ex.mu (e9.tr (Ex.nw ht9)) hGA, upd_same, ?_, by rw [List.length_append]; show _ + 1 ≤ _; omega⟩
        rw [hps]
        refine Prs.up (by intro bs e; rw [upd_ne nD9, eQ9] at e; cases e) ?_
        refine Prs.snoc ((hacc.ex (Ex.nw hT5)).ex (Ex.nw ht9)) ⟨t9, rfl, ?_⟩
        rw [upd_same]
        show some (HO.tup [V.int p.1, V.int (0 - j)]) = some (HO.tup [V.int p.1, V.int (-j)])
        rw [Int.zero_sub]
      · have z' : ¬ j < 0 := z
        rw [if_neg z', List.append_nil] at hps
        exact ⟨acc, e9, by rw [upd_ne nDT]; exact eP9, by rw [hps]; exact hacc.ex (Ex.nw hT5), by omega⟩
    rintro H9 ⟨ga, e9, eQ, hga9, hgal⟩
    rw [List.take_of_length_le (by omega), List.take_of_length_le (by omega)] at hga9
    have e79 : Ex H7 H9 := e8.tr e9
    have el9 := e79 _ _ el
    have ex9 := e79 _ _ ex
    have ey9 := e79 _ _ ey
    have hpa9 := hpa.ex e79
    have hgx9 := hga.ex e79
    have eP9 := e9 _ _ eP
    have hpa9' := hpa8.ex e9
    refine ⟨_, rfl, l, _, 0, .ref x, rfl, rfl, .of el9, rfl, _, rfl, x, PA, xs8, _, rfl, ex9, hpa9, ⟨pa, .of eP9, hpa9'⟩, true, rfl, iteF ?_⟩
    refine ⟨_, rfl, l, _, 1, .ref y, rfl, rfl, .of el9, rfl, _, rfl, y, GA, ys8, _, rfl, ey9, hgx9, ⟨ga, .of eQ, hga9⟩, true, rfl, iteF ?_⟩
    have hpal8 := hpa.len
    have hgal8 := hga.len
    have hpal9 := hpa9'.len
    have hgal9 := hga9.len
    -- they grow
    refine ⟨_, rfl, l, _, 0, .ref x, rfl, rfl, .of el9, rfl, .inl ⟨rfl, xs8, .of ex9⟩, len63 (by show 2 ≤ _; decide), fun t7 ht7 => ?_⟩
    have nx7 : x ≠ t7 := ne_of_none ex9 ht7
    have ex10 : (upd H9 t7 (.tup [.int 7, .int 7])) x = some (.lst xs8) := by rw [upd_ne nx7]; exact ex9
    refine ⟨x, xs8, _, rfl, rfl, ex10, len63' (by omega), ?_⟩
    have nxP : PA ≠ x := fun z => by rw [z] at hPA; rw [hPA] at ex; cases ex
    have nyP : PA ≠ y := fun z => by rw [z] at hPA; rw [hPA] at ey; cases ey
    have nxG : GA ≠ x := fun z => by rw [z, e8 _ _ ex] at hGA; cases hGA
    have nyG : GA ≠ y := fun z => by rw [z, e8 _ _ ey] at hGA; cases hGA
    have e67 : Ex H6 H9 := e7.tr e79
    generalize hH11 : upd (upd H9 t7 (.tup [.int 7, .int 7])) x (.lst (xs8 ++ [.ref t7])) = H11
    have e611 : Ex H6 H11 := hH11 ▸ Ex.mu (e67.tr (Ex.nw ht7)) hx
    have eP11 : H11 PA = some (.lst pa) := by rw [← hH11, upd_ne nxP]; exact (Ex.nw ht7) _ _ eP9
    have eQ11 : H11 GA = some (.lst ga) := by rw [← hH11, upd_ne nxG]; exact (Ex.nw ht7) _ _ eQ
    have el11 : H11 l = some (.tup [.ref x, .ref y]) := by rw [← hH11, upd_ne nlx]; exact (Ex.nw ht7) _ _ el9
    have ey11 : H11 y = some (.lst ys8) := by rw [← hH11, upd_ne nxy.symm]; exact (Ex.nw ht7) _ _ ey9
    have hpa11 : Prs H11 pa (payD (kindsOf ps us) wb) := hH11 ▸ (hpa9'.ex (Ex.nw ht7)).up (by intro bs z; rw [ex10] at z; cases z)
    have hga11 : Prs H11 ga (giveD (kindsOf ps us) wb) := hH11 ▸ (hga9.ex (Ex.nw ht7)).up (by intro bs z; rw [ex10] at z; cases z)
    clear hH11
    refine ⟨_, rfl, l, _, 1, .ref y, rfl, rfl, .of el11, rfl, .inl ⟨rfl, ys8, .of ey11⟩, len63 (by show 2 ≤ _; decide), fun t8 ht8 => ?_⟩
    have ny8 : y ≠ t8 := ne_of_none ey11 ht8
    have ey12 : (upd H11 t8 (.tup [.int 7, .int 7])) y = some (.lst ys8) := by rw [upd_ne ny8]; exact ey11
    refine ⟨y, ys8, _, rfl, rfl, ey12, len63' (by omega), ?_⟩
    generalize hH13 : upd (upd H11 t8 (.tup [.int 7, .int 7])) y (.lst (ys8 ++ [.ref t8])) = H13
    have e613 : Ex H6 H13 := hH13 ▸ Ex.mu (e611.tr (Ex.nw ht8)) hy
    have eP13 : H13 PA = some (.lst pa) := by rw [← hH13, upd_ne nyP]; exact (Ex.nw ht8) _ _ eP11
    have eQ13 : H13 GA = some (.lst ga) := by rw [← hH13, upd_ne nyG]; exact (Ex.nw ht8) _ _ eQ11
    have hpa13 : Prs H13 pa (payD (kindsOf ps us) wb) := hH13 ▸ (hpa11.ex (Ex.nw ht8)).up (by intro bs z; rw [ey12] at z; cases z)
    have hga13 : Prs H13 ga (giveD (kindsOf ps us) wb) := hH13 ▸ (hga11.ex (Ex.nw ht8)).up (by intro bs z; rw [ey12] at z; cases z)
    clear hH13
    -- once more
    refine ⟨_, rfl, _, rfl, _, rfl, D, F, ps, us, c, rfl, ⟨xs, .of (e613 _ _ eD6), hpr6.ex e613⟩, ⟨ys, .of (e613 _ _ eF6), hqr6.ex e613⟩, hg2, fun hd2 => ?_, fun hd2 => ?_, fun hd2 => ?_, fun _ => ?_⟩
    · rw [hd] at hd2
      cases hd2
    · rw [hd] at hd2
      cases hd2
    · rw [hd] at hd2
      cases hd2
    rw [hG]
    intro l2 x2 y2 xs9 ys9 H14 e14 _ _ _ _ _ _ el2 ex2 ey2 hpa2 hga2
    refine ⟨_, rfl, _, rfl, len63 (by show 2 ≤ _; decide), fun l3 hl3 => ?_⟩
    have n3 := Ex.nw (o := .tup [.ref PA, .ref GA]) hl3
    refine ⟨pairD (payD (kindsOf ps us) wb) (giveD (kindsOf ps us) wb), pairD (payD (kindsOf ps us) wb) (giveD (kindsOf ps us) wb),
      .tup (.of (n3 _ _ el2)) (.cons (till_dp (K := K) ⟨xs9, .of (n3 _ _ ex2), hpa2.ex n3⟩) (.cons (till_dp (K := K) ⟨ys9, .of (n3 _ _ ey2), hga2.ex n3⟩) .nil)),
      .tup (.of upd_same) (.cons (till_dp (K := K) ⟨pa, .of (n3 _ _ (e14 _ _ eP13)), (hpa13.ex e14).ex n3⟩) (.cons (till_dp (K := K) ⟨ga, .of (n3 _ _ (e14 _ _ eQ13)), (hga13.ex e14).ex n3⟩) .nil)), shaped_pair _ _, shaped_pair _ _, ?_⟩
    rw [eqv_of_shaped (shaped_pair _ _)]
    exact q _
theorem law_start {K : PySem.W.Frag} {H : Hp} {a : Addr} {ns : List Int} (hl : ns.length ≤ 63) (hO : Only H) (hS : SqL K H a (ns.map V.int)) : spLaw K [.ref a] H (fun v _ => v = .bl true) fun _ _ _ => False :=
  ⟨a, ns, rfl, hS, fun _ => rfl⟩
end
theorem tx_mk {K : PySem.W.Frag} {h : Heap} {mg : Str → Option Value} (X : K.In h) (G : h.Ns mainGlobals mg) {c_TillError : Addr} {c_NoKind : Addr} {c_NoSum : Addr} {c_NoChange : Addr} {a_worth : Addr} {od_0 an_0 : Option Addr} {sl_0 : Array (Option Value)} {oc_0 kV_0 dc_0 pm_0 cd_0 ct_0 : Value} {a_check_sum : Addr} {od_1 an_1 : Option Addr} {sl_1 : Array (Option Value)} {oc_1 kV_1 dc_1 pm_1 cd_1 ct_1 : Value} {a_with_kind : Addr} {od_2 an_2 : Option Addr} {sl_2 : Array (Option Value)} {oc_2 kV_2 dc_2 pm_2 cd_2 ct_2 : Value} {a__bundles : Addr} {od_3 an_3 : Option Addr} {sl_3 : Array (Option Value)} {oc_3 kV_3 dc_3 pm_3 cd_3 ct_3 : Value} {a__with_bundle : Addr} {od_4 an_4 : Option Addr} {sl_4 : Array (Option Value)} {oc_4 kV_4 dc_4 pm_4 cd_4 ct_4 : Value} {a_scales : Addr} {od_5 an_5 : Option Addr} {sl_5 : Array (Option Value)} {oc_5 kV_5 dc_5 pm_5 cd_5 ct_5 : Value} {a_deal : Addr} {od_6 an_6 : Option Addr} {sl_6 : Array (Option Value)} {oc_6 kV_6 dc_6 pm_6 cd_6 ct_6 : Value} {a__check_purse : Addr} {od_7 an_7 : Option Addr} {sl_7 : Array (Option Value)} {oc_7 kV_7 dc_7 pm_7 cd_7 ct_7 : Value} {a__with_numbers : Addr} {od_8 an_8 : Option Addr} {sl_8 : Array (Option Value)} {oc_8 kV_8 dc_8 pm_8 cd_8 ct_8 : Value} {a__best_way : Addr} {od_9 an_9 : Option Addr} {sl_9 : Array (Option Value)} {oc_9 kV_9 dc_9 pm_9 cd_9 ct_9 : Value} {a__greatest_number : Addr} {od_10 an_10 : Option Addr} {sl_10 : Array (Option Value)} {oc_10 kV_10 dc_10 pm_10 cd_10 ct_10 : Value} {a__law_cell_at : Addr} {od_11 an_11 : Option Addr} {sl_11 : Array (Option Value)} {oc_11 kV_11 dc_11 pm_11 cd_11 ct_11 : Value} {a__law_whole : Addr} {od_12 an_12 : Option Addr} {sl_12 : Array (Option Value)} {oc_12 kV_12 dc_12 pm_12 cd_12 ct_12 : Value} {a__law_mixed : Addr} {od_13 an_13 : Option Addr} {sl_13 : Array (Option Value)} {oc_13 kV_13 dc_13 pm_13 cd_13 ct_13 : Value} {a__law_value : Addr} {od_14 an_14 : Option Addr} {sl_14 : Array (Option Value)} {oc_14 kV_14 dc_14 pm_14 cd_14 ct_14 : Value} {a__law_till_and_purse : Addr} {od_15 an_15 : Option Addr} {sl_15 : Array (Option Value)} {oc_15 kV_15 dc_15 pm_15 cd_15 ct_15 : Value} {a__law_own : Addr} {od_16 an_16 : Option Addr} {sl_16 : Array (Option Value)} {oc_16 kV_16 dc_16 pm_16 cd_16 ct_16 : Value} {a__law_deal : Addr} {od_17 an_17 : Option Addr} {sl_17 : Array (Option Value)} {oc_17 kV_17 dc_17 pm_17 cd_17 ct_17 : Value} {a__law_ways : Addr} {od_18 an_18 : Option Addr} {sl_18 : Array (Option Value)} {oc_18 kV_18 dc_18 pm_18 cd_18 ct_18 : Value} {a__law_worth : Addr} {od_19 an_19 : Option Addr} {sl_19 : Array (Option Value)} {oc_19 kV_19 dc_19 pm_19 cd_19 ct_19 : Value} {a__law_few : Addr} {od_20 an_20 : Option Addr} {sl_20 : Array (Option Value)} {oc_20 kV_20 dc_20 pm_20 cd_20 ct_20 : Value} {a__law_better : Addr} {od_21 an_21 : Option Addr} {sl_21 : Array (Option Value)} {oc_21 kV_21 dc_21 pm_21 cd_21 ct_21 : Value} {a__law_pairs_alike : Addr} {od_22 an_22 : Option Addr} {sl_22 : Array (Option Value)} {oc_22 kV_22 dc_22 pm_22 cd_22 ct_22 : Value} {a_law : Addr} {od_23 an_23 : Option Addr} {sl_23 : Array (Option Value)} {oc_23 kV_23 dc_23 pm_23 cd_23 ct_23 : Value} {tk_MOST_SUM : Tok} {tk_MOST_WORTH : Tok}
    (g_TillError : PySem.W.nsIn K mainGlobals "TillError" = some (some (.ref c_TillError)))
    (x_TillError : PySem.W.excIn K c_TillError [.type "ValueError", .type "Exception", .type "BaseException", .type "object"] "ValueError.__new__" = true)
    (k_TillError : PySem.W.keepIn K (.ref c_TillError) = true)
    (b_TillError : PySem.W.subIn K (.ref c_TillError) (.type "BaseException") = some true)
    (t_TillError : PySem.W.typeIn K (.ref c_TillError) = some (.type "type"))
    (i_TillError : PySem.W.isClsIn K c_TillError = true)
    (g_NoKind : PySem.W.nsIn K mainGlobals "NoKind" = some (some (.ref c_NoKind)))
    (x_NoKind : PySem.W.excIn K c_NoKind [.type "ValueError", .type "Exception", .type "BaseException", .type "object"] "ValueError.__new__" = true)
    (k_NoKind : PySem.W.keepIn K (.ref c_NoKind) = true)
    (b_NoKind : PySem.W.subIn K (.ref c_NoKind) (.type "BaseException") = some true)
    (t_NoKind : PySem.W.typeIn K (.ref c_NoKind) = some (.type "type"))
    (i_NoKind : PySem.W.isClsIn K c_NoKind = true)
    (g_NoSum : PySem.W.nsIn K mainGlobals "NoSum" = some (some (.ref c_NoSum)))
    (x_NoSum : PySem.W.excIn K c_NoSum [.type "ValueError", .type "Exception", .type "BaseException", .type "object"] "ValueError.__new__" = true)
    (k_NoSum : PySem.W.keepIn K (.ref c_NoSum) = true)
    (b_NoSum : PySem.W.subIn K (.ref c_NoSum) (.type "BaseException") = some true)
    (t_NoSum : PySem.W.typeIn K (.ref c_NoSum) = some (.type "type"))
    (i_NoSum : PySem.W.isClsIn K c_NoSum = true)
    (g_NoChange : PySem.W.nsIn K mainGlobals "NoChange" = some (some (.ref c_NoChange)))
    (x_NoChange : PySem.W.excIn K c_NoChange [.type "ValueError", .type "Exception", .type "BaseException", .type "object"] "ValueError.__new__" = true)
    (k_NoChange : PySem.W.keepIn K (.ref c_NoChange) = true)
    (b_NoChange : PySem.W.subIn K (.ref c_NoChange) (.type "BaseException") = some true)
    (t_NoChange : PySem.W.typeIn K (.ref c_NoChange) = some (.type "type"))
    (i_NoChange : PySem.W.isClsIn K c_NoChange = true)
    (u_NoSum_NoKind : PySem.W.subIn K (.ref c_NoSum) (.ref c_NoKind) = some false)
    (u_NoSum_NoSum : PySem.W.subIn K (.ref c_NoSum) (.ref c_NoSum) = some true)
    (u_NoSum_NoChange : PySem.W.subIn K (.ref c_NoSum) (.ref c_NoChange) = some false)
    (u_NoChange_NoKind : PySem.W.subIn K (.ref c_NoChange) (.ref c_NoKind) = some false)
    (u_NoChange_NoSum : PySem.W.subIn K (.ref c_NoChange) (.ref c_NoSum) = some false)
    (u_NoChange_NoChange : PySem.W.subIn K (.ref c_NoChange) (.ref c_NoChange) = some true)
    (u_NoKind_NoKind : PySem.W.subIn K (.ref c_NoKind) (.ref c_NoKind) = some true)
    (u_NoKind_NoSum : PySem.W.subIn K (.ref c_NoKind) (.ref c_NoSum) = some false)
    (u_NoKind_NoChange : PySem.W.subIn K (.ref c_NoKind) (.ref c_NoChange) = some false)
    (g_worth : PySem.W.nsIn K mainGlobals "worth" = some (some (.ref a_worth)))
    (l_worth : K.lookup a_worth = some ⟨oc_0, od_0, .func (PySem.W.fnOf "worth" "worth" (defArgs s_worth) (defBody s_worth) (defScope s_worth) .none kV_0 dc_0 pm_0 an_0 cd_0 ct_0), sl_0⟩)
    (o_worth : PySem.W.codeIn K cd_0 "worth" = true)
    (k_worth : PySem.W.keepIn K (.ref a_worth) = true)
    (g_check_sum : PySem.W.nsIn K mainGlobals "check_sum" = some (some (.ref a_check_sum)))
    (l_check_sum : K.lookup a_check_sum = some ⟨oc_1, od_1, .func (PySem.W.fnOf "check_sum" "check_sum" (defArgs s_check_sum) (defBody s_check_sum) (defScope s_check_sum) .none kV_1 dc_1 pm_1 an_1 cd_1 ct_1), sl_1⟩)
    (o_check_sum : PySem.W.codeIn K cd_1 "check_sum" = true)
    (k_check_sum : PySem.W.keepIn K (.ref a_check_sum) = true)
    (g_with_kind : PySem.W.nsIn K mainGlobals "with_kind" = some (some (.ref a_with_kind)))
    (l_with_kind : K.lookup a_with_kind = some ⟨oc_2, od_2, .func (PySem.W.fnOf "with_kind" "with_kind" (defArgs s_with_kind) (defBody s_with_kind) (defScope s_with_kind) .none kV_2 dc_2 pm_2 an_2 cd_2 ct_2), sl_2⟩)
    (o_with_kind : PySem.W.codeIn K cd_2 "with_kind" = true)
    (k_with_kind : PySem.W.keepIn K (.ref a_with_kind) = true)
    (g__bundles : PySem.W.nsIn K mainGlobals "_bundles" = some (some (.ref a__bundles)))
    (l__bundles : K.lookup a__bundles = some ⟨oc_3, od_3, .func (PySem.W.fnOf "_bundles" "_bundles" (defArgs s__bundles) (defBody s__bundles) (defScope s__bundles) .none kV_3 dc_3 pm_3 an_3 cd_3 ct_3), sl_3⟩)
    (o__bundles : PySem.W.codeIn K cd_3 "_bundles" = true)
    (k__bundles : PySem.W.keepIn K (.ref a__bundles) = true)
    (g__with_bundle : PySem.W.nsIn K mainGlobals "_with_bundle" = some (some (.ref a__with_bundle)))
    (l__with_bundle : K.lookup a__with_bundle = some ⟨oc_4, od_4, .func (PySem.W.fnOf "_with_bundle" "_with_bundle" (defArgs s__with_bundle) (defBody s__with_bundle) (defScope s__with_bundle) .none kV_4 dc_4 pm_4 an_4 cd_4 ct_4), sl_4⟩)
    (o__with_bundle : PySem.W.codeIn K cd_4 "_with_bundle" = true)
    (k__with_bundle : PySem.W.keepIn K (.ref a__with_bundle) = true)
    (g_scales : PySem.W.nsIn K mainGlobals "scales" = some (some (.ref a_scales)))
    (l_scales : K.lookup a_scales = some ⟨oc_5, od_5, .func (PySem.W.fnOf "scales" "scales" (defArgs s_scales) (defBody s_scales) (defScope s_scales) .none kV_5 dc_5 pm_5 an_5 cd_5 ct_5), sl_5⟩)
    (o_scales : PySem.W.codeIn K cd_5 "scales" = true)
    (k_scales : PySem.W.keepIn K (.ref a_scales) = true)
    (g_deal : PySem.W.nsIn K mainGlobals "deal" = some (some (.ref a_deal)))
    (l_deal : K.lookup a_deal = some ⟨oc_6, od_6, .func (PySem.W.fnOf "deal" "deal" (defArgs s_deal) (defBody s_deal) (defScope s_deal) .none kV_6 dc_6 pm_6 an_6 cd_6 ct_6), sl_6⟩)
    (o_deal : PySem.W.codeIn K cd_6 "deal" = true)
    (k_deal : PySem.W.keepIn K (.ref a_deal) = true)
    (g__check_purse : PySem.W.nsIn K mainGlobals "_check_purse" = some (some (.ref a__check_purse)))
    (l__check_purse : K.lookup a__check_purse = some ⟨oc_7, od_7, .func (PySem.W.fnOf "_check_purse" "_check_purse" (defArgs s__check_purse) (defBody s__check_purse) (defScope s__check_purse) .none kV_7 dc_7 pm_7 an_7 cd_7 ct_7), sl_7⟩)
    (o__check_purse : PySem.W.codeIn K cd_7 "_check_purse" = true)
    (k__check_purse : PySem.W.keepIn K (.ref a__check_purse) = true)
    (g__with_numbers : PySem.W.nsIn K mainGlobals "_with_numbers" = some (some (.ref a__with_numbers)))
    (l__with_numbers : K.lookup a__with_numbers = some ⟨oc_8, od_8, .func (PySem.W.fnOf "_with_numbers" "_with_numbers" (defArgs s__with_numbers) (defBody s__with_numbers) (defScope s__with_numbers) .none kV_8 dc_8 pm_8 an_8 cd_8 ct_8), sl_8⟩)
    (o__with_numbers : PySem.W.codeIn K cd_8 "_with_numbers" = true)
    (k__with_numbers : PySem.W.keepIn K (.ref a__with_numbers) = true)
    (g__best_way : PySem.W.nsIn K mainGlobals "_best_way" = some (some (.ref a__best_way)))
    (l__best_way : K.lookup a__best_way = some ⟨oc_9, od_9, .func (PySem.W.fnOf "_best_way" "_best_way" (defArgs s__best_way) (defBody s__best_way) (defScope s__best_way) .none kV_9 dc_9 pm_9 an_9 cd_9 ct_9), sl_9⟩)
    (o__best_way : PySem.W.codeIn K cd_9 "_best_way" = true)
    (k__best_way : PySem.W.keepIn K (.ref a__best_way) = true)
    (g__greatest_number : PySem.W.nsIn K mainGlobals "_greatest_number" = some (some (.ref a__greatest_number)))
    (l__greatest_number : K.lookup a__greatest_number = some ⟨oc_10, od_10, .func (PySem.W.fnOf "_greatest_number" "_greatest_number" (defArgs s__greatest_number) (defBody s__greatest_number) (defScope s__greatest_number) .none kV_10 dc_10 pm_10 an_10 cd_10 ct_10), sl_10⟩)
    (o__greatest_number : PySem.W.codeIn K cd_10 "_greatest_number" = true)
    (k__greatest_number : PySem.W.keepIn K (.ref a__greatest_number) = true)
    (g__law_cell_at : PySem.W.nsIn K mainGlobals "_law_cell_at" = some (some (.ref a__law_cell_at)))
    (l__law_cell_at : K.lookup a__law_cell_at = some ⟨oc_11, od_11, .func (PySem.W.fnOf "_law_cell_at" "_law_cell_at" (defArgs s__law_cell_at) (defBody s__law_cell_at) (defScope s__law_cell_at) .none kV_11 dc_11 pm_11 an_11 cd_11 ct_11), sl_11⟩)
    (o__law_cell_at : PySem.W.codeIn K cd_11 "_law_cell_at" = true)
    (k__law_cell_at : PySem.W.keepIn K (.ref a__law_cell_at) = true)
    (g__law_whole : PySem.W.nsIn K mainGlobals "_law_whole" = some (some (.ref a__law_whole)))
    (l__law_whole : K.lookup a__law_whole = some ⟨oc_12, od_12, .func (PySem.W.fnOf "_law_whole" "_law_whole" (defArgs s__law_whole) (defBody s__law_whole) (defScope s__law_whole) .none kV_12 dc_12 pm_12 an_12 cd_12 ct_12), sl_12⟩)
    (o__law_whole : PySem.W.codeIn K cd_12 "_law_whole" = true)
    (k__law_whole : PySem.W.keepIn K (.ref a__law_whole) = true)
    (g__law_mixed : PySem.W.nsIn K mainGlobals "_law_mixed" = some (some (.ref a__law_mixed)))
    (l__law_mixed : K.lookup a__law_mixed = some ⟨oc_13, od_13, .func (PySem.W.fnOf "_law_mixed" "_law_mixed" (defArgs s__law_mixed) (defBody s__law_mixed) (defScope s__law_mixed) .none kV_13 dc_13 pm_13 an_13 cd_13 ct_13), sl_13⟩)
    (o__law_mixed : PySem.W.codeIn K cd_13 "_law_mixed" = true)
    (k__law_mixed : PySem.W.keepIn K (.ref a__law_mixed) = true)
    (g__law_value : PySem.W.nsIn K mainGlobals "_law_value" = some (some (.ref a__law_value)))
    (l__law_value : K.lookup a__law_value = some ⟨oc_14, od_14, .func (PySem.W.fnOf "_law_value" "_law_value" (defArgs s__law_value) (defBody s__law_value) (defScope s__law_value) .none kV_14 dc_14 pm_14 an_14 cd_14 ct_14), sl_14⟩)
    (o__law_value : PySem.W.codeIn K cd_14 "_law_value" = true)
    (k__law_value : PySem.W.keepIn K (.ref a__law_value) = true)
    (g__law_till_and_purse : PySem.W.nsIn K mainGlobals "_law_till_and_purse" = some (some (.ref a__law_till_and_purse)))
    (l__law_till_and_purse : K.lookup a__law_till_and_purse = some ⟨oc_15, od_15, .func (PySem.W.fnOf "_law_till_and_purse" "_law_till_and_purse" (defArgs s__law_till_and_purse) (defBody s__law_till_and_purse) (defScope s__law_till_and_purse) .none kV_15 dc_15 pm_15 an_15 cd_15 ct_15), sl_15⟩)
    (o__law_till_and_purse : PySem.W.codeIn K cd_15 "_law_till_and_purse" = true)
    (k__law_till_and_purse : PySem.W.keepIn K (.ref a__law_till_and_purse) = true)
    (g__law_own : PySem.W.nsIn K mainGlobals "_law_own" = some (some (.ref a__law_own)))
    (l__law_own : K.lookup a__law_own = some ⟨oc_16, od_16, .func (PySem.W.fnOf "_law_own" "_law_own" (defArgs s__law_own) (defBody s__law_own) (defScope s__law_own) .none kV_16 dc_16 pm_16 an_16 cd_16 ct_16), sl_16⟩)
    (o__law_own : PySem.W.codeIn K cd_16 "_law_own" = true)
    (k__law_own : PySem.W.keepIn K (.ref a__law_own) = true)
    (g__law_deal : PySem.W.nsIn K mainGlobals "_law_deal" = some (some (.ref a__law_deal)))
    (l__law_deal : K.lookup a__law_deal = some ⟨oc_17, od_17, .func (PySem.W.fnOf "_law_deal" "_law_deal" (defArgs s__law_deal) (defBody s__law_deal) (defScope s__law_deal) .none kV_17 dc_17 pm_17 an_17 cd_17 ct_17), sl_17⟩)
    (o__law_deal : PySem.W.codeIn K cd_17 "_law_deal" = true)
    (k__law_deal : PySem.W.keepIn K (.ref a__law_deal) = true)
    (g__law_ways : PySem.W.nsIn K mainGlobals "_law_ways" = some (some (.ref a__law_ways)))
    (l__law_ways : K.lookup a__law_ways = some ⟨oc_18, od_18, .func (PySem.W.fnOf "_law_ways" "_law_ways" (defArgs s__law_ways) (defBody s__law_ways) (defScope s__law_ways) .none kV_18 dc_18 pm_18 an_18 cd_18 ct_18), sl_18⟩)
    (o__law_ways : PySem.W.codeIn K cd_18 "_law_ways" = true)
    (k__law_ways : PySem.W.keepIn K (.ref a__law_ways) = true)
    (g__law_worth : PySem.W.nsIn K mainGlobals "_law_worth" = some (some (.ref a__law_worth)))
    (l__law_worth : K.lookup a__law_worth = some ⟨oc_19, od_19, .func (PySem.W.fnOf "_law_worth" "_law_worth" (defArgs s__law_worth) (defBody s__law_worth) (defScope s__law_worth) .none kV_19 dc_19 pm_19 an_19 cd_19 ct_19), sl_19⟩)
    (o__law_worth : PySem.W.codeIn K cd_19 "_law_worth" = true)
    (k__law_worth : PySem.W.keepIn K (.ref a__law_worth) = true)
    (g__law_few : PySem.W.nsIn K mainGlobals "_law_few" = some (some (.ref a__law_few)))
    (l__law_few : K.lookup a__law_few = some ⟨oc_20, od_20, .func (PySem.W.fnOf "_law_few" "_law_few" (defArgs s__law_few) (defBody s__law_few) (defScope s__law_few) .none kV_20 dc_20 pm_20 an_20 cd_20 ct_20), sl_20⟩)
    (o__law_few : PySem.W.codeIn K cd_20 "_law_few" = true)
    (k__law_few : PySem.W.keepIn K (.ref a__law_few) = true)
    (g__law_better : PySem.W.nsIn K mainGlobals "_law_better" = some (some (.ref a__law_better)))
    (l__law_better : K.lookup a__law_better = some ⟨oc_21, od_21, .func (PySem.W.fnOf "_law_better" "_law_better" (defArgs s__law_better) (defBody s__law_better) (defScope s__law_better) .none kV_21 dc_21 pm_21 an_21 cd_21 ct_21), sl_21⟩)
    (o__law_better : PySem.W.codeIn K cd_21 "_law_better" = true)
    (k__law_better : PySem.W.keepIn K (.ref a__law_better) = true)
    (g__law_pairs_alike : PySem.W.nsIn K mainGlobals "_law_pairs_alike" = some (some (.ref a__law_pairs_alike)))
    (l__law_pairs_alike : K.lookup a__law_pairs_alike = some ⟨oc_22, od_22, .func (PySem.W.fnOf "_law_pairs_alike" "_law_pairs_alike" (defArgs s__law_pairs_alike) (defBody s__law_pairs_alike) (defScope s__law_pairs_alike) .none kV_22 dc_22 pm_22 an_22 cd_22 ct_22), sl_22⟩)
    (o__law_pairs_alike : PySem.W.codeIn K cd_22 "_law_pairs_alike" = true)
    (k__law_pairs_alike : PySem.W.keepIn K (.ref a__law_pairs_alike) = true)
    (g_law : PySem.W.nsIn K mainGlobals "law" = some (some (.ref a_law)))
    (l_law : K.lookup a_law = some ⟨oc_23, od_23, .func (PySem.W.fnOf "law" "law" (defArgs s_law) (defBody s_law) (defScope s_law) .none kV_23 dc_23 pm_23 an_23 cd_23 ct_23), sl_23⟩)
    (o_law : PySem.W.codeIn K cd_23 "law" = true)
    (k_law : PySem.W.keepIn K (.ref a_law) = true)
    (w_MOST_SUM : PySem.W.nsIn K mainGlobals "MOST_SUM" = some (some (.int 1000 tk_MOST_SUM)))
    (w_MOST_WORTH : PySem.W.nsIn K mainGlobals "MOST_WORTH" = some (some (.int 1500 tk_MOST_WORTH)))
    (m_abs : PySem.W.nsIn K mainGlobals "abs" = some none)
    (m_bool : PySem.W.nsIn K mainGlobals "bool" = some none)
    (m_dict : PySem.W.nsIn K mainGlobals "dict" = some none)
    (m_int : PySem.W.nsIn K mainGlobals "int" = some none)
    (m_isinstance : PySem.W.nsIn K mainGlobals "isinstance" = some none)
    (m_len : PySem.W.nsIn K mainGlobals "len" = some none)
    (m_list : PySem.W.nsIn K mainGlobals "list" = some none)
    (m_max : PySem.W.nsIn K mainGlobals "max" = some none)
    (m_min : PySem.W.nsIn K mainGlobals "min" = some none)
    (m_range : PySem.W.nsIn K mainGlobals "range" = some none)
    (m_reversed : PySem.W.nsIn K mainGlobals "reversed" = some none)
    (m_sorted : PySem.W.nsIn K mainGlobals "sorted" = some none)
    (m_sum : PySem.W.nsIn K mainGlobals "sum" = some none)
    (m_tuple : PySem.W.nsIn K mainGlobals "tuple" = some none)
    (m_zip : PySem.W.nsIn K mainGlobals "zip" = some none)
    : ∃ T : Tx K mg, T.a_law = a_law ∧ (∀ (s : Shared) (v : Value), BindsTo s T.d_law ⟨[v], []⟩ [("_law_script", v)]) := by
  have F_worth := fun_mk (st := s_worth) l_worth o_worth k_worth
  have B_worth := F_worth.binds (ps := P_worth) fun _ _ _ _ _ _ us hl => match us, hl with | [_], _ => rfl
  have F_check_sum := fun_mk (st := s_check_sum) l_check_sum o_check_sum k_check_sum
  have B_check_sum := F_check_sum.binds (ps := P_check_sum) fun _ _ _ _ _ _ us hl => match us, hl with | [_], _ => rfl
  have F_with_kind := fun_mk (st := s_with_kind) l_with_kind o_with_kind k_with_kind
  have B_with_kind := F_with_kind.binds (ps := P_with_kind) fun _ _ _ _ _ _ us hl => match us, hl with | [_, _, _], _ => rfl
  have F__bundles := fun_mk (st := s__bundles) l__bundles o__bundles k__bundles
  have B__bundles := F__bundles.binds (ps := P__bundles) fun _ _ _ _ _ _ us hl => match us, hl with | [_], _ => rfl
  have F__with_bundle := fun_mk (st := s__with_bundle) l__with_bundle o__with_bundle k__with_bundle
  have B__with_bundle := F__with_bundle.binds (ps := P__with_bundle) fun _ _ _ _ _ _ us hl => match us, hl with | [_, _, _], _ => rfl
  have F_scales := fun_mk (st := s_scales) l_scales o_scales k_scales
  have B_scales := F_scales.binds (ps := P_scales) fun _ _ _ _ _ _ us hl => match us, hl with | [_, _], _ => rfl
  have F_deal := fun_mk (st := s_deal) l_deal o_deal k_deal
  have B_deal := F_deal.binds (ps := P_deal) fun _ _ _ _ _ _ us hl => match us, hl with | [_, _, _], _ => rfl
  have F__check_purse := fun_mk (st := s__check_purse) l__check_purse o__check_purse k__check_purse
  have B__check_purse := F__check_purse.binds (ps := P__check_purse) fun _ _ _ _ _ _ us hl => match us, hl with | [_, _], _ => rfl
  have F__with_numbers := fun_mk (st := s__with_numbers) l__with_numbers o__with_numbers k__with_numbers
  have B__with_numbers := F__with_numbers.binds (ps := P__with_numbers) fun _ _ _ _ _ _ us hl => match us, hl with | [_, _, _, _], _ => rfl
  have F__best_way := fun_mk (st := s__best_way) l__best_way o__best_way k__best_way
  have B__best_way := F__best_way.binds (ps := P__best_way) fun _ _ _ _ _ _ us hl => match us, hl with | [_, _, _, _], _ => rfl
  have F__greatest_number := fun_mk (st := s__greatest_number) l__greatest_number o__greatest_number k__greatest_number
  have B__greatest_number := F__greatest_number.binds (ps := P__greatest_number) fun _ _ _ _ _ _ us hl => match us, hl with | [_, _, _, _, _, _], _ => rfl
  have F__law_cell_at := fun_mk (st := s__law_cell_at) l__law_cell_at o__law_cell_at k__law_cell_at
  have B__law_cell_at := F__law_cell_at.binds (ps := P__law_cell_at) fun _ _ _ _ _ _ us hl => match us, hl with | [_, _], _ => rfl
  have F__law_whole := fun_mk (st := s__law_whole) l__law_whole o__law_whole k__law_whole
  have B__law_whole := F__law_whole.binds (ps := P__law_whole) fun _ _ _ _ _ _ us hl => match us, hl with | [_], _ => rfl
  have F__law_mixed := fun_mk (st := s__law_mixed) l__law_mixed o__law_mixed k__law_mixed
  have B__law_mixed := F__law_mixed.binds (ps := P__law_mixed) fun _ _ _ _ _ _ us hl => match us, hl with | [_, _], _ => rfl
  have F__law_value := fun_mk (st := s__law_value) l__law_value o__law_value k__law_value
  have B__law_value := F__law_value.binds (ps := P__law_value) fun _ _ _ _ _ _ us hl => match us, hl with | [_, _], _ => rfl
  have F__law_till_and_purse := fun_mk (st := s__law_till_and_purse) l__law_till_and_purse o__law_till_and_purse k__law_till_and_purse
  have B__law_till_and_purse := F__law_till_and_purse.binds (ps := P__law_till_and_purse) fun _ _ _ _ _ _ us hl => match us, hl with | [_, _], _ => rfl
  have F__law_own := fun_mk (st := s__law_own) l__law_own o__law_own k__law_own
  have B__law_own := F__law_own.binds (ps := P__law_own) fun _ _ _ _ _ _ us hl => match us, hl with | [_, _], _ => rfl
  have F__law_deal := fun_mk (st := s__law_deal) l__law_deal o__law_deal k__law_deal
  have B__law_deal := F__law_deal.binds (ps := P__law_deal) fun _ _ _ _ _ _ us hl => match us, hl with | [_, _, _], _ => rfl
  have F__law_ways := fun_mk (st := s__law_ways) l__law_ways o__law_ways k__law_ways
  have B__law_ways := F__law_ways.binds (ps := P__law_ways) fun _ _ _ _ _ _ us hl => match us, hl with | [_, _], _ => rfl
  have F__law_worth := fun_mk (st := s__law_worth) l__law_worth o__law_worth k__law_worth
  have B__law_worth := F__law_worth.binds (ps := P__law_worth) fun _ _ _ _ _ _ us hl => match us, hl with | [_, _], _ => rfl
  have F__law_few := fun_mk (st := s__law_few) l__law_few o__law_few k__law_few
  have B__law_few := F__law_few.binds (ps := P__law_few) fun _ _ _ _ _ _ us hl => match us, hl with | [_], _ => rfl
  have F__law_better := fun_mk (st := s__law_better) l__law_better o__law_better k__law_better
  have B__law_better := F__law_better.binds (ps := P__law_better) fun _ _ _ _ _ _ us hl => match us, hl with | [_, _], _ => rfl
  have F__law_pairs_alike := fun_mk (st := s__law_pairs_alike) l__law_pairs_alike o__law_pairs_alike k__law_pairs_alike
  have B__law_pairs_alike := F__law_pairs_alike.binds (ps := P__law_pairs_alike) fun _ _ _ _ _ _ us hl => match us, hl with | [_, _], _ => rfl
  have F_law := fun_mk (st := s_law) l_law o_law k_law
  have B_law := F_law.binds (ps := P_law) fun _ _ _ _ _ _ us hl => match us, hl with | [_], _ => rfl
  exact ⟨{
    c_TillError := c_TillError,
    c_NoKind := c_NoKind,
    c_NoSum := c_NoSum,
    c_NoChange := c_NoChange,
    a_worth := a_worth, d_worth := _,
    a_check_sum := a_check_sum, d_check_sum := _,
    a_with_kind := a_with_kind, d_with_kind := _,
    a__bundles := a__bundles, d__bundles := _,
    a__with_bundle := a__with_bundle, d__with_bundle := _,
    a_scales := a_scales, d_scales := _,
    a_deal := a_deal, d_deal := _,
    a__check_purse := a__check_purse, d__check_purse := _,
    a__with_numbers := a__with_numbers, d__with_numbers := _,
    a__best_way := a__best_way, d__best_way := _,
    a__greatest_number := a__greatest_number, d__greatest_number := _,
    a__law_cell_at := a__law_cell_at, d__law_cell_at := _,
    a__law_whole := a__law_whole, d__law_whole := _,
    a__law_mixed := a__law_mixed, d__law_mixed := _,
    a__law_value := a__law_value, d__law_value := _,
    a__law_till_and_purse := a__law_till_and_purse, d__law_till_and_purse := _,
    a__law_own := a__law_own, d__law_own := _,
    a__law_deal := a__law_deal, d__law_deal := _,
    a__law_ways := a__law_ways, d__law_ways := _,
    a__law_worth := a__law_worth, d__law_worth := _,
    a__law_few := a__law_few, d__law_few := _,
    a__law_better := a__law_better, d__law_better := _,
    a__law_pairs_alike := a__law_pairs_alike, d__law_pairs_alike := _,
    a_law := a_law, d_law := _,
    g_TillError := PySem.W.mg_of X G g_TillError, x_TillError := x_TillError, k_TillError := k_TillError, b_TillError := b_TillError, t_TillError := t_TillError, i_TillError := i_TillError,
    g_NoKind := PySem.W.mg_of X G g_NoKind, x_NoKind := x_NoKind, k_NoKind := k_NoKind, b_NoKind := b_NoKind, t_NoKind := t_NoKind, i_NoKind := i_NoKind,
    g_NoSum := PySem.W.mg_of X G g_NoSum, x_NoSum := x_NoSum, k_NoSum := k_NoSum, b_NoSum := b_NoSum, t_NoSum := t_NoSum, i_NoSum := i_NoSum,
    g_NoChange := PySem.W.mg_of X G g_NoChange, x_NoChange := x_NoChange, k_NoChange := k_NoChange, b_NoChange := b_NoChange, t_NoChange := t_NoChange, i_NoChange := i_NoChange,
    u_NoSum_NoKind := u_NoSum_NoKind,
    u_NoSum_NoSum := u_NoSum_NoSum,
    u_NoSum_NoChange := u_NoSum_NoChange,
    u_NoChange_NoKind := u_NoChange_NoKind,
    u_NoChange_NoSum := u_NoChange_NoSum,
    u_NoChange_NoChange := u_NoChange_NoChange,
    u_NoKind_NoKind := u_NoKind_NoKind,
    u_NoKind_NoSum := u_NoKind_NoSum,
    u_NoKind_NoChange := u_NoKind_NoChange,
    f_worth := F_worth, p_worth := B_worth, g_worth := PySem.W.mg_of X G g_worth,
    f_check_sum := F_check_sum, p_check_sum := B_check_sum, g_check_sum := PySem.W.mg_of X G g_check_sum,
    f_with_kind := F_with_kind, p_with_kind := B_with_kind, g_with_kind := PySem.W.mg_of X G g_with_kind,
    f__bundles := F__bundles, p__bundles := B__bundles, g__bundles := PySem.W.mg_of X G g__bundles,
    f__with_bundle := F__with_bundle, p__with_bundle := B__with_bundle, g__with_bundle := PySem.W.mg_of X G g__with_bundle,
    f_scales := F_scales, p_scales := B_scales, g_scales := PySem.W.mg_of X G g_scales,
    f_deal := F_deal, p_deal := B_deal, g_deal := PySem.W.mg_of X G g_deal,
    f__check_purse := F__check_purse, p__check_purse := B__check_purse, g__check_purse := PySem.W.mg_of X G g__check_purse,
    f__with_numbers := F__with_numbers, p__with_numbers := B__with_numbers, g__with_numbers := PySem.W.mg_of X G g__with_numbers,
    f__best_way := F__best_way, p__best_way := B__best_way, g__best_way := PySem.W.mg_of X G g__best_way,
    f__greatest_number := F__greatest_number, p__greatest_number := B__greatest_number, g__greatest_number := PySem.W.mg_of X G g__greatest_number,
    f__law_cell_at := F__law_cell_at, p__law_cell_at := B__law_cell_at, g__law_cell_at := PySem.W.mg_of X G g__law_cell_at,
    f__law_whole := F__law_whole, p__law_whole := B__law_whole, g__law_whole := PySem.W.mg_of X G g__law_whole,
    f__law_mixed := F__law_mixed, p__law_mixed := B__law_mixed, g__law_mixed := PySem.W.mg_of X G g__law_mixed,
    f__law_value := F__law_value, p__law_value := B__law_value, g__law_value := PySem.W.mg_of X G g__law_value,
    f__law_till_and_purse := F__law_till_and_purse, p__law_till_and_purse := B__law_till_and_purse, g__law_till_and_purse := PySem.W.mg_of X G g__law_till_and_purse,
    f__law_own := F__law_own, p__law_own := B__law_own, g__law_own := PySem.W.mg_of X G g__law_own,
    f__law_deal := F__law_deal, p__law_deal := B__law_deal, g__law_deal := PySem.W.mg_of X G g__law_deal,
    f__law_ways := F__law_ways, p__law_ways := B__law_ways, g__law_ways := PySem.W.mg_of X G g__law_ways,
    f__law_worth := F__law_worth, p__law_worth := B__law_worth, g__law_worth := PySem.W.mg_of X G g__law_worth,
    f__law_few := F__law_few, p__law_few := B__law_few, g__law_few := PySem.W.mg_of X G g__law_few,
    f__law_better := F__law_better, p__law_better := B__law_better, g__law_better := PySem.W.mg_of X G g__law_better,
    f__law_pairs_alike := F__law_pairs_alike, p__law_pairs_alike := B__law_pairs_alike, g__law_pairs_alike := PySem.W.mg_of X G g__law_pairs_alike,
    f_law := F_law, p_law := B_law, g_law := PySem.W.mg_of X G g_law,
    w_MOST_SUM := ⟨_, PySem.W.mg_of X G w_MOST_SUM⟩,
    w_MOST_WORTH := ⟨_, PySem.W.mg_of X G w_MOST_WORTH⟩,
    m_abs := PySem.W.mg_none_of X G m_abs,
    m_bool := PySem.W.mg_none_of X G m_bool,
    m_dict := PySem.W.mg_none_of X G m_dict,
    m_int := PySem.W.mg_none_of X G m_int,
    m_isinstance := PySem.W.mg_none_of X G m_isinstance,
    m_len := PySem.W.mg_none_of X G m_len,
    m_list := PySem.W.mg_none_of X G m_list,
    m_max := PySem.W.mg_none_of X G m_max,
    m_min := PySem.W.mg_none_of X G m_min,
    m_range := PySem.W.mg_none_of X G m_range,
    m_reversed := PySem.W.mg_none_of X G m_reversed,
    m_sorted := PySem.W.mg_none_of X G m_sorted,
    m_sum := PySem.W.mg_none_of X G m_sum,
    m_tuple := PySem.W.mg_none_of X G m_tuple,
    m_zip := PySem.W.mg_none_of X G m_zip }, rfl, fun s v => .of_eq rfl⟩

theorem fin {l : PySem.W.OpenLaw} {w : World} {K : PySem.W.Frag} {h : Heap} {mg : Str → Option Value} {fa a_law : Addr} (X : K.In h) (G : h.Ns mainGlobals mg) (hfa : mg "law" = some (.ref fa))
    (x : ∃ T : Tx K mg, T.a_law = a_law ∧ (∀ (s : Shared) (v : Value), BindsTo s T.d_law ⟨[v], []⟩ [("_law_script", v)])) :
    ∃ fd : FuncData, (∀ (s : Shared) (v : Value), BindsTo s fd ⟨[v], []⟩ [("_law_script", v)]) ∧ ∀ base : Heap, K.In base → base.Ns mainGlobals mg → FnOk l.prog w K mg base CX0 7 fa fd ["_law_script"] (spLaw K) := by
  obtain ⟨T, _, hb⟩ := x
  have e := hfa.symm.trans T.g_law
  cases e
  exact ⟨T.d_law, hb, fun base _ _ => ok_law T⟩

end K12
open PySem PySem.W PyProof.Rows
set_option maxRecDepth 100000 in
set_option maxHeartbeats 0 in
theorem PySem.Challenge.cw_tilldrawer_k12_every_deal_holds : PySem.Challenge.rw_tilldrawer_k12_every_deal.Holds := by
  w_on; o_law; k_head; (case hw => w_witness2)
  k_fill
  refine L2.walk_ofK (l := PySem.Challenge.rw_tilldrawer_k12_every_deal) (n := 63) (k := 7) (x := "_law_script") (CX := L2.CX0) (sp := K12.spLaw) rfl (by decide) rfl ⟨rfl, by decide, by decide⟩ (fun w h Y => PySem.W.kIn_of Y) ?F (fun K H a ns hl hO hS => K12.law_start hl hO hS) (fun _ _ _ _ h => h)
  case F =>
    intro w mg fa h KX G hmg
    refine' K12.fin KX G hmg (K12.tx_mk KX G ?g_TillError ?x_TillError ?k_TillError ?b_TillError ?t_TillError ?i_TillError ?g_NoKind ?x_NoKind ?k_NoKind ?b_NoKind ?t_NoKind ?i_NoKind ?g_NoSum ?x_NoSum ?k_NoSum ?b_NoSum ?t_NoSum ?i_NoSum ?g_NoChange ?x_NoChange ?k_NoChange ?b_NoChange ?t_NoChange ?i_NoChange ?u_NoSum_NoKind ?u_NoSum_NoSum ?u_NoSum_NoChange ?u_NoChange_NoKind ?u_NoChange_NoSum ?u_NoChange_NoChange ?u_NoKind_NoKind ?u_NoKind_NoSum ?u_NoKind_NoChange ?g_worth ?l_worth ?o_worth ?k_worth ?g_check_sum ?l_check_sum ?o_check_sum ?k_check_sum ?g_with_kind ?l_with_kind ?o_with_kind ?k_with_kind ?g__bundles ?l__bundles ?o__bundles ?k__bundles ?g__with_bundle ?l__with_bundle ?o__with_bundle ?k__with_bundle ?g_scales ?l_scales ?o_scales ?k_scales ?g_deal ?l_deal ?o_deal ?k_deal ?g__check_purse ?l__check_purse ?o__check_purse ?k__check_purse ?g__with_numbers ?l__with_numbers ?o__with_numbers ?k__with_numbers ?g__best_way ?l__best_way ?o__best_way ?k__best_way ?g__greatest_number ?l__greatest_number ?o__greatest_number ?k__greatest_number ?g__law_cell_at ?l__law_cell_at ?o__law_cell_at ?k__law_cell_at ?g__law_whole ?l__law_whole ?o__law_whole ?k__law_whole ?g__law_mixed ?l__law_mixed ?o__law_mixed ?k__law_mixed ?g__law_value ?l__law_value ?o__law_value ?k__law_value ?g__law_till_and_purse ?l__law_till_and_purse ?o__law_till_and_purse ?k__law_till_and_purse ?g__law_own ?l__law_own ?o__law_own ?k__law_own ?g__law_deal ?l__law_deal ?o__law_deal ?k__law_deal ?g__law_ways ?l__law_ways ?o__law_ways ?k__law_ways ?g__law_worth ?l__law_worth ?o__law_worth ?k__law_worth ?g__law_few ?l__law_few ?o__law_few ?k__law_few ?g__law_better ?l__law_better ?o__law_better ?k__law_better ?g__law_pairs_alike ?l__law_pairs_alike ?o__law_pairs_alike ?k__law_pairs_alike ?g_law ?l_law ?o_law ?k_law ?w_MOST_SUM ?w_MOST_WORTH ?m_abs ?m_bool ?m_dict ?m_int ?m_isinstance ?m_len ?m_list ?m_max ?m_min ?m_range ?m_reversed ?m_sorted ?m_sum ?m_tuple ?m_zip)
    (case g_TillError => k_is)
    (case x_TillError => k_exc)
    (case k_TillError => k_is)
    (case b_TillError => k_is)
    (case t_TillError => k_is)
    (case i_TillError => k_is)
    (case g_NoKind => k_is)
    (case x_NoKind => k_exc)
    (case k_NoKind => k_is)
    (case b_NoKind => k_is)
    (case t_NoKind => k_is)
    (case i_NoKind => k_is)
    (case g_NoSum => k_is)
    (case x_NoSum => k_exc)
    (case k_NoSum => k_is)
    (case b_NoSum => k_is)
    (case t_NoSum => k_is)
    (case i_NoSum => k_is)
    (case g_NoChange => k_is)
    (case x_NoChange => k_exc)
    (case k_NoChange => k_is)
    (case b_NoChange => k_is)
    (case t_NoChange => k_is)
    (case i_NoChange => k_is)
    (case u_NoSum_NoKind => first | rfl | k_is)
    (case u_NoSum_NoSum => first | rfl | k_is)
    (case u_NoSum_NoChange => first | rfl | k_is)
    (case u_NoChange_NoKind => first | rfl | k_is)
    (case u_NoChange_NoSum => first | rfl | k_is)
    (case u_NoChange_NoChange => first | rfl | k_is)
    (case u_NoKind_NoKind => first | rfl | k_is)
    (case u_NoKind_NoSum => first | rfl | k_is)
    (case u_NoKind_NoChange => first | rfl | k_is)
    (case g_worth => k_is)
    (case l_worth => k_is)
    (case o_worth => k_is)
    (case k_worth => k_is)
    (case g_check_sum => k_is)
    (case l_check_sum => k_is)
    (case o_check_sum => k_is)
    (case k_check_sum => k_is)
    (case g_with_kind => k_is)
    (case l_with_kind => k_is)
    (case o_with_kind => k_is)
    (case k_with_kind => k_is)
    (case g__bundles => k_is)
    (case l__bundles => k_is)
    (case o__bundles => k_is)
    (case k__bundles => k_is)
    (case g__with_bundle => k_is)
    (case l__with_bundle => k_is)
    (case o__with_bundle => k_is)
    (case k__with_bundle => k_is)
    (case g_scales => k_is)
    (case l_scales => k_is)
    (case o_scales => k_is)
    (case k_scales => k_is)
    (case g_deal => k_is)
    (case l_deal => k_is)
    (case o_deal => k_is)
    (case k_deal => k_is)
    (case g__check_purse => k_is)
    (case l__check_purse => k_is)
    (case o__check_purse => k_is)
    (case k__check_purse => k_is)
    (case g__with_numbers => k_is)
    (case l__with_numbers => k_is)
    (case o__with_numbers => k_is)
    (case k__with_numbers => k_is)
    (case g__best_way => k_is)
    (case l__best_way => k_is)
    (case o__best_way => k_is)
    (case k__best_way => k_is)
    (case g__greatest_number => k_is)
    (case l__greatest_number => k_is)
    (case o__greatest_number => k_is)
    (case k__greatest_number => k_is)
    (case g__law_cell_at => k_is)
    (case l__law_cell_at => k_is)
    (case o__law_cell_at => k_is)
    (case k__law_cell_at => k_is)
    (case g__law_whole => k_is)
    (case l__law_whole => k_is)
    (case o__law_whole => k_is)
    (case k__law_whole => k_is)
    (case g__law_mixed => k_is)
    (case l__law_mixed => k_is)
    (case o__law_mixed => k_is)
    (case k__law_mixed => k_is)
    (case g__law_value => k_is)
    (case l__law_value => k_is)
    (case o__law_value => k_is)
    (case k__law_value => k_is)
    (case g__law_till_and_purse => k_is)
    (case l__law_till_and_purse => k_is)
    (case o__law_till_and_purse => k_is)
    (case k__law_till_and_purse => k_is)
    (case g__law_own => k_is)
    (case l__law_own => k_is)
    (case o__law_own => k_is)
    (case k__law_own => k_is)
    (case g__law_deal => k_is)
    (case l__law_deal => k_is)
    (case o__law_deal => k_is)
    (case k__law_deal => k_is)
    (case g__law_ways => k_is)
    (case l__law_ways => k_is)
    (case o__law_ways => k_is)
    (case k__law_ways => k_is)
    (case g__law_worth => k_is)
    (case l__law_worth => k_is)
    (case o__law_worth => k_is)
    (case k__law_worth => k_is)
    (case g__law_few => k_is)
    (case l__law_few => k_is)
    (case o__law_few => k_is)
    (case k__law_few => k_is)
    (case g__law_better => k_is)
    (case l__law_better => k_is)
    (case o__law_better => k_is)
    (case k__law_better => k_is)
    (case g__law_pairs_alike => k_is)
    (case l__law_pairs_alike => k_is)
    (case o__law_pairs_alike => k_is)
    (case k__law_pairs_alike => k_is)
    (case g_law => k_is)
    (case l_law => k_is)
    (case o_law => k_is)
    (case k_law => k_is)
    (case w_MOST_SUM => k_is)
    (case w_MOST_WORTH => k_is)
    (case m_abs => k_is)
    (case m_bool => k_is)
    (case m_dict => k_is)
    (case m_int => k_is)
    (case m_isinstance => k_is)
    (case m_len => k_is)
    (case m_list => k_is)
    (case m_max => k_is)
    (case m_min => k_is)
    (case m_range => k_is)
    (case m_reversed => k_is)
    (case m_sorted => k_is)
    (case m_sum => k_is)
    (case m_tuple => k_is)
    (case m_zip => k_is)

