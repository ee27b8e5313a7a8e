import PyProof.Rows.All
import Wide.All
import OpenK.AllK
import Wide.FinOn
import PyProof.EqAt
import PyProof.EqKinds
import PyProof.TupleCall
import HandS.ForMost
import HandS.ForExc
import HandS.TryMany
import HandS.Sort
import HandS.SortRule
import HandS.IsInst
import HandS.ExcIs
import HandS.Evl
import HandS.Walk
import HandS.Strs
import HandS.SetFor
import HandS.RevRange
import HandS.Conv
import HandS.Style
import HandS.Zip
import PySem.Challenge.RW_tilldrawer_k07_every_way
set_option Elab.async false
set_option linter.all false
set_option maxRecDepth 100000
set_option maxHeartbeats 4000000
namespace K07
open PySem PySem.Spec PyProof.Rows L2
def topS (i : Nat) : Stmt := PySem.Challenge.pw_tilldrawer_k07_every_way.main.body.getD i (.Pass ⟨0, 0, 0, 0⟩)
abbrev s_check_sum : Stmt := topS 6
abbrev N_check_sum : List Str := ["due"]
abbrev P_check_sum : List Str := ["due"]
theorem sc_check_sum : FnScope N_check_sum P_check_sum (defScope s_check_sum) := ⟨rfl, rfl, rfl, by decide +kernel, rfl, by decide +kernel, by decide +kernel⟩
abbrev s_table : Stmt := topS 7
abbrev N_table : List Str := ["till", "most", "row", "rows", "value", "count"]
abbrev P_table : List Str := ["till", "most"]
theorem sc_table : FnScope N_table P_table (defScope s_table) := ⟨rfl, rfl, rfl, by decide +kernel, rfl, by decide +kernel, by decide +kernel⟩
abbrev s_fewest : Stmt := topS 8
abbrev N_fewest : List Str := ["till", "due", "rows", "change", "left", "at", "value", "count", "given"]
abbrev P_fewest : List Str := ["till", "due"]
theorem sc_fewest : FnScope N_fewest P_fewest (defScope s_fewest) := ⟨rfl, rfl, rfl, by decide +kernel, rfl, by decide +kernel, by decide +kernel⟩
abbrev s_with_kind : Stmt := topS 9
abbrev N_with_kind : List Str := ["row", "value", "count", "out", "usable", "size"]
abbrev P_with_kind : List Str := ["row", "value", "count"]
theorem sc_with_kind : FnScope N_with_kind P_with_kind (defScope s_with_kind) := ⟨rfl, rfl, rfl, by decide +kernel, rfl, by decide +kernel, by decide +kernel⟩
abbrev s__bundles : Stmt := topS 10
abbrev N__bundles : List Str := ["count", "sizes", "size", "taken"]
abbrev P__bundles : List Str := ["count"]
theorem sc__bundles : FnScope N__bundles P__bundles (defScope s__bundles) := ⟨rfl, rfl, rfl, by decide +kernel, rfl, by decide +kernel, by decide +kernel⟩
abbrev s__with_bundle : Stmt := topS 11
abbrev N__with_bundle : List Str := ["row", "value", "size", "out", "due", "rest"]
abbrev P__with_bundle : List Str := ["row", "value", "size"]
theorem sc__with_bundle : FnScope N__with_bundle P__with_bundle (defScope s__with_bundle) := ⟨rfl, rfl, rfl, by decide +kernel, rfl, by decide +kernel, by decide +kernel⟩
abbrev s__most_given : Stmt := topS 12
abbrev N__most_given : List Str := ["row", "due", "least", "value", "count", "given"]
abbrev P__most_given : List Str := ["row", "due", "least", "value", "count"]
theorem sc__most_given : FnScope N__most_given P__most_given (defScope s__most_given) := ⟨rfl, rfl, rfl, by decide +kernel, rfl, by decide +kernel, by decide +kernel⟩
abbrev s__law_cell_at : Stmt := topS 14
abbrev N__law_cell_at : List Str := ["_law_script", "_law_k"]
abbrev P__law_cell_at : List Str := ["_law_script", "_law_k"]
theorem sc__law_cell_at : FnScope N__law_cell_at P__law_cell_at (defScope s__law_cell_at) := ⟨rfl, rfl, rfl, by decide +kernel, rfl, by decide +kernel, by decide +kernel⟩
abbrev s__law_whole : Stmt := topS 15
abbrev N__law_whole : List Str := ["_law_found"]
abbrev P__law_whole : List Str := ["_law_found"]
theorem sc__law_whole : FnScope N__law_whole P__law_whole (defScope s__law_whole) := ⟨rfl, rfl, rfl, by decide +kernel, rfl, by decide +kernel, by decide +kernel⟩
abbrev s__law_mixed : Stmt := topS 16
abbrev N__law_mixed : List Str := ["_law_cell", "_law_k"]
abbrev P__law_mixed : List Str := ["_law_cell", "_law_k"]
theorem sc__law_mixed : FnScope N__law_mixed P__law_mixed (defScope s__law_mixed) := ⟨rfl, rfl, rfl, by decide +kernel, rfl, by decide +kernel, by decide +kernel⟩
abbrev s__law_alike : Stmt := topS 17
abbrev N__law_alike : List Str := ["_law_found", "_law_due", "_law_pair"]
abbrev P__law_alike : List Str := ["_law_found", "_law_due"]
theorem sc__law_alike : FnScope N__law_alike P__law_alike (defScope s__law_alike) := ⟨rfl, rfl, rfl, by decide +kernel, rfl, by decide +kernel, by decide +kernel⟩
abbrev s__law_value : Stmt := topS 18
abbrev N__law_value : List Str := ["_law_cell", "_law_k", "_law_drawn"]
abbrev P__law_value : List Str := ["_law_cell", "_law_k"]
theorem sc__law_value : FnScope N__law_value P__law_value (defScope s__law_value) := ⟨rfl, rfl, rfl, by decide +kernel, rfl, by decide +kernel, by decide +kernel⟩
abbrev s__law_small : Stmt := topS 19
abbrev N__law_small : List Str := ["_law_script", "_law_many", "_law_found", "_law_seen", "_law_k", "_law_value_here", "_law_drawn"]
abbrev P__law_small : List Str := ["_law_script"]
theorem sc__law_small : FnScope N__law_small P__law_small (defScope s__law_small) := ⟨rfl, rfl, rfl, by decide +kernel, rfl, by decide +kernel, by decide +kernel⟩
abbrev s__law_ways : Stmt := topS 20
abbrev N__law_ways : List Str := ["_law_till", "_law_ways_here", "_law_pair", "_law_more", "_law_way", "_law_many"]
abbrev P__law_ways : List Str := ["_law_till"]
theorem sc__law_ways : FnScope N__law_ways P__law_ways (defScope s__law_ways) := ⟨rfl, rfl, rfl, by decide +kernel, rfl, by decide +kernel, by decide +kernel⟩
abbrev s__law_worth : Stmt := topS 21
abbrev N__law_worth : List Str := ["_law_till", "_law_way", "_law_total", "_law_pair", "_law_many"]
abbrev P__law_worth : List Str := ["_law_till", "_law_way"]
theorem sc__law_worth : FnScope N__law_worth P__law_worth (defScope s__law_worth) := ⟨rfl, rfl, rfl, by decide +kernel, rfl, by decide +kernel, by decide +kernel⟩
abbrev s__law_better : Stmt := topS 22
abbrev N__law_better : List Str := ["_law_one", "_law_other", "_law_k", "_law_at"]
abbrev P__law_better : List Str := ["_law_one", "_law_other"]
theorem sc__law_better : FnScope N__law_better P__law_better (defScope s__law_better) := ⟨rfl, rfl, rfl, by decide +kernel, rfl, by decide +kernel, by decide +kernel⟩
abbrev s__law_tried : Stmt := topS 23
abbrev N__law_tried : List Str := ["_law_till", "_law_due"]
abbrev P__law_tried : List Str := ["_law_till", "_law_due"]
theorem sc__law_tried : FnScope N__law_tried P__law_tried (defScope s__law_tried) := ⟨rfl, rfl, rfl, by decide +kernel, rfl, by decide +kernel, by decide +kernel⟩
abbrev s_law : Stmt := topS 24
abbrev N_law : List Str := ["_law_script", "_law_till", "_law_ways_here", "_law_cell", "_law_due", "_law_best", "_law_way", "_law_found", "_law_pair", "_law_many"]
abbrev P_law : List Str := ["_law_script"]
theorem sc_law : FnScope N_law P_law (defScope s_law) := ⟨rfl, rfl, rfl, by decide +kernel, rfl, by decide +kernel, by decide +kernel⟩
/-- what the top has written -/
structure Tx (K : PySem.W.Frag) (mg : Str → Option Value) : Type where
  c_TillError : Addr
  c_NoSum : Addr
  c_NoChange : Addr
  a_check_sum : Addr
  d_check_sum : FuncData
  a_table : Addr
  d_table : FuncData
  a_fewest : Addr
  d_fewest : FuncData
  a_with_kind : Addr
  d_with_kind : FuncData
  a__bundles : Addr
  d__bundles : FuncData
  a__with_bundle : Addr
  d__with_bundle : FuncData
  a__most_given : Addr
  d__most_given : FuncData
  a__law_cell_at : Addr
  d__law_cell_at : FuncData
  a__law_whole : Addr
  d__law_whole : FuncData
  a__law_mixed : Addr
  d__law_mixed : FuncData
  a__law_alike : Addr
  d__law_alike : FuncData
  a__law_value : Addr
  d__law_value : FuncData
  a__law_small : Addr
  d__law_small : FuncData
  a__law_ways : Addr
  d__law_ways : FuncData
  a__law_worth : Addr
  d__law_worth : FuncData
  a__law_better : Addr
  d__law_better : FuncData
  a__law_tried : Addr
  d__law_tried : FuncData
  a_law : Addr
  d_law : FuncData
  g_TillError : mg "TillError" = some (.ref c_TillError)
  x_TillError : PySem.W.excIn K c_TillError [.type "ValueError", .type "Exception", .type "BaseException", .type "object"] "ValueError.__new__" = true
  k_TillError : PySem.W.keepIn K (.ref c_TillError) = true
  b_TillError : PySem.W.subIn K (.ref c_TillError) (.type "BaseException") = some true
  t_TillError : PySem.W.typeIn K (.ref c_TillError) = some (.type "type")
  i_TillError : PySem.W.isClsIn K c_TillError = true
  g_NoSum : mg "NoSum" = some (.ref c_NoSum)
  x_NoSum : PySem.W.excIn K c_NoSum [.type "ValueError", .type "Exception", .type "BaseException", .type "object"] "ValueError.__new__" = true
  k_NoSum : PySem.W.keepIn K (.ref c_NoSum) = true
  b_NoSum : PySem.W.subIn K (.ref c_NoSum) (.type "BaseException") = some true
  t_NoSum : PySem.W.typeIn K (.ref c_NoSum) = some (.type "type")
  i_NoSum : PySem.W.isClsIn K c_NoSum = true
  g_NoChange : mg "NoChange" = some (.ref c_NoChange)
  x_NoChange : PySem.W.excIn K c_NoChange [.type "ValueError", .type "Exception", .type "BaseException", .type "object"] "ValueError.__new__" = true
  k_NoChange : PySem.W.keepIn K (.ref c_NoChange) = true
  b_NoChange : PySem.W.subIn K (.ref c_NoChange) (.type "BaseException") = some true
  t_NoChange : PySem.W.typeIn K (.ref c_NoChange) = some (.type "type")
  i_NoChange : PySem.W.isClsIn K c_NoChange = true
  u_NoSum_NoChange : PySem.W.subIn K (.ref c_NoSum) (.ref c_NoChange) = some false
  u_NoChange_NoChange : PySem.W.subIn K (.ref c_NoChange) (.ref c_NoChange) = some true
  f_check_sum : Fun K "check_sum" "check_sum" s_check_sum a_check_sum d_check_sum
  p_check_sum : Binds K d_check_sum P_check_sum []
  g_check_sum : mg "check_sum" = some (.ref a_check_sum)
  f_table : Fun K "table" "table" s_table a_table d_table
  p_table : Binds K d_table P_table []
  g_table : mg "table" = some (.ref a_table)
  f_fewest : Fun K "fewest" "fewest" s_fewest a_fewest d_fewest
  p_fewest : Binds K d_fewest P_fewest []
  g_fewest : mg "fewest" = some (.ref a_fewest)
  f_with_kind : Fun K "with_kind" "with_kind" s_with_kind a_with_kind d_with_kind
  p_with_kind : Binds K d_with_kind P_with_kind []
  g_with_kind : mg "with_kind" = some (.ref a_with_kind)
  f__bundles : Fun K "_bundles" "_bundles" s__bundles a__bundles d__bundles
  p__bundles : Binds K d__bundles P__bundles []
  g__bundles : mg "_bundles" = some (.ref a__bundles)
  f__with_bundle : Fun K "_with_bundle" "_with_bundle" s__with_bundle a__with_bundle d__with_bundle
  p__with_bundle : Binds K d__with_bundle P__with_bundle []
  g__with_bundle : mg "_with_bundle" = some (.ref a__with_bundle)
  f__most_given : Fun K "_most_given" "_most_given" s__most_given a__most_given d__most_given
  p__most_given : Binds K d__most_given P__most_given []
  g__most_given : mg "_most_given" = some (.ref a__most_given)
  f__law_cell_at : Fun K "_law_cell_at" "_law_cell_at" s__law_cell_at a__law_cell_at d__law_cell_at
  p__law_cell_at : Binds K d__law_cell_at P__law_cell_at []
  g__law_cell_at : mg "_law_cell_at" = some (.ref a__law_cell_at)
  f__law_whole : Fun K "_law_whole" "_law_whole" s__law_whole a__law_whole d__law_whole
  p__law_whole : Binds K d__law_whole P__law_whole []
  g__law_whole : mg "_law_whole" = some (.ref a__law_whole)
  f__law_mixed : Fun K "_law_mixed" "_law_mixed" s__law_mixed a__law_mixed d__law_mixed
  p__law_mixed : Binds K d__law_mixed P__law_mixed []
  g__law_mixed : mg "_law_mixed" = some (.ref a__law_mixed)
  f__law_alike : Fun K "_law_alike" "_law_alike" s__law_alike a__law_alike d__law_alike
  p__law_alike : Binds K d__law_alike P__law_alike []
  g__law_alike : mg "_law_alike" = some (.ref a__law_alike)
  f__law_value : Fun K "_law_value" "_law_value" s__law_value a__law_value d__law_value
  p__law_value : Binds K d__law_value P__law_value []
  g__law_value : mg "_law_value" = some (.ref a__law_value)
  f__law_small : Fun K "_law_small" "_law_small" s__law_small a__law_small d__law_small
  p__law_small : Binds K d__law_small P__law_small []
  g__law_small : mg "_law_small" = some (.ref a__law_small)
  f__law_ways : Fun K "_law_ways" "_law_ways" s__law_ways a__law_ways d__law_ways
  p__law_ways : Binds K d__law_ways P__law_ways []
  g__law_ways : mg "_law_ways" = some (.ref a__law_ways)
  f__law_worth : Fun K "_law_worth" "_law_worth" s__law_worth a__law_worth d__law_worth
  p__law_worth : Binds K d__law_worth P__law_worth []
  g__law_worth : mg "_law_worth" = some (.ref a__law_worth)
  f__law_better : Fun K "_law_better" "_law_better" s__law_better a__law_better d__law_better
  p__law_better : Binds K d__law_better P__law_better []
  g__law_better : mg "_law_better" = some (.ref a__law_better)
  f__law_tried : Fun K "_law_tried" "_law_tried" s__law_tried a__law_tried d__law_tried
  p__law_tried : Binds K d__law_tried P__law_tried []
  g__law_tried : mg "_law_tried" = some (.ref a__law_tried)
  f_law : Fun K "law" "law" s_law a_law d_law
  p_law : Binds K d_law P_law []
  g_law : mg "law" = some (.ref a_law)
  w_MOST_SUM : ∃ t, mg "MOST_SUM" = some (.int 1000 t)
  m_bool : mg "bool" = none
  m_int : mg "int" = none
  m_isinstance : mg "isinstance" = none
  m_len : mg "len" = none
  m_list : mg "list" = none
  m_max : mg "max" = none
  m_min : mg "min" = none
  m_range : mg "range" = none
  m_reversed : mg "reversed" = none
  m_sorted : mg "sorted" = none
  m_sum : mg "sum" = none
  m_tuple : mg "tuple" = none
  m_zip : mg "zip" = none
section
variable {P : Program} {w : World} {K : PySem.W.Frag} {mg : Str → Option Value} {base : Heap}
/-! ### small things over the layer -/
abbrev CXR (P : Program) (w : World) : CXT := L2.CX P w
abbrev Ex := Evl.Ex
theorem Ex.rfl' {H : Hp} : Ex H H := fun _ _ h => h
theorem Ex.tr {H H1 H2 : Hp} (a : Ex H H1) (b : Ex H1 H2) : Ex H H2 := Evl.Ex.trans a b
theorem Ex.nw {H : Hp} {p : Addr} {o : HO} (h : H p = none) : Ex H (upd H p o) := Evl.Ex.new h
theorem Ex.seq {K : PySem.W.Frag} {H H' : Hp} {a : Addr} {xs : List V} (e : Ex H H') (h : SqL K H a xs) : SqL K H' a xs := Evl.ex_l e h
theorem ipR {X : Cx} {op : Operator} {r : R2} (ho : OpR X (inplaceOp op) r) : PIp X op r := fun pins s σ H x y v u Q I rx ry h => ho pins s σ H x y v u Q I rx ry h
theorem ip_mulR {X : Cx} : PIp X .Mult (rI CMul fun i j => .int (i * j)) := ipR iop_mul
/-- isinstance of the caught error: a class, a tuple of classes just laid; the error's class is told in the reading -/
def rIsE1 (K : PySem.W.Frag) (cls : Value) (d : Option Addr) (a : Addr) : List V → Hp → VK → Prop := fun xs H Q => ∃ (D : Addr) (c : V) (cv : Value) (b : Bool), cls = .ref D ∧ d = none ∧ ExcC K D ∧ xs = [.ref a, c] ∧ (∀ u, RelV c u → u = cv) ∧ PySem.W.kitOne K (.ref D) cv = some b ∧ Q (.bl b) H
theorem call_isE1 {X : Cx} {a : Addr} {cls : Value} {d : Option Addr} {oe : Obj} {pn : List (Addr × Obj)} (hz : Zc cls d oe) (hf : ∃ vs, oe.data = .fields vs) : CallR (X.suite a ((a, oe) :: pn)) (.builtin "isinstance") (rIsE1 X.K cls d a) := by
  intro pins s σ H xs us Q I r h
  obtain ⟨D, c, cv, b, rfl, rfl, C, rfl, hcv, e, q⟩ := h
  exact call_isE C hz hf pins s σ H _ us Q I r ⟨c, cv, b, rfl, hcv, e, q⟩
def rIsET (K : PySem.W.Frag) (cls : Value) (d : Option Addr) (a : Addr) : List V → Hp → VK → Prop := fun xs H Q => ∃ (D tp : Addr) (cs : List V) (us : List Value) (b : Bool), cls = .ref D ∧ d = none ∧ ExcC K D ∧ xs = [.ref a, .ref tp] ∧ H tp = some (.tup cs) ∧ Paired ClsV cs us ∧ PySem.W.kitAny K (.ref D) us = some b ∧ Q (.bl b) H
theorem call_isET {X : Cx} {a : Addr} {cls : Value} {d : Option Addr} {oe : Obj} {pn : List (Addr × Obj)} (hz : Zc cls d oe) (hf : ∃ fs, oe.data = .fields fs) : CallR (X.suite a ((a, oe) :: pn)) (.builtin "isinstance") (rIsET X.K cls d a) := by
  intro pins s σ H xs us Q I r h
  obtain ⟨D, tp, cs, ws, b, rfl, rfl, C, rfl, hT, k, e, q⟩ := h
  obtain ⟨w1, w2, rfl, p1, p2⟩ := vals2 r
  cases (show w2 = Value.ref tp from p2)
  cases (show w1 = Value.ref a from p1)
  obtain ⟨hgt, _⟩ := I.pin (a, oe) (List.mem_append.mpr (.inl List.mem_cons_self))
  obtain ⟨fs, hv⟩ := hf
  have J : PySem.W.InstAt s.heap a oe D none := by
    obtain ⟨oc, od, odt, oss⟩ := oe
    obtain ⟨k1, k2⟩ := hz
    dsimp only at k1 k2 hv
    subst k1 k2 hv
    exact ⟨hgt, rfl, rfl, trivial⟩
  obtain ⟨_, zs, rv, o, k1, k2, n, k3⟩ := (show ObjOk X.prog X.w H s.heap tp (.tup cs) from I.hok tp _ hT)
  have e3 := ClsV.all k rv
  subst e3
  obtain ⟨oc, od, dt, sl⟩ := o
  simp only at k2 k3
  subst k2 k3
  exact PySem.W.kia_tup (PySem.W.handS_kitx_exc C.hg C.hk C.hs C.hd C.ha C.hn C.ht C.hm) I.kIn J k1 e (fun z => nomatch z) fun tk => ⟨.bl b, H, I.tok tk, rfl, q⟩
/-- len, list(x), told by a K that is named -/
abbrev rLenK (K : PySem.W.Frag) : List V → Hp → VK → Prop := fun zs H Q => ∃ p ys, zs = [.ref p] ∧ (SqL K H p ys ∨ SqT K H p ys) ∧ Q (.int ys.length) H
abbrev rListK (K : PySem.W.Frag) : List V → Hp → VK → Prop := fun zs H Q => ∃ p ys, zs = [.ref p] ∧ (SqL K H p ys ∨ SqT K H p ys) ∧ ∀ l, H l = none → Q (.ref l) (upd H l (.lst ys))
/-- pairs of ints, each a tracked tuple -/
def Prs (H : Hp) : List V → List (Int × Int) → Prop := Paired fun x p => ∃ t, x = .ref t ∧ H t = some (.tup [.int p.1, .int p.2])
theorem Prs.ex {H H' : Hp} (e : Ex H H') : ∀ {xs : List V} {ps : List (Int × Int)}, Prs H xs ps → Prs H' xs ps
  | _, _, .nil => .nil
  | _, _, .cons ⟨t, h1, h2⟩ r => .cons ⟨t, h1, e _ _ h2⟩ (Prs.ex e r)
theorem Prs.len {H : Hp} {xs : List V} {ps : List (Int × Int)} (h : Prs H xs ps) : xs.length = ps.length := Paired.length h
theorem Prs.snoc {H : Hp} : ∀ {xs : List V} {ps : List (Int × Int)} {x : V} {p : Int × Int}, Prs H xs ps → (∃ t, x = .ref t ∧ H t = some (.tup [.int p.1, .int p.2])) → Prs H (xs ++ [x]) (ps ++ [p])
  | _, _, _, _, .nil, h => .cons h .nil
  | _, _, _, _, .cons a r, h => .cons a (Prs.snoc r h)
theorem Prs.get {H : Hp} : ∀ {xs : List V} {ps : List (Int × Int)} {i : Nat} {x : V}, Prs H xs ps → xs[i]? = some x → ∃ p t, ps[i]? = some p ∧ x = .ref t ∧ H t = some (.tup [.int p.1, .int p.2])
  | _, _, _, _, .nil, e => by simp at e
  | _, _, 0, _, .cons (b := p) ⟨t, h1, h2⟩ _, e => by simp at e; subst e; exact ⟨p, t, by simp, h1, h2⟩
  | _, _, i + 1, x, .cons _ r, e => by
    obtain ⟨p, t, h1, h2⟩ := Prs.get (i := i) (x := x) r (by simpa using e)
    exact ⟨p, t, by simpa using h1, h2⟩
theorem Prs.getL {H : Hp} : ∀ {xs : List V} {ps : List (Int × Int)} {i : Nat} {p : Int × Int}, Prs H xs ps → ps[i]? = some p → ∃ t, xs[i]? = some (.ref t) ∧ H t = some (.tup [.int p.1, .int p.2])
  | _, _, _, _, .nil, e => by simp at e
  | _, _, 0, _, .cons ⟨t, h1, h2⟩ _, e => by simp at e; subst e; exact ⟨t, by simpa using h1, h2⟩
  | _, _, i + 1, p, .cons _ r, e => by
    obtain ⟨t, h1, h2⟩ := Prs.getL (i := i) (p := p) r (by simpa using e)
    exact ⟨t, by simpa using h1, h2⟩
/-- a till (or purse): a list of such pairs -/
def Till (K : PySem.W.Frag) (H : Hp) (a : Addr) (ps : List (Int × Int)) : Prop := ∃ xs, SqL K H a xs ∧ Prs H xs ps
theorem Till.ex {K : PySem.W.Frag} {H H' : Hp} {a : Addr} {ps : List (Int × Int)} (e : Ex H H') (h : Till K H a ps) : Till K H' a ps :=
  let ⟨xs, h1, h2⟩ := h; ⟨xs, Ex.seq e h1, h2.ex e⟩
/-- what a def that gives no new list answers -/
def Ret (v : V) (H : Hp) (Q : VK) : Prop := ∀ H2, Ex H H2 → Q v H2
theorem Ret.at {v : V} {H H' : Hp} {Q : VK} (k : Ret v H Q) (e : Ex H H') : Q v H' := k H' e
theorem len63 {n : Nat} (h : n ≤ 1000000) : n ≤ sizeLine := Nat.le_trans h (by decide)
theorem len63' {n : Nat} (h : n < 1000000) : n < sizeLine := Nat.lt_of_lt_of_le h (by decide)
theorem iteD {c A B : Prop} [Decidable c] (h1 : c → A) (h2 : ¬ c → B) : if decide c = true then A else B := by
  by_cases h : c
  · rw [if_pos (decide_eq_true h)]; exact h1 h
  · rw [if_neg (by simpa using h)]; exact h2 h
theorem iteDN {c A B : Prop} [Decidable c] (h1 : ¬ c → A) (h2 : c → B) : if (!decide c) = true then A else B := by
  by_cases h : c
  · rw [if_neg (by simpa using h)]; exact h2 h
  · rw [if_pos (by simpa using h)]; exact h1 h
theorem iteVI {i j : Int} {A B : Prop} (h1 : i = j → A) (h2 : ¬ i = j → B) : if decide (V.int i = V.int j) = true then A else B :=
  iteD (fun e => h1 (V.int.inj e)) fun e => h2 fun z => e (congrArg V.int z)
theorem iteVN {i j : Int} {A B : Prop} (h1 : ¬ i = j → A) (h2 : i = j → B) : if (!decide (V.int i = V.int j)) = true then A else B :=
  iteDN (fun e => h1 fun z => e (congrArg V.int z)) fun e => h2 (V.int.inj e)
theorem iteB {b : Bool} {A B : Prop} (h1 : b = true → A) (h2 : b = false → B) : if b = true then A else B := by
  cases b with
  | true => exact iteT (h1 rfl)
  | false => exact iteF (h2 rfl)
/-- what «except D» says of an error of the class C -/
theorem exm_mk {K : PySem.W.Frag} {C D : Addr} {b : Bool} (h1 : PySem.W.subIn K (.ref D) (.type "BaseException") = some true) (h2 : PySem.W.isClsIn K D = true) (h3 : PySem.W.typeIn K (.ref D) = some (.type "type")) (h4 : PySem.W.subIn K (.ref C) (.ref D) = some b) :
    PySem.W.exmOne K (.ref C) (.ref D) = some b := by
  have e1 : (PySem.W.subIn K (.ref D) (.type "BaseException") == some true) = true := by rw [h1] <;> rfl
  have e2 : ((PySem.W.clsIn K D).isSome && PySem.W.typeIn K (.ref D) == some (.type "type")) = true := by
    have h2' : (PySem.W.clsIn K D).isSome = true := h2
    rw [h2', h3] <;> rfl
  show (if (PySem.W.subIn K (.ref D) (.type "BaseException") == some true) = true then (if ((PySem.W.clsIn K D).isSome && PySem.W.typeIn K (.ref D) == some (.type "type")) = true then PySem.W.subIn K (.ref C) (.ref D) else none) else none) = some b
  rw [if_pos e1, if_pos e2]
  exact h4
theorem Ex.mu {H H' : Hp} {p : Addr} {o : HO} (e : Ex H H') (h : H p = none) : Ex H (upd H' p o) := Evl.Ex.mut e h
theorem Prs.up {H : Hp} {f : Addr} {o : HO} (hf : ∀ ys, H f ≠ some (.tup ys)) : ∀ {xs : List V} {ps : List (Int × Int)}, Prs H xs ps → Prs (upd H f o) xs ps
  | _, _, .nil => .nil
  | _, _, .cons ⟨t, h1, h2⟩ r => .cons ⟨t, h1, by rw [upd_ne fun e => hf _ (e ▸ h2)]; exact h2⟩ (Prs.up hf r)
/-- the pair that stands at an address -/
def pairAt (H : Hp) : V → Int × Int
  | .ref t => match H t with
    | some (.tup [.int i, .int j]) => (i, j)
    | _ => (0, 0)
  | _ => (0, 0)
theorem pairAt_eq {H : Hp} {t : Addr} {i j : Int} (h : H t = some (.tup [.int i, .int j])) : pairAt H (.ref t) = (i, j) := by
  show (match H t with | some (.tup [.int i, .int j]) => (i, j) | _ => (0, 0)) = (i, j)
  rw [h]
theorem Prs.map {H : Hp} : ∀ {xs : List V} {ps : List (Int × Int)}, Prs H xs ps → ps = xs.map (pairAt H)
  | _, _, .nil => rfl
  | _, _, .cons ⟨t, h1, h2⟩ r => by rw [List.map_cons, ← Prs.map r, h1, pairAt_eq h2]
theorem Prs.all {H : Hp} {xs : List V} {ps : List (Int × Int)} (h : Prs H xs ps) : ∀ x ∈ xs, ∃ t, x = V.ref t ∧ H t = some (.tup [.int (pairAt H x).1, .int (pairAt H x).2]) := by
  intro x hx
  obtain ⟨i, hi, e⟩ := List.getElem_of_mem hx
  obtain ⟨p, t, h1, h2, h3⟩ := Prs.get h (by rw [List.getElem?_eq_getElem hi, e])
  refine ⟨t, h2, ?_⟩
  rw [h2, pairAt_eq h3]
  exact h3
theorem Prs.of {H : Hp} : ∀ {xs : List V}, (∀ x ∈ xs, ∃ t, x = V.ref t ∧ H t = some (.tup [.int (pairAt H x).1, .int (pairAt H x).2])) → Prs H xs (xs.map (pairAt H))
  | [], _ => .nil
  | x :: xs, h => .cons (h x List.mem_cons_self) (Prs.of fun y hy => h y (List.mem_cons_of_mem _ hy))
/-- the pairs rise by value and are apart -/
def Rising (ps : List (Int × Int)) : Prop := ps.Pairwise fun p q => p.1 < q.1
theorem rising_of {H : Hp} {ys : List V} (hs : SrtO.Srtd (ltP (pairAt H)) ys) (nd : ((ys.map (pairAt H)).map (·.1)).Nodup) : Rising (ys.map (pairAt H)) := by
  unfold Rising
  rw [List.pairwise_map]
  rw [List.map_map, List.Nodup, List.pairwise_map] at nd
  refine (hs.and nd).imp ?_
  intro a b h
  have h1 := SrtO.lexB_no.mp h.1
  have h2 : (pairAt H a).1 ≠ (pairAt H b).1 := h.2
  omega
/-- sorted of such pairs -/
theorem sorted_prs {H : Hp} {xs ys : List V} {ps : List (Int × Int)} (hp : Prs H xs ps) (nd : (ps.map (·.1)).Nodup) (h1 : SrtO.Srtd (ltP (pairAt H)) ys) (h2 : SrtO.Stb (ltP (pairAt H)) ys xs) :
    ∃ qs, Prs H ys qs ∧ qs.Perm ps ∧ Rising qs := by
  have hpm : (ys.map (pairAt H)).Perm ps := by
    rw [hp.map]
    exact h2.perm.map _
  exact ⟨ys.map (pairAt H), Prs.of fun y hy => hp.all y (h2.perm.mem_iff.mp hy), hpm, rising_of h1 ((hpm.map _).nodup_iff.mpr nd)⟩
/-- what a till drawn here is: 1 to 10 kinds, apart, in bounds -/
structure Drawn (ps : List (Int × Int)) : Prop where
  nd : (ps.map (·.1)).Nodup
  val : ∀ p ∈ ps, 1 ≤ p.1 ∧ p.1 ≤ 1000
  cnt : ∀ p ∈ ps, 0 ≤ p.2 ∧ p.2 ≤ 1000000000
theorem Drawn.perm {ps qs : List (Int × Int)} (d : Drawn ps) (h : qs.Perm ps) : Drawn qs :=
  ⟨(h.map _).nodup_iff.mpr d.nd, fun p hp => d.val p (h.mem_iff.mp hp), fun p hp => d.cnt p (h.mem_iff.mp hp)⟩
/-- a till as data -/
def dP (p : Int × Int) : PyData := .tuple [.int p.1, .int p.2]
theorem prs_dp {K : PySem.W.Frag} {H : Hp} : ∀ {xs : List V} {ps : List (Int × Int)}, Prs H xs ps → DpAll K H xs (ps.map dP)
  | _, _, .nil => .nil
  | _, _, .cons ⟨t, h1, h2⟩ r => .cons (h1 ▸ .tup (.of h2) (.cons (.int _) (.cons (.int _) .nil))) (prs_dp r)
theorem till_dp {K : PySem.W.Frag} {H : Hp} {a : Addr} {ps : List (Int × Int)} (h : Till K H a ps) : Dp K H (.ref a) (.list (ps.map dP)) :=
  let ⟨_, h1, h2⟩ := h; .lst h1 (prs_dp h2)
theorem canLay_dPs : ∀ ps : List (Int × Int), PyData.canLayAll0 (ps.map dP) = true
  | [] => rfl
  | p :: r => by
    rw [List.map_cons]
    show (PyData.canLay0 (dP p) && PyData.canLayAll0 (r.map dP)) = true
    rw [canLay_dPs r]
    rfl
theorem depth_dPs : ∀ ps : List (Int × Int), PyData.depthAll (ps.map dP) ≤ 3
  | [] => by decide
  | p :: r => by
    have h := depth_dPs r
    rw [List.map_cons]
    show max (PyData.depth (dP p)) (PyData.depthAll (r.map dP)) ≤ 3
    have : PyData.depth (dP p) ≤ 3 := by
      show PyData.depth (.tuple [.int p.1, .int p.2]) ≤ 3
      simp [PyData.depth, PyData.depthAll]
    omega
theorem shaped_till (ps : List (Int × Int)) : SeqAt.shaped (.list (ps.map dP)) = true := by
  unfold SeqAt.shaped
  have h1 : PyData.canLay0 (.list (ps.map dP)) = true := canLay_dPs ps
  have h2 : PyData.depth (.list (ps.map dP)) ≤ 64 := by
    have := depth_dPs ps
    simp only [PyData.depth]
    omega
  rw [h1, decide_eq_true h2]
  rfl
theorem eqv_of_shaped {d : PyData} (h : SeqAt.shaped d = true) : PyData.eqv d d = true := PySem.SeqAt.eqv_refl d (SeqAt.canLay_of_shaped h)
theorem t_yes {A B : Hp → Prop} {σ : L2.St} {H : Hp} (h : A H) : tYes σ H (fun b H3 => if b = true then A H3 else B H3) := by
  show if true = true then A H else B H
  rw [if_pos rfl]
  exact h
theorem canLay_ints : ∀ l : List Int, PyData.canLayAll0 (l.map PyData.int) = true
  | [] => rfl
  | p :: r => by
    rw [List.map_cons]
    show (PyData.canLay0 (.int p) && PyData.canLayAll0 (r.map PyData.int)) = true
    rw [canLay_ints r]
    rfl
theorem depth_ints : ∀ l : List Int, PyData.depthAll (l.map PyData.int) ≤ 3
  | [] => by decide
  | p :: r => by
    have h := depth_ints r
    rw [List.map_cons]
    show max (PyData.depth (.int p)) (PyData.depthAll (r.map PyData.int)) ≤ 3
    have : PyData.depth (.int p) ≤ 3 := by simp [PyData.depth]
    omega
theorem shaped_ints (l : List Int) : SeqAt.shaped (.list (l.map PyData.int)) = true := by
  unfold SeqAt.shaped
  have h1 : PyData.canLay0 (.list (l.map PyData.int)) = true := canLay_ints l
  have h2 : PyData.depth (.list (l.map PyData.int)) ≤ 64 := by
    have := depth_ints l
    simp only [PyData.depth]
    omega
  rw [h1, decide_eq_true h2]
  rfl
theorem kone_own {K : PySem.W.Frag} {D C : Addr} {b : Bool} (hn : D ≠ C) (h2 : PySem.W.isClsIn K C = true) (h3 : PySem.W.typeIn K (.ref C) = some (.type "type")) (h4 : PySem.W.subIn K (.ref D) (.ref C) = some b) : PySem.W.kitOne K (.ref D) (.ref C) = some b := by
  have e1 : ¬ (Value.ref D == Value.ref C) = true := fun z => hn (Value.ref.inj (beq_iff_eq.mp z))
  have e2 : ((PySem.W.clsIn K C).isSome && PySem.W.typeIn K (.ref C) == some (.type "type")) = true := by
    have h2' : (PySem.W.clsIn K C).isSome = true := h2
    rw [h2', h3] <;> rfl
  unfold PySem.W.kitOne
  rw [if_neg e1]
  show (if ((PySem.W.clsIn K C).isSome && PySem.W.typeIn K (.ref C) == some (.type "type")) = true then PySem.W.subIn K (.ref D) (.ref C) else none) = some b
  rw [if_pos e2]
  exact h4
theorem kone_self {K : PySem.W.Frag} {D : Addr} : PySem.W.kitOne K (.ref D) (.ref D) = some true := by
  unfold PySem.W.kitOne
  rw [if_pos (beq_self_eq_true _)]
theorem kone_ty {K : PySem.W.Frag} {D : Addr} (h : PySem.W.subIn K (.ref D) (.type "ValueError") = some true) : PySem.W.kitOne K (.ref D) (.type "ValueError") = some true := by
  have e1 : ¬ (Value.ref D == Value.type "ValueError") = true := fun z => by cases beq_iff_eq.mp z
  unfold PySem.W.kitOne
  rw [if_neg e1]
  show (if PySem.W.kitMeta "ValueError" = true then PySem.W.subIn K (.ref D) (.type "ValueError") else none) = some true
  rw [if_pos (by decide +kernel)]
  exact h
theorem kany_f {K : PySem.W.Frag} {t c : Value} {cs : List Value} {r : Bool} (h : PySem.W.kitOne K t c = some false) (hr : PySem.W.kitAny K t cs = some r) : PySem.W.kitAny K t (c :: cs) = some r :=
  kitAny_cons h (fun _ => hr) fun z => nomatch z
theorem kany_t {K : PySem.W.Frag} {t c : Value} {cs : List Value} (h : PySem.W.kitOne K t c = some true) : PySem.W.kitAny K t (c :: cs) = some true :=
  kitAny_cons h (fun z => nomatch z) fun _ => rfl
theorem take_snoc {α : Type} {l : List α} {i : Nat} {x : α} (h : l[i]? = some x) : l.take (i + 1) = l.take i ++ [x] := by
  rw [List.take_add_one, h]
  rfl
theorem drop_at {α : Type} {l : List α} {i : Nat} {x : α} (h : l[i]? = some x) : l.drop i = x :: l.drop (i + 1) := by
  obtain ⟨hi, e⟩ := List.getElem?_eq_some_iff.mp h
  rw [List.drop_eq_getElem_cons hi, e]
theorem none_back {H H' : Hp} {p : Addr} (ex : Ex H H') (h : H' p = none) : H p = none := by
  cases z : H p with
  | none => rfl
  | some o => rw [ex _ _ z] at h; cases h
theorem Prs.take {H : Hp} : ∀ {xs : List V} {ps : List (Int × Int)} (n : Nat), Prs H xs ps → Prs H (xs.take n) (ps.take n)
  | _, _, 0, _ => .nil
  | _, _, _ + 1, .nil => .nil
  | _, _, n + 1, .cons h r => .cons h (Prs.take n r)
theorem Prs.drop {H : Hp} : ∀ {xs : List V} {ps : List (Int × Int)} (n : Nat), Prs H xs ps → Prs H (xs.drop n) (ps.drop n)
  | _, _, 0, h => h
  | _, _, _ + 1, .nil => .nil
  | _, _, n + 1, .cons h r => Prs.drop n r
theorem Prs.app {H : Hp} : ∀ {xs ys : List V} {ps qs : List (Int × Int)}, Prs H xs ps → Prs H ys qs → Prs H (xs ++ ys) (ps ++ qs)
  | _, _, _, _, .nil, h => h
  | _, _, _, _, .cons a r, h => .cons a (Prs.app r h)
theorem cut_take (xs : List V) (k : Nat) (h : k ≤ xs.length) : cutV xs none (some (k : Int)) = xs.take k := by
  unfold cutV
  rw [HT.sIx_none, HT.sIx_nat, List.drop_zero, Nat.sub_zero, Nat.min_eq_left h]
theorem cut_drop (xs : List V) (k : Nat) (h : k ≤ xs.length) : cutV xs (some (k : Int)) none = xs.drop k := by
  unfold cutV
  rw [HT.sIx_none, HT.sIx_nat, Nat.min_eq_left h, List.take_of_length_le (by rw [List.length_drop]; exact Nat.le_refl _)]
theorem seq_at {i : Int} {n : Nat} (h0 : 0 ≤ i) (h1 : i < n) : seqIndex? i n = some i.toNat := by
  have h2 : ¬ i < 0 := by omega
  simp [seqIndex?, h2, h0, h1]
theorem nodup_at {α : Type} {l : List α} {i j : Nat} {x : α} (h : l.Nodup) (hi : l[i]? = some x) (hj : l[j]? = some x) : i = j := by
  obtain ⟨h1, e1⟩ := List.getElem?_eq_some_iff.mp hi
  obtain ⟨h2, e2⟩ := List.getElem?_eq_some_iff.mp hj
  rcases Nat.lt_trichotomy i j with z | z | z
  · exact absurd (e1.trans e2.symm) (List.pairwise_iff_getElem.mp h i j h1 h2 z)
  · exact z
  · exact absurd (e2.trans e1.symm) (List.pairwise_iff_getElem.mp h j i h2 h1 z)
theorem Prs.keep {H H' : Hp} : ∀ {xs : List V} {ps : List (Int × Int)}, Prs H xs ps → (∀ t zs, H t = some (.tup zs) → H' t = some (.tup zs)) → Prs H' xs ps
  | _, _, .nil, _ => .nil
  | _, _, .cons ⟨t, h1, h2⟩ r, k => .cons ⟨t, h1, k _ _ h2⟩ (Prs.keep r k)
theorem take_succ_map {α β : Type} {l : List α} {i : Nat} {x : α} (f : α → β) (h : l[i]? = some x) : (l.take (i + 1)).map f = (l.take i).map f ++ [f x] := by
  rw [List.take_add_one, h, List.map_append]
  rfl
theorem rising_nd {ps : List (Int × Int)} (h : Rising ps) : (ps.map (·.1)).Nodup := by
  rw [List.Nodup, List.pairwise_map]
  exact h.imp fun z e => by omega
/-! ### what the law draws -/
def cell (ns : List Int) (k : Nat) : Int := ns.getD k 0
def mixed (c k : Int) : Int := (c + 7919 * k) * 48271 % 2147483647
theorem mixed_nn (c k : Int) : 0 ≤ mixed c k := Int.emod_nonneg _ (by decide)
theorem mixed_lt (c k : Int) : mixed c k < 2147483647 := Int.emod_lt_of_pos _ (by decide)
def spCellAt (K : PySem.W.Frag) : Sp := fun vs H Q _ => ∃ (a : Addr) (ns : List Int) (k : Nat), vs = [.ref a, .int k] ∧ SqL K H a (ns.map V.int) ∧ Q (.int (cell ns k)) H
theorem ok_cell_at (T : Tx K mg) : FnOk P w K mg base CX0 1 T.a__law_cell_at T.d__law_cell_at P__law_cell_at (spCellAt K) := by
  refine T.f__law_cell_at.ok sc__law_cell_at (fun vs H Q E h => ?_) (fun cdv A outer s H vs Q E hr h => ?_)
  · obtain ⟨a, ns, k, rfl, _⟩ := h
    rfl
  · obtain ⟨a, ns, k, rfl, hS, q⟩ := h
    refine ⟨_, (pss_cons (ps_if (pt_cmpR op_lt (pv 1) (pe_callB call_len_seq (by rfl) T.m_len (by decide +kernel) (pa_cons (pv 0) pa_nil)) (nomark _))
      (pss_one (ps_ret (pe_ix ix_list (pv 0) (pv 1) (fun _ _ => rfl))))
      pss_nil)
    (pss_one (ps_ret pe_int))), ?_⟩
    refine ⟨_, rfl, _, rfl, a, _, rfl, .inl hS, _, _, rfl, rfl, _, rfl, ite2 (fun e => ?_) (fun e => ?_)⟩
    · have e1 : (k : Int) < ((ns.map V.int).length : Int) := of_decide_eq_true e
      rw [List.length_map] at e1
      have e2 : k < ns.length := by omega
      refine ⟨_, rfl, _, rfl, a, _, _, .int (cell ns k), rfl, rfl, hS, atI_nat ?_, q⟩
      rw [List.getElem?_map, List.getElem?_eq_getElem e2]
      show some (V.int ns[k]) = _
      unfold cell
      rw [List.getD_eq_getElem?_getD, List.getElem?_eq_getElem e2]
      rfl
    · have e1 : ¬ (k : Int) < ((ns.map V.int).length : Int) := fun z => e (decide_eq_true z)
      rw [List.length_map] at e1
      have e2 : cell ns k = 0 := by
        unfold cell
        rw [List.getD_eq_getElem?_getD, List.getElem?_eq_none (by omega)]
        rfl
      rw [e2] at q
      exact q
def spMixed : Sp := fun vs H Q _ => ∃ c k, vs = [.int c, .int k] ∧ (-(2 ^ 64) < k ∧ k < 2 ^ 64) ∧ Q (.int (mixed c k)) H
theorem ok_mixed (T : Tx K mg) : FnOk P w K mg base CX0 1 T.a__law_mixed T.d__law_mixed P__law_mixed spMixed := by
  refine T.f__law_mixed.ok sc__law_mixed (fun vs H Q E h => ?_) (fun cdv A outer s H vs Q E hr h => ?_)
  · obtain ⟨c, k, rfl, _⟩ := h
    rfl
  · obtain ⟨c, k, rfl, hk, q⟩ := h
    refine ⟨_, (pss_one (ps_ret (pe_op op_mod (pe_op op_mul (pe_op op_add (pv 0) (pe_op op_mul pe_int (pv 1))) pe_int) pe_int))), ?_⟩
    repeat (first | refine ⟨_, rfl, ?_⟩ | refine ⟨(by show (0 : Int) < _; decide), ?_⟩ | refine ⟨⟨by decide, by decide⟩, ?_⟩ | refine ⟨.inr ⟨by decide, by decide⟩, ?_⟩ | refine ⟨.inl ⟨by decide, by decide⟩, ?_⟩ | refine ⟨⟨by decide, by decide, by decide⟩, ?_⟩ | refine ⟨_, _, rfl, rfl, ?_⟩ | refine ⟨rfl, _, rfl, ?_⟩)
    exact q
def menu : List Int := [1, 2, 5, 10, 20, 50, 100, 200, 500, 1000]
theorem menu_in : ∀ i : Nat, i < 10 → 1 ≤ menu.getD i 0 ∧ menu.getD i 0 ≤ 1000 := by decide
theorem menu_at {ms : List Int} {i : Int} {n : Nat} (hl : ms.length = n) (h0 : 0 ≤ i) (h1 : i < n) : atI (ms.map V.int) i = some (.int (ms.getD i.toNat 0)) := by
  have hn : ((i.toNat : Nat) : Int) = i := Int.toNat_of_nonneg h0
  have hlt : i.toNat < ms.length := by omega
  refine at_of hn.symm ?_
  rw [List.getElem?_map, List.getElem?_eq_getElem hlt, List.getD_eq_getElem?_getD, List.getElem?_eq_getElem hlt]
  rfl
/-! the kinds: a value that stands already is moved on -/
def nxt (v : Int) : Int := v % 1000 + 1
def itn (v : Int) (j : Nat) : Int := (v - 1 + j) % 1000 + 1
theorem itn_zero {v : Int} (h1 : 1 ≤ v) (h2 : v ≤ 1000) : itn v 0 = v := by unfold itn; omega
theorem itn_succ (v : Int) (j : Nat) : itn v (j + 1) = nxt (itn v j) := by unfold itn nxt; omega
theorem itn_in (v : Int) (j : Nat) : 1 ≤ itn v j ∧ itn v j ≤ 1000 := by unfold itn; omega
theorem itn_inj {v : Int} {i j : Nat} (hi : i < 1000) (hj : j < 1000) (h : itn v i = itn v j) : i = j := by unfold itn at h; omega
theorem escape : ∀ (n : Nat) (ks : List Int) (f : Nat → Int), ks.length = n → (∀ i j, i ≤ n → j ≤ n → f i = f j → i = j) → ∃ j, j ≤ n ∧ f j ∉ ks
  | 0, ks, f, hl, _ => ⟨0, Nat.le_refl _, by rw [List.length_eq_zero_iff.mp hl]; simp⟩
  | n + 1, ks, f, hl, hf => by
    by_cases h : f 0 ∈ ks
    · obtain ⟨j, hj, hn⟩ := escape n (ks.erase (f 0)) (fun i => f (i + 1)) (by rw [List.length_erase_of_mem h]; omega) fun i j hi hj e => by
        have := hf (i + 1) (j + 1) (by omega) (by omega) e
        omega
      refine ⟨j + 1, by omega, fun z => hn ?_⟩
      refine (List.mem_erase_of_ne fun e => ?_).mpr z
      have := hf (j + 1) 0 (by omega) (by omega) e
      omega
    · exact ⟨0, Nat.zero_le _, h⟩
theorem free_at {ks : List Int} (v : Int) (h : ks.length < 1000) : ∃ j, itn v j ∉ ks := by
  obtain ⟨j, _, hn⟩ := escape ks.length ks (itn v) rfl fun i j hi hj e => itn_inj (by omega) (by omega) e
  exact ⟨j, hn⟩
theorem least {p : Nat → Prop} (h : ∃ j, p j) : ∃ j, p j ∧ ∀ i, i < j → ¬ p i := by
  obtain ⟨j, hj⟩ := h
  induction j using Nat.strongRecOn with
  | _ j ih =>
    by_cases z : ∃ i, i < j ∧ p i
    · obtain ⟨i, hi, hp⟩ := z
      exact ih i hi hp
    · exact ⟨j, hj, fun i hi hp => z ⟨i, hi, hp⟩⟩
def dkv (ks : List Int) : List (Key × V) := ks.map fun k => (Sum.inl k, V.bl true)
theorem dkv_none {ks : List Int} {k : Int} (h : k ∉ ks) : valV (dkv ks) (Sum.inl k) = none := by
  cases e : valV (dkv ks) (Sum.inl k) with
  | none => rfl
  | some v =>
    have := valV_in e
    unfold dkv at this
    rw [List.map_map] at this
    obtain ⟨x, hx, ex⟩ := List.mem_map.mp this
    cases ex
    exact absurd hx h
theorem dkv_some {ks : List Int} {k : Int} (h : k ∈ ks) : ∃ v, valV (dkv ks) (Sum.inl k) = some v := by
  cases e : valV (dkv ks) (Sum.inl k) with
  | some v => exact ⟨v, rfl⟩
  | none =>
    refine absurd ?_ (valV_not e)
    unfold dkv
    rw [List.map_map]
    exact List.mem_map.mpr ⟨k, h, rfl⟩
theorem dkv_put {ks : List Int} {k : Int} (h : k ∉ ks) : putK (dkv ks) (Sum.inl k) (V.bl true) = dkv (ks ++ [k]) := by
  rw [putK_new _ (dkv_none h)]
  unfold dkv
  rw [List.map_append]
  rfl
/-! ### the table, by itself: rows of fewest pieces -/
abbrev Cell := Option Int
def rAt (r : List Cell) (i : Nat) : Cell := r.getD i none
theorem rAt_lt {r : List Cell} {i : Nat} (h : i < r.length) : r[i]? = some (rAt r i) := by
  unfold rAt
  rw [List.getD_eq_getElem?_getD, List.getElem?_eq_getElem h]
  rfl
theorem rAt_map {f : Nat → Cell} {n i : Nat} (h : i < n) : rAt ((List.range n).map f) i = f i := by
  unfold rAt
  rw [List.getD_eq_getElem?_getD, List.getElem?_map, List.getElem?_range h]
  rfl
theorem row_ext {r : List Cell} {n : Nat} {f : Nat → Cell} (hl : r.length = n) (h : ∀ i, i < n → rAt r i = f i) : r = (List.range n).map f := by
  apply List.ext_getElem?
  intro i
  by_cases hi : i < n
  · rw [rAt_lt (by omega), h i hi, List.getElem?_map, List.getElem?_range hi]
    rfl
  · rw [List.getElem?_eq_none (by omega), List.getElem?_eq_none (by rw [List.length_map, List.length_range]; omega)]
/-- a place, given what stands there and what stands ahead by some pieces -/
def bund (o few : Cell) (s : Int) : Cell :=
  match few with
  | none => o
  | some x => match o with
    | none => some (x + s)
    | some y => if x + s < y then some (x + s) else some y
theorem bund_some {o : Cell} {x s : Int} : ∃ m, bund o (some x) s = some m ∧ m ≤ x + s := by
  cases o with
  | none => exact ⟨_, rfl, by omega⟩
  | some y =>
    by_cases h : x + s < y
    · exact ⟨x + s, if_pos h, by omega⟩
    · exact ⟨y, if_neg h, by omega⟩
theorem bund_le {few : Cell} {y s : Int} : ∃ m, bund (some y) few s = some m ∧ m ≤ y := by
  cases few with
  | none => exact ⟨_, rfl, by omega⟩
  | some x =>
    by_cases h : x + s < y
    · exact ⟨x + s, if_pos h, by omega⟩
    · exact ⟨y, if_neg h, by omega⟩
theorem bund_or {o few : Cell} {s m : Int} (h : bund o few s = some m) : o = some m ∨ ∃ x, few = some x ∧ m = x + s := by
  cases few with
  | none => exact .inl h
  | some x =>
    cases o with
    | none => exact .inr ⟨x, rfl, (Option.some.inj h).symm⟩
    | some y =>
      by_cases z : x + s < y
      · have e : bund (some y) (some x) s = some (x + s) := if_pos z
        rw [e] at h
        exact .inr ⟨x, rfl, (Option.some.inj h).symm⟩
      · have e : bund (some y) (some x) s = some y := if_neg z
        rw [e] at h
        exact .inl h
/-- o is the least over up to n pieces of v on top of the row r, at the place d -/
def Lst (r : List Cell) (v n d : Nat) (o : Cell) : Prop :=
  (∀ (j : Nat) (x : Int), j ≤ n → j * v ≤ d → rAt r (d - j * v) = some x → ∃ m, o = some m ∧ m ≤ x + j) ∧
  (∀ m, o = some m → ∃ (j : Nat) (x : Int), j ≤ n ∧ j * v ≤ d ∧ rAt r (d - j * v) = some x ∧ m = x + j)
theorem Lst.uniq {r : List Cell} {v n d : Nat} {o p : Cell} (h : Lst r v n d o) (k : Lst r v n d p) : o = p := by
  obtain ⟨h1, h2⟩ := h
  obtain ⟨k1, k2⟩ := k
  cases o with
  | none =>
    cases p with
    | none => rfl
    | some m =>
      obtain ⟨j, x, a, b, c, _⟩ := k2 m rfl
      obtain ⟨_, z, _⟩ := h1 j x a b c
      cases z
  | some m =>
    obtain ⟨j, x, a, b, c, e⟩ := h2 m rfl
    obtain ⟨q, rfl, le1⟩ := k1 j x a b c
    obtain ⟨j', x', a', b', c', e'⟩ := k2 q rfl
    obtain ⟨m', em, le2⟩ := h1 j' x' a' b' c'
    cases em
    have : m = q := by omega
    rw [this]
theorem Lst.cut {r : List Cell} {v n m d : Nat} {o : Cell} (h : Lst r v n d o) (hm : ∀ j, j * v ≤ d → (j ≤ n ↔ j ≤ m)) : Lst r v m d o :=
  ⟨fun j x a b c => h.1 j x ((hm j b).mpr a) b c, fun q e => let ⟨j, x, a, b, c, z⟩ := h.2 q e; ⟨j, x, (hm j b).mp a, b, c, z⟩⟩
theorem Lst.zero {r : List Cell} {v d : Nat} : Lst r v 0 d (rAt r d) := by
  refine ⟨fun j x a b c => ?_, fun m e => ⟨0, m, Nat.le_refl _, by omega, by simpa using e, by simp⟩⟩
  have hj : j = 0 := by omega
  subst hj
  exact ⟨x, by simpa using c, by simp⟩
/-- s pieces more at once, where s is one more than before at most -/
theorem Lst.more {r : List Cell} {v n d s : Nat} {o p : Cell} (h : Lst r v n d o) (hp : s * v ≤ d → Lst r v n (d - s * v) p) (hs : s ≤ n + 1) :
    Lst r v (n + s) d (if s * v ≤ d then bund o p s else o) := by
  by_cases hd : s * v ≤ d
  · rw [if_pos hd]
    obtain ⟨h1, h2⟩ := h
    obtain ⟨p1, p2⟩ := hp hd
    refine ⟨fun j x a b c => ?_, fun m e => ?_⟩
    · by_cases hj : j ≤ n
      · obtain ⟨m, rfl, le⟩ := h1 j x hj b c
        obtain ⟨q, e, le'⟩ := bund_le (few := p) (y := m) (s := s)
        exact ⟨q, e, by omega⟩
      · have e1 : (j - s) * v = j * v - s * v := Nat.sub_mul ..
        have e2 : s * v ≤ j * v := Nat.mul_le_mul_right _ (by omega)
        obtain ⟨m, rfl, le⟩ := p1 (j - s) x (by omega) (by omega) (by rw [show d - s * v - (j - s) * v = d - j * v by omega]; exact c)
        obtain ⟨q, e, le'⟩ := bund_some (o := o) (x := m) (s := s)
        exact ⟨q, e, by omega⟩
    · rcases bund_or e with rfl | ⟨y, rfl, rfl⟩
      · obtain ⟨j, x, a, b, c, z⟩ := h2 m rfl
        exact ⟨j, x, by omega, b, c, z⟩
      · obtain ⟨j, x, a, b, c, z⟩ := p2 y rfl
        have e1 : (j + s) * v = j * v + s * v := Nat.add_mul ..
        exact ⟨j + s, x, by omega, by omega, by rw [show d - (j + s) * v = d - s * v - j * v by omega]; exact c, by omega⟩
  · rw [if_neg hd]
    refine h.cut fun j hj => ⟨fun _ => by omega, fun hle => ?_⟩
    by_cases hjn : j ≤ n
    · exact hjn
    · exfalso
      have : s * v ≤ j * v := Nat.mul_le_mul_right _ (by omega)
      omega
/-- a bundle of s pieces worth a -/
def withBundle (r : List Cell) (a s : Nat) : List Cell := (List.range r.length).map fun d => if a ≤ d then bund (rAt r d) (rAt r (d - a)) s else rAt r d
theorem withBundle_len (r : List Cell) (a s : Nat) : (withBundle r a s).length = r.length := by
  unfold withBundle
  rw [List.length_map, List.length_range]
/-- each size is one more than what is ahead at most -/
def Steps : Nat → List Nat → Prop
  | _, [] => True
  | n, s :: r => s ≤ n + 1 ∧ Steps (n + s) r
theorem steps_snoc : ∀ {l : List Nat} {n s : Nat}, Steps n l → s ≤ n + l.sum + 1 → Steps n (l ++ [s])
  | [], n, s, _, h => ⟨by simpa using h, trivial⟩
  | a :: l, n, s, ⟨h1, h2⟩, h => ⟨h1, steps_snoc h2 (by rw [List.sum_cons] at h; omega)⟩
theorem fold_lst {r : List Cell} {v : Nat} : ∀ {l : List Nat} {n : Nat} {o : List Cell}, Steps n l → o.length = r.length → (∀ d, d < r.length → Lst r v n d (rAt o d)) →
    (l.foldl (fun o s => withBundle o (s * v) s) o).length = r.length ∧ ∀ d, d < r.length → Lst r v (n + l.sum) d (rAt (l.foldl (fun o s => withBundle o (s * v) s) o) d)
  | [], n, o, _, hl, h => ⟨hl, by simpa using h⟩
  | s :: l, n, o, ⟨hs, hst⟩, hl, h => by
    have h' : ∀ d, d < r.length → Lst r v (n + s) d (rAt (withBundle o (s * v) s) d) := by
      intro d hd
      unfold withBundle
      rw [rAt_map (by omega)]
      exact (h d hd).more (fun hle => h _ (by omega)) hs
    have := fold_lst (l := l) hst (by rw [withBundle_len, hl]) h'
    rw [List.foldl_cons, List.sum_cons]
    rw [show n + (s + l.sum) = n + s + l.sum by omega]
    exact this
/-- the least, count by count, as it is walked -/
def leastUp (r : List Cell) (v d : Nat) : Nat → Cell
  | 0 => none
  | i + 1 => bund (leastUp r v d i) (rAt r (d - i * v)) i
theorem leastUp_lst {r : List Cell} {v d : Nat} : ∀ {i : Nat}, i * v ≤ d → Lst r v i d (leastUp r v d (i + 1))
  | 0, _ => by
    have e : leastUp r v d 1 = rAt r d := by
      show bund none (rAt r (d - 0 * v)) ((0 : Nat) : Int) = rAt r d
      rw [Nat.zero_mul, Nat.sub_zero]
      cases rAt r d with
      | none => rfl
      | some x => show some (x + 0) = some x; rw [Int.add_zero]
    rw [e]
    exact Lst.zero
  | i + 1, h => by
    have h0 : i * v ≤ d := Nat.le_trans (Nat.mul_le_mul_right _ (by omega)) h
    obtain ⟨h1, h2⟩ := leastUp_lst (r := r) h0
    show Lst r v (i + 1) d (bund (leastUp r v d (i + 1)) (rAt r (d - (i + 1) * v)) ((i + 1 : Nat) : Int))
    refine ⟨fun j x a b c => ?_, fun m e => ?_⟩
    · by_cases hj : j ≤ i
      · obtain ⟨m, e, le⟩ := h1 j x hj b c
        rw [e]
        obtain ⟨q, e', le'⟩ := bund_le (few := rAt r (d - (i + 1) * v)) (y := m) (s := ((i + 1 : Nat) : Int))
        exact ⟨q, e', by omega⟩
      · have hj' : j = i + 1 := by omega
        subst hj'
        rw [c]
        exact bund_some
    · rcases bund_or e with z | ⟨y, z, rfl⟩
      · obtain ⟨j, x, a, b, c, z⟩ := h2 m z
        exact ⟨j, x, by omega, b, c, z⟩
      · exact ⟨i + 1, y, Nat.le_refl _, h, z, rfl⟩
def leastF (r : List Cell) (v c d : Nat) : Cell := leastUp r v d (min c (d / v) + 1)
theorem leastF_lst {r : List Cell} {v c d : Nat} (hv : 0 < v) : Lst r v c d (leastF r v c d) := by
  have h1 : min c (d / v) * v ≤ d := Nat.le_trans (Nat.mul_le_mul_right _ (Nat.min_le_right ..)) (Nat.div_mul_le_self ..)
  refine (leastUp_lst h1).cut fun j hj => ?_
  have : j ≤ d / v := (Nat.le_div_iff_mul_le hv).mpr hj
  omega
/-- the next row -/
def nextRow (r : List Cell) (v c : Nat) : List Cell := (List.range r.length).map (leastF r v c)
theorem nextRow_len (r : List Cell) (v c : Nat) : (nextRow r v c).length = r.length := by
  unfold nextRow
  rw [List.length_map, List.length_range]
theorem fold_next {r : List Cell} {v c : Nat} {l : List Nat} (hv : 0 < v) (hst : Steps 0 l) (hsum : l.sum = min c ((r.length - 1) / v)) : l.foldl (fun o s => withBundle o (s * v) s) r = nextRow r v c := by
  obtain ⟨h1, h2⟩ := fold_lst (r := r) (v := v) hst rfl fun d _ => Lst.zero
  refine row_ext h1 fun d hd => ?_
  refine Lst.uniq ((h2 d hd).cut (m := c) fun j hj => ?_) (leastF_lst hv)
  have : j ≤ (r.length - 1) / v := (Nat.le_div_iff_mul_le hv).mpr (by omega)
  omega
/-- the rows of a till -/
def rowsOf (r : List Cell) : List (Int × Int) → List (List Cell)
  | [] => [r]
  | p :: ps => r :: rowsOf (nextRow r p.1.toNat p.2.toNat) ps
def row0 (n : Nat) : List Cell := some 0 :: List.replicate n none
theorem row0_len (n : Nat) : (row0 n).length = n + 1 := by simp [row0]
def lastRow (r : List Cell) : List (Int × Int) → List Cell
  | [] => r
  | p :: ps => lastRow (nextRow r p.1.toNat p.2.toNat) ps
theorem lastRow_snoc (r : List Cell) (p : Int × Int) : ∀ ps : List (Int × Int), lastRow r (ps ++ [p]) = nextRow (lastRow r ps) p.1.toNat p.2.toNat := by
  intro ps
  induction ps generalizing r with
  | nil => rfl
  | cons q ps ih => exact ih _
theorem rowsOf_snoc (r : List Cell) (p : Int × Int) : ∀ ps : List (Int × Int), rowsOf r (ps ++ [p]) = rowsOf r ps ++ [lastRow r (ps ++ [p])] := by
  intro ps
  induction ps generalizing r with
  | nil => rfl
  | cons q ps ih => show r :: rowsOf _ (ps ++ [p]) = r :: rowsOf _ ps ++ [lastRow _ (ps ++ [p])]; rw [ih]; rfl
theorem rowsOf_len (r : List Cell) (ps : List (Int × Int)) : (rowsOf r ps).length = ps.length + 1 := by
  induction ps generalizing r with
  | nil => rfl
  | cons q ps ih => show (rowsOf _ ps).length + 1 = _; rw [ih]; rfl
theorem rowsOf_at (r : List Cell) (ps : List (Int × Int)) : ∀ k, k ≤ ps.length → (rowsOf r ps)[k]? = some (lastRow r (ps.take k)) := by
  induction ps generalizing r with
  | nil => intro k hk; have : k = 0 := by simpa using hk
           subst this; rfl
  | cons q ps ih =>
    intro k hk
    cases k with
    | zero => rfl
    | succ k =>
      show (rowsOf _ ps)[k]? = some (lastRow _ (ps.take k))
      exact ih _ k (by simpa using hk)
theorem lastRow_len (r : List Cell) (ps : List (Int × Int)) : (lastRow r ps).length = r.length := by
  induction ps generalizing r with
  | nil => rfl
  | cons q ps ih => show (lastRow _ ps).length = _; rw [ih, nextRow_len]
/-! ### the way that is told -/
/-- the greatest number of pieces, up to g, that the row ahead goes with -/
def pickUp (r : List Cell) (v d : Nat) (m : Int) : Nat → Nat
  | 0 => 0
  | g + 1 => if rAt r (d - (g + 1) * v) = some (m - ((g + 1 : Nat) : Int)) then g + 1 else pickUp r v d m g
def pick (r : List Cell) (v c d : Nat) (m : Int) : Nat := pickUp r v d m (min c (d / v))
theorem pickUp_le (r : List Cell) (v d : Nat) (m : Int) : ∀ g, pickUp r v d m g ≤ g
  | 0 => Nat.le_refl _
  | g + 1 => by
    unfold pickUp
    split
    · exact Nat.le_refl _
    · exact Nat.le_succ_of_le (pickUp_le r v d m g)
theorem pickUp_ok {r : List Cell} {v d : Nat} {m : Int} : ∀ {g : Nat}, (∃ j, j ≤ g ∧ rAt r (d - j * v) = some (m - (j : Int))) → rAt r (d - pickUp r v d m g * v) = some (m - (pickUp r v d m g : Int)) ∧ ∀ j, pickUp r v d m g < j → j ≤ g → rAt r (d - j * v) ≠ some (m - (j : Int))
  | 0, ⟨j, hj, h⟩ => by
    obtain rfl : j = 0 := by omega
    exact ⟨h, fun j h1 h2 => by omega⟩
  | g + 1, ⟨j, hj, h⟩ => by
    unfold pickUp
    by_cases e : rAt r (d - (g + 1) * v) = some (m - ((g + 1 : Nat) : Int))
    · rw [if_pos e]
      exact ⟨e, fun j h1 h2 => by omega⟩
    · rw [if_neg e]
      have hj2 : j ≠ g + 1 := fun z => e (by rw [← z]; exact h)
      obtain ⟨h1, h2⟩ := pickUp_ok (g := g) ⟨j, by omega, h⟩
      refine ⟨h1, fun i hi hi2 => ?_⟩
      by_cases z : i = g + 1
      · rw [z]
        exact e
      · exact h2 i hi (by omega)
/-- what the table tells of the last place goes back by some pieces of the last kind -/
theorem back_one {r : List Cell} {v c d : Nat} {m : Int} (hv : 0 < v) (h : leastF r v c d = some m) : ∃ j, j ≤ min c (d / v) ∧ rAt r (d - j * v) = some (m - (j : Int)) := by
  obtain ⟨j, x, a, b, e, rfl⟩ := (leastF_lst hv).2 m h
  refine ⟨j, Nat.le_min.mpr ⟨a, (Nat.le_div_iff_mul_le hv).mpr b⟩, ?_⟩
  rw [e]
  congr 1
  omega
def cellI (o : Cell) : Int := o.getD 0
/-- the way, by the table, of the first k kinds for d -/
def given (r0 : List Cell) (ps : List (Int × Int)) : Nat → Nat → List (Int × Int)
  | 0, _ => []
  | k + 1, d =>
    let p := ps.getD k (0, 0)
    let g := pick (lastRow r0 (ps.take k)) p.1.toNat p.2.toNat d (cellI (rAt (lastRow r0 (ps.take (k + 1))) d))
    given r0 ps k (d - g * p.1.toNat) ++ (if 0 < g then [(p.1, (g : Int))] else [])
theorem given_succ (r0 : List Cell) (ps : List (Int × Int)) (k d : Nat) {p : Int × Int} (hp : ps[k]? = some p) {g : Nat} (hg : g = pick (lastRow r0 (ps.take k)) p.1.toNat p.2.toNat d (cellI (rAt (lastRow r0 (ps.take (k + 1))) d))) :
    given r0 ps (k + 1) d = given r0 ps k (d - g * p.1.toNat) ++ (if 0 < g then [(p.1, (g : Int))] else []) := by
  subst hg
  show given r0 ps k _ ++ _ = _
  rw [show ps.getD k (0, 0) = p by rw [List.getD_eq_getElem?_getD, hp]; rfl]
/-- a place that the table tells, goes on to one that it tells -/
theorem step_ok {r0 : List Cell} {ps : List (Int × Int)} {k d : Nat} {m : Int} {p : Int × Int} (hp : ps[k]? = some p) (hv : 1 ≤ p.1) (hd : d < r0.length) (h : rAt (lastRow r0 (ps.take (k + 1))) d = some m) {g : Nat}
    (hg : g = pick (lastRow r0 (ps.take k)) p.1.toNat p.2.toNat d m) :
    g ≤ p.2.toNat ∧ g * p.1.toNat ≤ d ∧ rAt (lastRow r0 (ps.take k)) (d - g * p.1.toNat) = some (m - (g : Int)) := by
  have hl : (lastRow r0 (ps.take k)).length = r0.length := lastRow_len ..
  have e : leastF (lastRow r0 (ps.take k)) p.1.toNat p.2.toNat d = some m := by
    rw [← h, List.take_add_one, hp]
    show _ = rAt (lastRow r0 (ps.take k ++ [p])) d
    rw [lastRow_snoc]
    exact (rAt_map (by rw [hl]; exact hd)).symm
  have hb := back_one (by omega) e
  have hle := pickUp_le (lastRow r0 (ps.take k)) p.1.toNat d m (min p.2.toNat (d / p.1.toNat))
  have hok := (pickUp_ok hb).1
  have hgg : g = pickUp (lastRow r0 (ps.take k)) p.1.toNat d m (min p.2.toNat (d / p.1.toNat)) := hg
  rw [← hgg] at hle hok
  refine ⟨by omega, ?_, hok⟩
  exact Nat.le_trans (Nat.mul_le_mul_right _ (by omega : g ≤ d / p.1.toNat)) (Nat.div_mul_le_self ..)
def worthP (l : List (Int × Int)) : Int := (l.map fun p => p.1 * p.2).sum
def manyP (l : List (Int × Int)) : Int := (l.map (·.2)).sum
theorem worthP_app (l k : List (Int × Int)) : worthP (l ++ k) = worthP l + worthP k := by
  unfold worthP
  rw [List.map_append, List.sum_append]
theorem manyP_app (l k : List (Int × Int)) : manyP (l ++ k) = manyP l + manyP k := by
  unfold manyP
  rw [List.map_append, List.sum_append]
theorem row0_some {n d : Nat} {m : Int} (h : rAt (row0 n) d = some m) : d = 0 ∧ m = 0 := by
  cases d with
  | zero =>
    have : some (0 : Int) = some m := h
    exact ⟨rfl, (Option.some.inj this).symm⟩
  | succ d =>
    have : (List.replicate n (none : Cell)).getD d none = some m := h
    rw [List.getD_eq_getElem?_getD, List.getElem?_replicate] at this
    split at this <;> cases this
/-- what the way is -/
theorem given_ok {n : Nat} {ps : List (Int × Int)} (hv : ∀ p ∈ ps, 1 ≤ p.1) : ∀ {k d : Nat} {m : Int}, k ≤ ps.length → d < n + 1 → rAt (lastRow (row0 n) (ps.take k)) d = some m →
    worthP (given (row0 n) ps k d) = (d : Int) ∧ manyP (given (row0 n) ps k d) = m ∧ (∀ q ∈ given (row0 n) ps k d, 1 ≤ q.2 ∧ ∃ c, (q.1, c) ∈ ps.take k ∧ q.2 ≤ c) ∧
    (ps.Pairwise (fun p q => p.1 < q.1) → (given (row0 n) ps k d).Pairwise fun p q => p.1 < q.1) ∧ (given (row0 n) ps k d).length ≤ k
  | 0, d, m, _, _, h => by
    obtain ⟨rfl, rfl⟩ := row0_some h
    exact ⟨rfl, rfl, by simp [given], fun _ => .nil, Nat.le_refl _⟩
  | k + 1, d, m, hk, hd, h => by
    have hp := List.getElem?_eq_getElem (show k < ps.length by omega)
    have hpm := List.getElem_mem (show k < ps.length by omega)
    generalize ps[k] = p at hp hpm
    have hv1 := hv p hpm
    obtain ⟨g1, g2, g3⟩ := step_ok hp hv1 (by rw [row0_len]; exact hd) h rfl
    rw [given_succ (row0 n) ps k d hp (g := pick (lastRow (row0 n) (ps.take k)) p.1.toNat p.2.toNat d m) (by rw [h]; rfl)]
    generalize pick (lastRow (row0 n) (ps.take k)) p.1.toNat p.2.toNat d m = g at g1 g2 g3
    obtain ⟨i1, i2, i3, i4, i5⟩ := given_ok hv (k := k) (by omega) (by omega) g3
    have tk : ps.take (k + 1) = ps.take k ++ [p] := by
      rw [List.take_add_one, hp]
      rfl
    by_cases hg : 0 < g
    · rw [if_pos hg]
      refine ⟨?_, ?_, ?_, ?_, ?_⟩
      · rw [worthP_app, i1]
        show ((d - g * p.1.toNat : Nat) : Int) + (p.1 * (g : Int) + 0) = d
        have e : ((g * p.1.toNat : Nat) : Int) = (g : Int) * p.1 := by
          rw [Int.natCast_mul, Int.toNat_of_nonneg (by omega)]
        rw [Int.mul_comm p.1]
        omega
      · rw [manyP_app, i2]
        show m - (g : Int) + ((g : Int) + 0) = m
        omega
      · intro q hq
        rcases List.mem_append.mp hq with z | z
        · obtain ⟨a, c, b, b'⟩ := i3 q z
          exact ⟨a, c, by rw [tk]; exact List.mem_append.mpr (.inl b), b'⟩
        · rw [List.mem_singleton.mp z]
          exact ⟨by show (1 : Int) ≤ g; omega, p.2, by rw [tk]; exact List.mem_append.mpr (.inr (List.mem_singleton.mpr rfl)), by show (g : Int) ≤ p.2; omega⟩
      · intro hr
        rw [List.pairwise_append]
        refine ⟨i4 hr, List.pairwise_singleton .., fun a ha b hb => ?_⟩
        rw [List.mem_singleton.mp hb]
        obtain ⟨_, c, hc, _⟩ := i3 a ha
        have hpw : (ps.take k ++ [p]).Pairwise fun p q => p.1 < q.1 := by
          rw [← tk]
          exact hr.sublist (List.take_sublist ..)
        exact (List.pairwise_append.mp hpw).2.2 _ hc p (List.mem_singleton.mpr rfl)
      · rw [List.length_append]
        show _ + 1 ≤ k + 1
        omega
    · rw [if_neg hg, List.append_nil]
      have g0 : g = 0 := by omega
      subst g0
      refine ⟨by rw [i1]; omega, by rw [i2]; simp, fun q hq => ?_, i4, by omega⟩
      obtain ⟨a, c, b, b'⟩ := i3 q hq
      exact ⟨a, c, by rw [tk]; exact List.mem_append.mpr (.inl b), b'⟩
/-! ### every way -/
def waysK (ps : List (Int × Int)) : Nat → List (List Nat)
  | 0 => [[]]
  | k + 1 => (waysK ps k).flatMap fun w => (List.range ((ps.getD k (0, 0)).2.toNat + 1)).map fun j => w ++ [j]
def worthV (ps : List (Int × Int)) (w : List Nat) : Int := ((ps.zip w).map fun x => x.1.1 * (x.2 : Int)).sum
theorem worthV_snoc {ps : List (Int × Int)} {w : List Nat} {p : Int × Int} {j : Nat} (h : ps.length = w.length) : worthV (ps ++ [p]) (w ++ [j]) = worthV ps w + p.1 * (j : Int) := by
  unfold worthV
  rw [List.zip_append h, List.map_append, List.sum_append]
  simp
theorem ways_in {ps : List (Int × Int)} {k : Nat} {p : Int × Int} {w : List Nat} (hp : ps[k]? = some p) : w ∈ waysK ps (k + 1) ↔ ∃ v j, w = v ++ [j] ∧ v ∈ waysK ps k ∧ j ≤ p.2.toNat := by
  show w ∈ List.flatMap _ _ ↔ _
  rw [List.mem_flatMap, show ps.getD k (0, 0) = p by rw [List.getD_eq_getElem?_getD, hp]; rfl]
  constructor
  · rintro ⟨v, hv, hw⟩
    obtain ⟨j, hj, rfl⟩ := List.mem_map.mp hw
    exact ⟨v, j, rfl, hv, by have := List.mem_range.mp hj; omega⟩
  · rintro ⟨v, j, rfl, hv, hj⟩
    exact ⟨v, hv, List.mem_map.mpr ⟨j, List.mem_range.mpr (by omega), rfl⟩⟩
theorem ways_len {ps : List (Int × Int)} : ∀ {k : Nat} {w : List Nat}, k ≤ ps.length → w ∈ waysK ps k → w.length = k
  | 0, w, _, h => by
    rw [List.mem_singleton.mp h]
    rfl
  | k + 1, w, hk, h => by
    obtain ⟨v, j, rfl, hv, _⟩ := (ways_in (List.getElem?_eq_getElem (show k < ps.length by omega))).mp h
    rw [List.length_append, ways_len (by omega) hv]
    rfl
/-- the first place from the right at which they differ, decides -/
def lexR : List Nat → List Nat → Bool
  | a :: x, b :: y => if a = b then lexR x y else decide (b < a)
  | _, _ => false
theorem lexR_self : ∀ l : List Nat, lexR l l = false
  | [] => rfl
  | a :: l => by
    unfold lexR
    rw [if_pos rfl]
    exact lexR_self l
def betterF (x y : List Nat) : Bool := if x.sum = y.sum then lexR x.reverse y.reverse else decide (x.sum < y.sum)
/-- the way, by the table, as numbers -/
def gvec (r0 : List Cell) (ps : List (Int × Int)) : Nat → Nat → List Nat
  | 0, _ => []
  | k + 1, d =>
    let p := ps.getD k (0, 0)
    let g := pick (lastRow r0 (ps.take k)) p.1.toNat p.2.toNat d (cellI (rAt (lastRow r0 (ps.take (k + 1))) d))
    gvec r0 ps k (d - g * p.1.toNat) ++ [g]
theorem gvec_succ (r0 : List Cell) (ps : List (Int × Int)) (k d : Nat) {p : Int × Int} (hp : ps[k]? = some p) {g : Nat} (hg : g = pick (lastRow r0 (ps.take k)) p.1.toNat p.2.toNat d (cellI (rAt (lastRow r0 (ps.take (k + 1))) d))) :
    gvec r0 ps (k + 1) d = gvec r0 ps k (d - g * p.1.toNat) ++ [g] := by
  subst hg
  show gvec r0 ps k _ ++ _ = _
  rw [show ps.getD k (0, 0) = p by rw [List.getD_eq_getElem?_getD, hp]; rfl]
def pairUp (ps : List (Int × Int)) (w : List Nat) : List (Int × Int) := ((ps.zip w).filter fun x => decide (0 < x.2)).map fun x => (x.1.1, (x.2 : Int))
theorem pairUp_snoc {ps : List (Int × Int)} {w : List Nat} {p : Int × Int} {j : Nat} (h : ps.length = w.length) : pairUp (ps ++ [p]) (w ++ [j]) = pairUp ps w ++ (if 0 < j then [(p.1, (j : Int))] else []) := by
  unfold pairUp
  rw [List.zip_append h, List.filter_append, List.map_append]
  congr 1
  show List.map _ (List.filter _ [(p, j)]) = _
  by_cases hj : 0 < j
  · rw [if_pos hj, List.filter_cons_of_pos (by simpa using hj)]
    rfl
  · rw [if_neg hj, List.filter_cons_of_neg (by simpa using hj)]
    rfl
theorem gvec_len (r0 : List Cell) (ps : List (Int × Int)) : ∀ (k d : Nat), (gvec r0 ps k d).length = k
  | 0, _ => rfl
  | k + 1, d => by
    show (gvec r0 ps k _ ++ [_]).length = _
    rw [List.length_append, gvec_len r0 ps k]
    rfl
theorem gvec_given (r0 : List Cell) (ps : List (Int × Int)) : ∀ (k d : Nat), k ≤ ps.length → pairUp (ps.take k) (gvec r0 ps k d) = given r0 ps k d
  | 0, _, _ => rfl
  | k + 1, d, h => by
    have hp := List.getElem?_eq_getElem (show k < ps.length by omega)
    rw [gvec_succ r0 ps k d hp rfl, given_succ r0 ps k d hp rfl, List.take_add_one, hp]
    show pairUp (ps.take k ++ [_]) _ = _
    rw [pairUp_snoc (by rw [gvec_len, List.length_take]; omega), gvec_given r0 ps k _ (by omega)]
/-- a way is told by the table, and takes no fewer than it tells -/
theorem way_some {n : Nat} {ps : List (Int × Int)} (hv : ∀ p ∈ ps, 1 ≤ p.1) : ∀ {k d : Nat} {w : List Nat}, k ≤ ps.length → d < n + 1 → w ∈ waysK ps k → worthV (ps.take k) w = (d : Int) → ∃ m, rAt (lastRow (row0 n) (ps.take k)) d = some m ∧ m ≤ (w.sum : Int)
  | 0, d, w, _, _, hw, hd => by
    rw [List.mem_singleton.mp hw] at hd ⊢
    have : d = 0 := by
      have : (0 : Int) = d := hd
      omega
    subst this
    exact ⟨0, rfl, by simp⟩
  | k + 1, d, w, hk, hdn, hw, hd => by
    have hp := List.getElem?_eq_getElem (show k < ps.length by omega)
    have hpm := List.getElem_mem (show k < ps.length by omega)
    generalize ps[k] = p at hp hpm
    have hv1 := hv p hpm
    obtain ⟨v, j, rfl, hvw, hj⟩ := (ways_in hp).mp hw
    have tk : ps.take (k + 1) = ps.take k ++ [p] := by
      rw [List.take_add_one, hp]
      rfl
    have hvl := ways_len (by omega) hvw
    rw [tk, worthV_snoc (by rw [hvl, List.length_take]; omega)] at hd
    have hpj : p.1 * (j : Int) = ((j * p.1.toNat : Nat) : Int) := by
      rw [Int.natCast_mul, Int.toNat_of_nonneg (by omega), Int.mul_comm]
    have hwn : 0 ≤ worthV (ps.take k) v := by
      unfold worthV
      have : ∀ l : List ((Int × Int) × Nat), (∀ x ∈ l, 1 ≤ x.1.1) → 0 ≤ (l.map fun x => x.1.1 * (x.2 : Int)).sum := by
        intro l
        induction l with
        | nil => intro _; exact Int.le_refl _
        | cons x l ih =>
          intro hx
          rw [List.map_cons, List.sum_cons]
          have h1 := ih fun y hy => hx y (List.mem_cons_of_mem _ hy)
          have h2 : 0 ≤ x.1.1 * (x.2 : Int) := Int.mul_nonneg (by have := hx x List.mem_cons_self; omega) (by omega)
          omega
      refine this _ fun x hx => hv _ (List.mem_of_mem_take (List.of_mem_zip hx).1)
    rw [hpj] at hd
    obtain ⟨m, hm, hle⟩ := way_some (n := n) hv (k := k) (d := d - j * p.1.toNat) (by omega) (by omega) hvw (by omega)
    have hl : (lastRow (row0 n) (ps.take k)).length = n + 1 := by rw [lastRow_len, row0_len]
    have hlst := leastF_lst (r := lastRow (row0 n) (ps.take k)) (v := p.1.toNat) (c := p.2.toNat) (d := d) (by omega)
    obtain ⟨q, hq, hqle⟩ := hlst.1 j m hj (by omega) hm
    refine ⟨q, ?_, ?_⟩
    · rw [tk, lastRow_snoc]
      exact (rAt_map (by rw [hl]; exact hdn)).trans hq
    · rw [List.sum_append]
      simp
      omega
/-- the way told is one of all, and beats each other one of the same worth -/
theorem gvec_best {n : Nat} {ps : List (Int × Int)} (hv : ∀ p ∈ ps, 1 ≤ p.1) : ∀ {k d : Nat} {m : Int}, k ≤ ps.length → d < n + 1 → rAt (lastRow (row0 n) (ps.take k)) d = some m →
    gvec (row0 n) ps k d ∈ waysK ps k ∧ worthV (ps.take k) (gvec (row0 n) ps k d) = (d : Int) ∧ ((gvec (row0 n) ps k d).sum : Int) = m ∧
    ∀ w ∈ waysK ps k, worthV (ps.take k) w = (d : Int) → w ≠ gvec (row0 n) ps k d → ((w.sum : Int) = m → lexR (gvec (row0 n) ps k d).reverse w.reverse = true ∧ lexR w.reverse (gvec (row0 n) ps k d).reverse = false)
  | 0, d, m, _, _, h => by
    obtain ⟨rfl, rfl⟩ := row0_some h
    refine ⟨List.mem_singleton.mpr rfl, rfl, rfl, fun w hw _ hne => absurd (List.mem_singleton.mp hw) hne⟩
  | k + 1, d, m, hk, hdn, h => by
    have hp := List.getElem?_eq_getElem (show k < ps.length by omega)
    have hpm := List.getElem_mem (show k < ps.length by omega)
    generalize ps[k] = p at hp hpm
    have hv1 := hv p hpm
    have tk : ps.take (k + 1) = ps.take k ++ [p] := by
      rw [List.take_add_one, hp]
      rfl
    have hl : (lastRow (row0 n) (ps.take k)).length = n + 1 := by rw [lastRow_len, row0_len]
    have heq : leastF (lastRow (row0 n) (ps.take k)) p.1.toNat p.2.toNat d = some m := by
      rw [← h, tk, lastRow_snoc]
      exact (rAt_map (by rw [hl]; exact hdn)).symm
    have hlst := leastF_lst (r := lastRow (row0 n) (ps.take k)) (v := p.1.toNat) (c := p.2.toNat) (d := d) (by omega)
    rw [heq] at hlst
    have hb := back_one (by omega) heq
    obtain ⟨g1, g2, g3⟩ := step_ok hp hv1 (by rw [row0_len]; exact hdn) h rfl
    have gtop := (pickUp_ok hb).2
    have gs := gvec_succ (row0 n) ps k d hp (g := pick (lastRow (row0 n) (ps.take k)) p.1.toNat p.2.toNat d m) (by rw [h]; rfl)
    rw [gs]
    have hgg : pick (lastRow (row0 n) (ps.take k)) p.1.toNat p.2.toNat d m = pickUp (lastRow (row0 n) (ps.take k)) p.1.toNat d m (min p.2.toNat (d / p.1.toNat)) := rfl
    rw [← hgg] at gtop
    generalize pick (lastRow (row0 n) (ps.take k)) p.1.toNat p.2.toNat d m = g at g1 g2 g3 gtop
    obtain ⟨i1, i2, i3, i4⟩ := gvec_best hv (k := k) (by omega) (by omega) g3
    have pj : ∀ j : Nat, p.1 * (j : Int) = ((j * p.1.toNat : Nat) : Int) := fun j => by
      rw [Int.natCast_mul, Int.toNat_of_nonneg (by omega), Int.mul_comm]
    have hgl := gvec_len (row0 n) ps k (d - g * p.1.toNat)
    refine ⟨(ways_in hp).mpr ⟨_, g, rfl, i1, g1⟩, ?_, ?_, ?_⟩
    · rw [tk, worthV_snoc (by rw [hgl, List.length_take]; omega), i2, pj]
      omega
    · rw [List.sum_append]
      simp
      omega
    · intro w hw hwd hne hsum
      obtain ⟨v, j, rfl, hvw, hj⟩ := (ways_in hp).mp hw
      have hvl := ways_len (by omega) hvw
      rw [tk, worthV_snoc (by rw [hvl, List.length_take]; omega), pj] at hwd
      rw [List.sum_append] at hsum
      have hsum' : (v.sum : Int) + (j : Int) = m := by
        simpa using hsum
      have hwn : 0 ≤ worthV (ps.take k) v := by
        unfold worthV
        have : ∀ l : List ((Int × Int) × Nat), (∀ x ∈ l, 1 ≤ x.1.1) → 0 ≤ (l.map fun x => x.1.1 * (x.2 : Int)).sum := by
          intro l
          induction l with
          | nil => intro _; exact Int.le_refl _
          | cons x l ih =>
            intro hx
            rw [List.map_cons, List.sum_cons]
            have h1 := ih fun y hy => hx y (List.mem_cons_of_mem _ hy)
            have h2 : 0 ≤ x.1.1 * (x.2 : Int) := Int.mul_nonneg (by have := hx x List.mem_cons_self; omega) (by omega)
            omega
        refine this _ fun x hx => hv _ (List.mem_of_mem_take (List.of_mem_zip hx).1)
      have hjd : j * p.1.toNat ≤ d := by omega
      obtain ⟨m', hm', hle'⟩ := way_some (n := n) hv (k := k) (d := d - j * p.1.toNat) (by omega) (by omega) hvw (by omega)
      obtain ⟨q, hq, hqle⟩ := hlst.1 j m' hj hjd hm'
      cases hq
      have hmm : m' = m - (j : Int) := by omega
      rw [hmm] at hm'
      have hjg : j ≤ g := by
        by_cases hlt : g < j
        · refine absurd hm' (gtop j hlt (Nat.le_min.mpr ⟨hj, ?_⟩))
          exact (Nat.le_div_iff_mul_le (by omega)).mpr hjd
        · omega
      rw [List.reverse_append, List.reverse_append]
      show lexR (g :: (gvec (row0 n) ps k (d - g * p.1.toNat)).reverse) (j :: v.reverse) = true ∧ lexR (j :: v.reverse) (g :: (gvec (row0 n) ps k (d - g * p.1.toNat)).reverse) = false
      unfold lexR
      by_cases e : g = j
      · subst e
        rw [if_pos rfl, if_pos rfl]
        refine i4 v hvw (by omega) (fun e => hne (by rw [e])) (by omega)
      · rw [if_neg e, if_neg (Ne.symm e)]
        exact ⟨decide_eq_true (by omega), decide_eq_false (by omega)⟩
/-! ### the table, as it is built -/
/-! ### rows as lists -/
def vO : Cell → V
  | none => .non
  | some i => .int i
theorem vO_at {r : List Cell} {i : Nat} (h : i < r.length) : (r.map vO)[i]? = some (vO (rAt r i)) := by
  rw [List.getElem?_map, rAt_lt h]
  rfl
def Row (K : PySem.W.Frag) (H : Hp) (a : Addr) (r : List Cell) : Prop := SqL K H a (r.map vO)
/-- the rows, each a list of its own -/
def RowsAt (H : Hp) : List Addr → List (List Cell) → Prop := Paired fun a r => H a = some (.lst (r.map vO))
theorem RowsAt.ex {H H' : Hp} (e : Ex H H') : ∀ {as : List Addr} {rs : List (List Cell)}, RowsAt H as rs → RowsAt H' as rs
  | _, _, .nil => .nil
  | _, _, .cons h r => .cons (e _ _ h) (RowsAt.ex e r)
theorem RowsAt.len {H : Hp} {as : List Addr} {rs : List (List Cell)} (h : RowsAt H as rs) : as.length = rs.length := Paired.length h
theorem RowsAt.snoc {H : Hp} : ∀ {as : List Addr} {rs : List (List Cell)} {a : Addr} {r : List Cell}, RowsAt H as rs → H a = some (.lst (r.map vO)) → RowsAt H (as ++ [a]) (rs ++ [r])
  | _, _, _, _, .nil, h => .cons h .nil
  | _, _, _, _, .cons b r, h => .cons b (RowsAt.snoc r h)
theorem RowsAt.get {H : Hp} : ∀ {as : List Addr} {rs : List (List Cell)} {i : Nat} {r : List Cell}, RowsAt H as rs → rs[i]? = some r → ∃ a, as[i]? = some a ∧ H a = some (.lst (r.map vO))
  | _, _, i, _, .nil, e => by simp at e
  | _, _, 0, _, .cons h _, e => by simp at e; subst e; exact ⟨_, by simp, h⟩
  | _, _, i + 1, _, .cons _ r, e => by
    obtain ⟨a, h1, h2⟩ := RowsAt.get (i := i) r (by simpa using e)
    exact ⟨a, by simpa using h1, h2⟩
theorem RowsAt.getA {H : Hp} : ∀ {as : List Addr} {rs : List (List Cell)} {i : Nat} {a : Addr}, RowsAt H as rs → as[i]? = some a → ∃ r, rs[i]? = some r ∧ H a = some (.lst (r.map vO))
  | _, _, i, _, .nil, e => by simp at e
  | _, _, 0, _, .cons h _, e => by simp at e; subst e; exact ⟨_, by simp, h⟩
  | _, _, i + 1, _, .cons _ r, e => by
    obtain ⟨x, h1, h2⟩ := RowsAt.getA (i := i) r (by simpa using e)
    exact ⟨x, by simpa using h1, h2⟩
theorem RowsAt.up {H : Hp} {f : Addr} {o : HO} : ∀ {as : List Addr} {rs : List (List Cell)}, f ∉ as → RowsAt H as rs → RowsAt (upd H f o) as rs
  | _, _, _, .nil => .nil
  | _, _, hf, .cons h r => .cons (by rw [upd_ne fun e => hf (by rw [← e]; exact List.mem_cons_self)]; exact h) (RowsAt.up (fun z => hf (List.mem_cons_of_mem _ z)) r)
theorem RowsAt.mem {H : Hp} : ∀ {as : List Addr} {rs : List (List Cell)} {x : Addr}, RowsAt H as rs → x ∈ as → ∃ o, H x = some o
  | a :: as, _, x, .cons h r, hx => by
    rcases List.mem_cons.mp hx with e | e
    · exact ⟨_, e ▸ h⟩
    · exact RowsAt.mem r e
/-- the table: new lists -/
def NewRows (H : Hp) (rs : List (List Cell)) (Q : VK) : Prop := ∀ R as H2, Ex H H2 → (∀ a ∈ R :: as, H a = none) → (R :: as).Nodup → H2 R = some (.lst (as.map V.ref)) → RowsAt H2 as rs → Q (.ref R) H2
theorem at_row {H : Hp} {as : List Addr} {rs : List (List Cell)} {i : Int} {k : Nat} {r : List Cell} (h : RowsAt H as rs) (hi : i = (k : Int)) (e : rs[k]? = some r) : ∃ a, atI (as.map V.ref) i = some (.ref a) ∧ as[k]? = some a ∧ H a = some (.lst (r.map vO)) := by
  obtain ⟨a, h1, h2⟩ := h.get e
  refine ⟨a, at_of hi ?_, h1, h2⟩
  rw [List.getElem?_map, h1]
  rfl
/-- the bundle, as far as a place -/
def wbUp (r : List Cell) (A s m : Nat) : List Cell := (List.range r.length).map fun d => if A ≤ d ∧ d < m then bund (rAt r d) (rAt r (d - A)) s else rAt r d
theorem wbUp_len (r : List Cell) (A s m : Nat) : (wbUp r A s m).length = r.length := by
  show ((List.range r.length).map _).length = _
  rw [List.length_map, List.length_range]
theorem wbUp_start (r : List Cell) (A s : Nat) : wbUp r A s A = r := by
  refine (row_ext rfl fun i hi => ?_).symm
  rw [if_neg (by omega)]
theorem wbUp_end {r : List Cell} {A s m : Nat} (h : r.length ≤ m) : wbUp r A s m = withBundle r A s := by
  refine row_ext (wbUp_len ..) fun i hi => ?_
  rw [show rAt (wbUp r A s m) i = _ from rAt_map hi]
  by_cases ha : A ≤ i
  · rw [if_pos ha, if_pos ⟨ha, by omega⟩]
  · rw [if_neg ha, if_neg fun z => ha z.1]
theorem wbUp_at {r : List Cell} {A s m : Nat} (h : m < r.length) : rAt (wbUp r A s m) m = rAt r m := by
  rw [show rAt (wbUp r A s m) m = _ from rAt_map h, if_neg (by omega)]
theorem set_map {r : List Cell} {m : Nat} {c : Cell} : (r.map vO).set m (vO c) = (r.set m c).map vO := by
  rw [List.map_set]
theorem wbUp_set {r : List Cell} {A s m : Nat} {c : Cell} (hm : m < r.length) (ha : A ≤ m) (hc : c = bund (rAt r m) (rAt r (m - A)) s) : (wbUp r A s m).set m c = wbUp r A s (m + 1) := by
  apply List.ext_getElem?
  intro i
  by_cases hi : i < r.length
  · rw [rAt_lt (r := wbUp r A s (m + 1)) (by rw [wbUp_len]; exact hi), show rAt (wbUp r A s (m + 1)) i = _ from rAt_map hi]
    by_cases e : i = m
    · subst e
      rw [List.getElem?_set_self (by rw [wbUp_len]; exact hi), if_pos ⟨ha, by omega⟩, hc]
    · rw [List.getElem?_set_ne (by omega), rAt_lt (by rw [wbUp_len]; exact hi), show rAt (wbUp r A s m) i = _ from rAt_map hi]
      by_cases z : A ≤ i ∧ i < m
      · rw [if_pos z, if_pos ⟨z.1, by omega⟩]
      · rw [if_neg z, if_neg (by omega)]
  · rw [List.getElem?_eq_none (by rw [List.length_set, wbUp_len]; omega), List.getElem?_eq_none (by rw [wbUp_len]; omega)]
theorem wbUp_keep {r : List Cell} {A s m : Nat} (hm : m < r.length) (h : rAt r m = bund (rAt r m) (rAt r (m - A)) s) : wbUp r A s (m + 1) = wbUp r A s m := by
  refine row_ext (n := r.length) (wbUp_len ..) fun i hi => ?_
  rw [show rAt (wbUp r A s (m + 1)) i = _ from rAt_map hi]
  by_cases e : i = m
  · subst e
    rw [if_neg (by omega : ¬ (A ≤ i ∧ i < i))]
    split
    · exact h.symm
    · rfl
  · by_cases z : A ≤ i ∧ i < m
    · rw [if_pos z, if_pos ⟨z.1, by omega⟩]
    · rw [if_neg z, if_neg (by omega)]
/-- a new row -/
def NewRow (H : Hp) (r : List Cell) (Q : VK) : Prop := ∀ p H2, Ex H H2 → H p = none → H2 p = some (.lst (r.map vO)) → Q (.ref p) H2
def spBundle (K : PySem.W.Frag) : Sp := fun vs H Q _ => ∃ (a : Addr) (r : List Cell) (A s : Nat), vs = [.ref a, .int (A : Int), .int (s : Int)] ∧ Row K H a r ∧ r.length ≤ 2000 ∧ A ≤ 1000000 ∧ NewRow H (withBundle r A s) Q
theorem ok_with_bundle (T : Tx K mg) : FnOk P w K mg base CX0 1 T.a__with_bundle T.d__with_bundle P__with_bundle (spBundle K) := by
  refine T.f__with_bundle.ok sc__with_bundle (fun vs H Q E h => ?_) (fun cdv A outer s H vs Q E hr h => ?_)
  · obtain ⟨a, r, B, s, rfl, _⟩ := h
    rfl
  · obtain ⟨a, r, B, s, rfl, hS, hl, hB, q⟩ := h
    refine ⟨_, (pss_cons (ps_set (i := 3) sc__with_bundle.nd rfl (.inl rfl) (pe_callTy call_list_of (by rfl) T.m_list (by decide +kernel) (pa_cons (pv 0) pa_nil)))
    (pss_cons (ps_for PassesOwn.never rfl (pi_range2 (by rfl) T.m_range (pa_cons (pv 1) (pa_cons (pe_callB call_len_seq (by rfl) T.m_len (by decide +kernel) (pa_cons (pv 0) pa_nil)) pa_nil))) (pg_name (i := 4) sc__with_bundle.nd rfl (.inl rfl))
      (pss_cons (ps_set (i := 5) sc__with_bundle.nd rfl (.inl rfl) (pe_ix ix_list (pv 0) (pe_op op_sub (pv 4) (pv 1)) (fun _ _ => rfl)))
      (pss_one (ps_if (PW.pt (pw_and (pt_cmpR op_notN (pv 5) pe_non (nomark _)) (pw_and1 (PW.pt (pw_or (pt_cmpR op_isN (pe_ix ix_list (pv 3) (pv 4) (fun _ _ => rfl)) pe_non (nomark _)) (pw_or1 (pt_cmpR op_lt (pe_op op_add (pv 5) (pv 2)) (pe_ix ix_list (pv 3) (pv 4) (fun _ _ => rfl)) (nomark _))))))))
        (pss_one (ps_asg (pe_op op_add (pv 5) (pv 2)) (pg_sub (pv 3) (pv 4) set_list)))
        pss_nil))))
    (pss_one (ps_ret (pv 3))))), ?_⟩
    have hS' : SqL K H a (r.map vO) := hS
    refine ⟨_, rfl, a, _, rfl, .inl hS', fun l hl0 => ?_⟩
    have hrl : (r.map vO).length = r.length := List.length_map _
    have nal : ∀ ys, H a = some (.lst ys) → a ≠ l := fun ys z => ne_of_none z hl0
    refine ⟨_, rfl, _, rfl, a, _, rfl, .inl ((Ex.nw hl0).seq hS'), _, _, rfl, ⟨by omega, by omega, by omega, by omega⟩, ?_⟩
    refine for_range (fun i σ H' => ∃ y4 y5, σ = [some (.ref a), some (.int (B : Int)), some (.int (s : Int)), some (.ref l), y4, y5] ∧ Ex H H' ∧ H' l = some (.lst ((wbUp r B s (B + i)).map vO)))
      ⟨_, _, rfl, Ex.nw hl0, by rw [Nat.add_zero, wbUp_start]; exact upd_same⟩ ?_ ?_
    · rintro i σ H1 hi ⟨y4, y5, rfl, ex, el⟩
      have hlt : B + i < r.length := by omega
      have a1 : atI (r.map vO) ((B : Int) + (i : Int) - (B : Int)) = some (vO (rAt r i)) := at_of (j := i) (by omega) (vO_at (by omega))
      have a2 : atI ((wbUp r B s (B + i)).map vO) ((B : Int) + (i : Int)) = some (vO (rAt r (B + i))) := at_of (j := B + i) (by omega) (by
        rw [vO_at (by rw [wbUp_len]; exact hlt), wbUp_at hlt])
      have sub : B + i - B = i := by omega
      refine ⟨_, rfl, _, rfl, _, rfl, _, _, rfl, rfl, a, _, _, _, rfl, rfl, ex.seq hS', a1, ?_⟩
      have keep : bund (rAt r (B + i)) (rAt r i) (s : Int) = rAt r (B + i) → wbUp r B s (B + (i + 1)) = wbUp r B s (B + i) := fun z => wbUp_keep hlt (by
        show rAt r (B + i) = bund (rAt r (B + i)) (rAt r (B + i - B)) s
        rw [sub]
        exact z.symm)
      have put : ∀ {x : Int} {o : Cell}, rAt r i = some x → rAt r (B + i) = o → bund o (some x) (s : Int) = some (x + (s : Int)) → ((wbUp r B s (B + i)).map vO).set (B + i) (.int (x + (s : Int))) = (wbUp r B s (B + (i + 1))).map vO := by
        intro x o h1 h2 h3
        rw [show V.int (x + (s : Int)) = vO (some (x + (s : Int))) from rfl, set_map]
        congr 1
        refine wbUp_set hlt (by omega) ?_
        rw [sub, h1, h2, h3]
      have hix : ixN ((wbUp r B s (B + i)).map vO).length ((B : Int) + (i : Int)) = some (B + i) := by
        rw [show ((B : Int) + (i : Int)) = ((B + i : Nat) : Int) from rfl]
        exact Evl.ixN_nat (by rw [List.length_map, wbUp_len]; exact hlt)
      cases hx : rAt r i with
      | none =>
        refine ⟨_, rfl, rfl, _, rfl, iteDN (fun z => absurd rfl z) (fun _ => iteF ?_)⟩
        exact ⟨_, _, rfl, ex, by rw [keep (by rw [hx]; rfl)]; exact el⟩
      | some x =>
        refine ⟨_, rfl, rfl, _, rfl, iteDN (fun _ => ?_) (fun z => nomatch z)⟩
        cases hy : rAt r (B + i) with
        | none =>
          rw [hy] at a2
          refine ⟨_, rfl, _, rfl, l, _, _, _, rfl, rfl, .of el, a2, rfl, _, rfl, iteD (fun _ => iteT ?_) (fun z => absurd rfl z)⟩
          refine ⟨_, rfl, _, rfl, _, _, rfl, rfl, _, rfl, _, rfl, l, _, _, B + i, rfl, rfl, el, hix, _, _, rfl, Ex.mu ex hl0, ?_⟩
          rw [upd_same, put hx hy rfl]
        | some y =>
          rw [hy] at a2
          refine ⟨_, rfl, _, rfl, l, _, _, _, rfl, rfl, .of el, a2, rfl, _, rfl, iteD (fun z => nomatch z) (fun _ => ?_)⟩
          refine ⟨_, rfl, _, rfl, _, _, rfl, rfl, _, rfl, _, rfl, l, _, _, _, rfl, rfl, .of el, a2, _, _, rfl, rfl, _, rfl, iteD (fun e => ?_) (fun e => ?_)⟩
          · refine ⟨_, rfl, _, rfl, _, _, rfl, rfl, _, rfl, _, rfl, l, _, _, B + i, rfl, rfl, el, hix, _, _, rfl, Ex.mu ex hl0, ?_⟩
            rw [upd_same, put hx hy (if_pos e)]
          · refine ⟨_, _, rfl, ex, ?_⟩
            rw [keep (by rw [hx, hy]; exact if_neg e)]
            exact el
    · rintro σ H1 ⟨y4, y5, rfl, ex, el⟩
      rw [wbUp_end (by omega)] at el
      exact ⟨_, rfl, q l H1 ex hl0 el⟩
/-- the bundles -/
def spBundles : Sp := fun vs H Q _ => ∃ n : Nat, vs = [.int (n : Int)] ∧ n ≤ 100000 ∧ ∀ p ss H2, Ex H H2 → H p = none → H2 p = some (.lst (ss.map fun k : Nat => V.int (k : Int))) → Steps 0 ss → ss.sum = n → ss.length ≤ n → Q (.ref p) H2
theorem ok_bundles (T : Tx K mg) : FnOk P w K mg base CX0 1 T.a__bundles T.d__bundles P__bundles spBundles := by
  refine T.f__bundles.ok sc__bundles (fun vs H Q E h => ?_) (fun cdv A outer s H vs Q E hr h => ?_)
  · obtain ⟨n, rfl, _⟩ := h
    rfl
  · obtain ⟨n, rfl, hn, q⟩ := h
    refine ⟨_, (pss_cons (ps_set (i := 1) sc__bundles.nd rfl (.inl rfl) (pe_lst pa_nil))
    (pss_cons (ps_set (i := 2) sc__bundles.nd rfl (.inl rfl) pe_int)
    (pss_cons (ps_while PassesOwn.never (pt_cmpR op_gt (pv 0) pe_int (nomark _))
      (pss_cons (ps_set (i := 3) sc__bundles.nd rfl (.inl rfl) (pe_callB (call_min2 rfl) (by rfl) T.m_min (by decide +kernel) (pa_cons (pv 2) (pa_cons (pv 0) pa_nil))))
      (pss_cons (ps_expr (pe_bm PySem.F.plainAttrs_list PySem.F.slot_list_append PySem.F.type_list_append mt_append (pv 1) (pa_cons (pv 3) pa_nil)))
      (pss_cons (ps_aug (i := 0) sc__bundles.nd rfl (.inl rfl) (pv 3) ip_sub)
      (pss_one (ps_aug (i := 2) sc__bundles.nd rfl (.inl rfl) pe_int ip_mulR))))))
    (pss_one (ps_ret (pv 1)))))), ?_⟩
    refine ⟨Nat.zero_le _, fun l hl0 => ?_⟩
    refine ⟨fun m σ H' => ∃ (ss : List Nat) (z : Nat) (y3 : Option V), σ = [some (.int (m : Int)), some (.ref l), some (.int (z : Int)), y3] ∧ Ex H H' ∧ H' l = some (.lst (ss.map fun k : Nat => V.int (k : Int))) ∧ Steps 0 ss ∧ ss.sum + m = n ∧ ss.length ≤ ss.sum ∧ 1 ≤ z ∧ (m = 0 ∨ z = ss.sum + 1),
      ⟨n, [], 1, none, rfl, Ex.nw hl0, upd_same, trivial, by simp, by simp, Nat.le_refl _, .inr (by simp)⟩, ?_⟩
    rintro m σ H' ⟨ss, z, y3, rfl, ex, el, hst, hsum, hlen, hz, hmz⟩
    refine ⟨_, rfl, _, _, rfl, rfl, _, rfl, iteD (fun e => ?_) (fun e => ?_)⟩
    · have hm : 0 < m := by omega
      obtain ⟨t, ht, ht1, ht2, ht3⟩ : ∃ t : Nat, (if (m : Int) < (z : Int) then (m : Int) else (z : Int)) = (t : Int) ∧ 1 ≤ t ∧ t ≤ m ∧ t ≤ z ∧ (t = m ∨ t = z) := by
        by_cases h : (m : Int) < (z : Int)
        · exact ⟨m, if_pos h, by omega, by omega, by omega, .inl rfl⟩
        · exact ⟨z, if_neg h, hz, by omega, by omega, .inr rfl⟩
      refine ⟨fun σ' H2 => ∃ m', m' < m ∧ ∃ (ss : List Nat) (z : Nat) (y3 : Option V), σ' = [some (.int (m' : Int)), some (.ref l), some (.int (z : Int)), y3] ∧ Ex H H2 ∧ H2 l = some (.lst (ss.map fun k : Nat => V.int (k : Int))) ∧ Steps 0 ss ∧ ss.sum + m' = n ∧ ss.length ≤ ss.sum ∧ 1 ≤ z ∧ (m' = 0 ∨ z = ss.sum + 1), fun _ _ z => z, ?_⟩
      refine ⟨_, rfl, _, rfl, _, _, rfl, ?_⟩
      rw [ht]
      have hl2 : (ss ++ [t]).map (fun k : Nat => V.int (k : Int)) = ss.map (fun k : Nat => V.int (k : Int)) ++ [V.int (t : Int)] := by rw [List.map_append]; rfl
      have hs2 : (ss ++ [t]).sum = ss.sum + t := by rw [List.sum_append]; simp
      refine ⟨_, rfl, .inl ⟨rfl, _, .of el⟩, _, rfl, l, _, _, rfl, rfl, el, len63' (by rw [List.length_map]; omega), ?_⟩
      refine ⟨_, rfl, _, rfl, _, _, rfl, rfl, ?_⟩
      refine ⟨_, rfl, _, _, rfl, rfl, .inr ⟨by decide, by decide⟩, ?_⟩
      refine ⟨m - t, by omega, ss ++ [t], z * 2, some (.int (t : Int)), ?_, Ex.mu ex hl0, ?_, steps_snoc hst (by omega), by omega, by rw [List.length_append, hs2]; simp; omega, by omega, by omega⟩
      · show [some (V.int ((m : Int) - (t : Int))), some (.ref l), some (.int ((z : Int) * 2)), some (.int (t : Int))] = _
        rw [show (m : Int) - (t : Int) = ((m - t : Nat) : Int) by omega, show (z : Int) * 2 = ((z * 2 : Nat) : Int) by omega]
      · rw [hl2]
        exact upd_same
    · exact ⟨_, rfl, q l ss H' ex hl0 el hst (by omega) (by omega)⟩
theorem le_sum : ∀ {l : List Nat} {x : Nat}, x ∈ l → x ≤ l.sum
  | a :: l, x, h => by
    rw [List.sum_cons]
    rcases List.mem_cons.mp h with e | e
    · omega
    · have := le_sum e
      omega
theorem fold_len (r : List Cell) (v : Nat) : ∀ (l : List Nat), (l.foldl (fun o s => withBundle o (s * v) s) r).length = r.length := by
  intro l
  induction l generalizing r with
  | nil => rfl
  | cons s l ih => rw [List.foldl_cons, ih, withBundle_len]
/-- a kind more -/
def spKind (K : PySem.W.Frag) : Sp := fun vs H Q _ => ∃ (a : Addr) (r : List Cell) (v c : Nat), vs = [.ref a, .int (v : Int), .int (c : Int)] ∧ Row K H a r ∧ 1 ≤ r.length ∧ r.length ≤ 2000 ∧ 1 ≤ v ∧ v ≤ 100000 ∧ NewRow H (nextRow r v c) Q
theorem ok_with_kind (T : Tx K mg) : FnOk P w K mg base CX0 2 T.a_with_kind T.d_with_kind P_with_kind (spKind K) := by
  have G__bundles := ok_bundles (P := P) (w := w) (base := base) T
  have G__with_bundle := ok_with_bundle (P := P) (w := w) (base := base) T
  refine T.f_with_kind.ok sc_with_kind (fun vs H Q E h => ?_) (fun cdv A outer s H vs Q E hr h => ?_)
  · obtain ⟨a, r, v, c, rfl, _⟩ := h
    rfl
  · obtain ⟨a, r, v, c, rfl, hS, hl1, hl, hv1, hv2, q⟩ := h
    refine ⟨_, (pss_cons (ps_set (i := 3) sc_with_kind.nd rfl (.inl rfl) (pe_callTy call_list_of (by rfl) T.m_list (by decide +kernel) (pa_cons (pv 0) pa_nil)))
    (pss_cons (ps_set (i := 4) sc_with_kind.nd rfl (.inl rfl) (pe_callB (call_min2 rfl) (by rfl) T.m_min (by decide +kernel) (pa_cons (pv 2) (pa_cons (pe_op op_fdiv (pe_op op_sub (pe_callB call_len_seq (by rfl) T.m_len (by decide +kernel) (pa_cons (pv 0) pa_nil)) pe_int) (pv 1)) pa_nil))))
    (pss_cons (ps_for PassesOwn.never rfl (pi_list (pe_call G__bundles (hr.mono (by decide)) (by rfl) T.g__bundles T.f__bundles.kp T.p__bundles .nil pass0 (pa_cons (pv 4) pa_nil))) (pg_name (i := 5) sc_with_kind.nd rfl (.inl rfl))
      (pss_one (ps_set (i := 3) sc_with_kind.nd rfl (.inl rfl) (pe_call G__with_bundle (hr.mono (by decide)) (by rfl) T.g__with_bundle T.f__with_bundle.kp T.p__with_bundle .nil pass0 (pa_cons (pv 3) (pa_cons (pe_op op_mul (pv 5) (pv 1)) (pa_cons (pv 5) pa_nil)))))))
    (pss_one (ps_ret (pv 3)))))), ?_⟩
    have hS' : SqL K H a (r.map vO) := hS
    have hrl : (r.map vO).length = r.length := List.length_map _
    refine ⟨_, rfl, a, _, rfl, .inl hS', fun l hl0 => ?_⟩
    (generalize hh : upd H l _ = H1; have e1 : Ex H H1 := (by rw [← hh]; exact Ex.nw hl0); have cl := (show H1 l = some _ by rw [← hh]; exact upd_same); clear hh)
    obtain ⟨n, hn, hnn⟩ : ∃ n : Nat, (if (((r.map vO).length : Int) - 1) / (v : Int) < (c : Int) then (((r.map vO).length : Int) - 1) / (v : Int) else (c : Int)) = (n : Int) ∧ n = min c ((r.length - 1) / v) := by
      rw [hrl, show ((r.length : Int) - 1) / (v : Int) = (((r.length - 1) / v : Nat) : Int) by
        rw [Int.natCast_ediv]
        congr 1
        omega]
      by_cases h : (((r.length - 1) / v : Nat) : Int) < (c : Int)
      · exact ⟨(r.length - 1) / v, if_pos h, by omega⟩
      · exact ⟨c, if_neg h, by omega⟩
    have hn2 : n ≤ 2000 := by
      have : (r.length - 1) / v ≤ r.length - 1 := Nat.div_le_self ..
      omega
    refine ⟨_, rfl, _, rfl, a, _, rfl, .inl (e1.seq hS'), _, _, rfl, rfl, _, rfl, _, _, rfl, rfl, ⟨by omega, by omega⟩, _, _, rfl, ?_⟩
    rw [hn]
    refine ⟨_, rfl, n, rfl, by omega, fun p ss H2 e2 hp ep hst hsum hlen => ?_⟩
    refine ⟨p, rfl, ⟨_, .of ep⟩, for_list (xs := ss.map fun k : Nat => V.int (k : Int)) (fun i σ H' => ∃ o y5, σ = [some (.ref a), some (.int (v : Int)), some (.int (c : Int)), some (.ref o), some (.int (n : Int)), y5] ∧ Ex H2 H' ∧ H o = none ∧ H' o = some (.lst (((ss.take i).foldl (fun o s => withBundle o (s * v) s) r).map vO)))
      ⟨l, _, rfl, Ex.rfl', hl0, e2 _ _ cl⟩ (fun i σ H' _ h => by obtain ⟨_, _, _, e, _⟩ := h; exact .of (e _ _ ep)) ?_ ?_⟩
    · rintro i x σ H3 hx ⟨o, y5, rfl, ex, ho, eo⟩
      rw [List.getElem?_map] at hx
      obtain ⟨s, hs, rfl⟩ := Option.map_eq_some_iff.mp hx
      have hsl : s ≤ n := by
        rw [← hsum]
        exact le_sum (List.mem_of_getElem? hs)
      have hsv : s * v ≤ r.length - 1 := by
        have h1 : n * v ≤ r.length - 1 := by
          rw [hnn]
          exact Nat.le_trans (Nat.mul_le_mul_right _ (Nat.min_le_right ..)) (Nat.div_mul_le_self ..)
        exact Nat.le_trans (Nat.mul_le_mul_right _ hsl) h1
      have hfl : ((ss.take i).foldl (fun o s => withBundle o (s * v) s) r).length = r.length := fold_len ..
      refine ⟨_, rfl, _, rfl, _, rfl, _, _, rfl, rfl, .inr ⟨by omega, by omega⟩, _, rfl, o, _, s * v, s, congrArg (fun z => [V.ref o, V.int z, V.int (s : Int)]) (Int.natCast_mul ..).symm, .of eo, by omega, by omega, fun p' H4 e4 hp' ep' => ?_⟩
      refine ⟨p', _, rfl, ex.tr e4, none_back ((e1.tr e2).tr ex) hp', ?_⟩
      rw [List.take_add_one, hs, List.foldl_append]
      exact ep'
    · rintro σ H3 ⟨o, y5, rfl, ex, ho, eo⟩
      rw [List.take_of_length_le (by rw [List.length_map]; exact Nat.le_refl _), fold_next (v := v) (c := c) (by omega) hst (by omega)] at eo
      exact ⟨_, rfl, q o H3 ((e1.tr e2).tr ex) ho eo⟩
def spCheck (lo hi : Int) (cN : Addr) : Sp := fun vs H Q E => ∃ v : Int, vs = [.int v] ∧ ((lo ≤ v ∧ v ≤ hi) → Q .non H) ∧ (¬ (lo ≤ v ∧ v ≤ hi) → E (.ref cN) none H)
theorem ok_check_sum (T : Tx K mg) : FnOk P w K mg base (L2.CX P w) 1 T.a_check_sum T.d_check_sum P_check_sum (spCheck 0 1000 T.c_NoSum) := by
  refine T.f_check_sum.okX sc_check_sum (fun vs H Q E h => ?_) (fun cdv A outer s H vs Q E hr h => ?_)
  · obtain ⟨v, rfl, _⟩ := h
    rfl
  · obtain ⟨v, rfl, q1, q2⟩ := h
    refine ⟨_, (pss_one (ps_if (pt_not (pt_chain op_le op_le pe_int (pv 0) (pe_glob (v := .int 1000) (by rfl) T.w_MOST_SUM.choose_spec ⟨_, rfl⟩)))
      (pss_one (ps_raise rfl (takes_of rfl rfl rfl rfl) (pmk_own PySem.F.excBase_ValueError T.x_NoSum T.g_NoSum T.k_NoSum (raises_own T.b_NoSum T.t_NoSum) rfl)))
      pss_nil)), ?_⟩
    repeat (first | refine ⟨_, rfl, ?_⟩ | refine ⟨(by show (0 : Int) < _; decide), ?_⟩ | refine ⟨⟨by decide, by decide⟩, ?_⟩ | refine ⟨.inr ⟨by decide, by decide⟩, ?_⟩ | refine ⟨.inl ⟨by decide, by decide⟩, ?_⟩ | refine ⟨⟨by decide, by decide, by decide⟩, ?_⟩ | refine ⟨_, _, rfl, rfl, ?_⟩ | refine ⟨rfl, _, rfl, ?_⟩)
    first | refine iteVI (fun e => ?_) (fun e => ?_) | refine iteVN (fun e => ?_) (fun e => ?_) | refine iteD (fun e => ?_) (fun e => ?_) | refine iteDN (fun e => ?_) (fun e => ?_) | refine iteB (fun e => ?_) (fun e => ?_)
    · repeat (first | refine ⟨_, rfl, ?_⟩ | refine ⟨(by show (0 : Int) < _; decide), ?_⟩ | refine ⟨⟨by decide, by decide⟩, ?_⟩ | refine ⟨.inr ⟨by decide, by decide⟩, ?_⟩ | refine ⟨.inl ⟨by decide, by decide⟩, ?_⟩ | refine ⟨⟨by decide, by decide, by decide⟩, ?_⟩ | refine ⟨_, _, rfl, rfl, ?_⟩ | refine ⟨rfl, _, rfl, ?_⟩)
      first | refine iteVI (fun e' => ?_) (fun e' => ?_) | refine iteVN (fun e' => ?_) (fun e' => ?_) | refine iteD (fun e' => ?_) (fun e' => ?_) | refine iteDN (fun e' => ?_) (fun e' => ?_) | refine iteB (fun e' => ?_) (fun e' => ?_)
      · exact q2 fun z => e' z.2
      · exact q1 ⟨e, e'⟩
    · exact ⟨_, rfl, iteT (q2 fun z => e z.1)⟩
theorem row0_map (n : Nat) : [V.int 0] ++ (List.replicate n [V.non]).flatten = (row0 n).map vO := by
  show V.int 0 :: (List.replicate n [V.non]).flatten = V.int 0 :: (List.replicate n (none : Cell)).map vO
  congr 1
  induction n with
  | zero => rfl
  | succ n ih =>
    rw [List.replicate_succ, List.replicate_succ, List.flatten_cons, List.map_cons, ih]
    rfl
def spTable (K : PySem.W.Frag) (cN : Addr) : Sp := fun vs H Q E => ∃ (a : Addr) (ps : List (Int × Int)) (m : Int), vs = [.ref a, .int m] ∧ Till K H a ps ∧ ps.length ≤ 1000 ∧ (∀ p ∈ ps, 1 ≤ p.1 ∧ p.1 ≤ 1000 ∧ 0 ≤ p.2) ∧
  ((0 ≤ m ∧ m ≤ 1000) → NewRows H (rowsOf (row0 m.toNat) ps) Q) ∧ (¬ (0 ≤ m ∧ m ≤ 1000) → E (.ref cN) none H)
theorem ok_table (T : Tx K mg) : FnOk P w K mg base (L2.CX P w) 3 T.a_table T.d_table P_table (spTable K T.c_NoSum) := by
  have G_check_sum := ok_check_sum (P := P) (w := w) (base := base) T
  have G_with_kind := ok_with_kind (P := P) (w := w) (base := base) T
  refine T.f_table.okX sc_table (fun vs H Q E h => ?_) (fun cdv A outer s H vs Q E hr h => ?_)
  · obtain ⟨a, ps, m, rfl, _⟩ := h
    rfl
  · obtain ⟨a, ps, m, rfl, ⟨xs, hS, hp⟩, hl, hv, q1, q2⟩ := h
    refine ⟨_, (pss_cons (ps_expr (pe_call G_check_sum (hr.mono (by decide)) (by rfl) T.g_check_sum T.f_check_sum.kp T.p_check_sum .nil (passes_call (takes_of rfl rfl rfl rfl) fun _ _ _ _ h => h) (pa_cons (pv 1) pa_nil)))
    (pss_cons (ps_set (i := 2) sc_table.nd rfl (.inl rfl) (pe_op op_cat (pe_lst (pa_cons pe_int pa_nil)) (pe_op op_rep (pe_lst (pa_cons pe_non pa_nil)) (pv 1))))
    (pss_cons (ps_set (i := 3) sc_table.nd rfl (.inl rfl) (pe_lst (pa_cons (pv 2) pa_nil)))
    (pss_cons (ps_for (passes_of rfl) rfl (pi_list (pv 0)) (pg_tup rfl (pgs_cons (pg_name (i := 4) sc_table.nd rfl (.inl rfl)) (pgs_cons (pg_name (i := 5) sc_table.nd rfl (.inl rfl)) pgs_nil)))
      (pss_cons (ps_set (i := 2) sc_table.nd rfl (.inl rfl) (pe_call G_with_kind (hr.mono (by decide)) (by rfl) T.g_with_kind T.f_with_kind.kp T.p_with_kind .nil pass0 (pa_cons (pv 2) (pa_cons (pv 4) (pa_cons (pv 5) pa_nil)))))
      (pss_one (ps_expr (pe_bm PySem.F.plainAttrs_list PySem.F.slot_list_append PySem.F.type_list_append mt_append (pv 3) (pa_cons (pv 2) pa_nil))))))
    (pss_one (ps_ret (pv 3))))))), ?_⟩
    refine ⟨_, rfl, m, rfl, fun hm => ?_, q2⟩
    obtain ⟨n, rfl⟩ : ∃ n : Nat, m = (n : Int) := ⟨m.toNat, (Int.toNat_of_nonneg hm.1).symm⟩
    have hn : n ≤ 1000 := by omega
    rw [Int.toNat_natCast] at q1
    refine ⟨len63 (by show 1 ≤ _; decide), fun l1 hl1 => ?_⟩
    (generalize hh : upd H l1 _ = H1; have e1 : Ex H H1 := (by rw [← hh]; exact Ex.nw hl1); have c1 := (show H1 l1 = some _ by rw [← hh]; exact upd_same); clear hh)
    refine ⟨len63 (by show 1 ≤ _; decide), fun l2 hl2 => ?_⟩
    (generalize hh : upd H1 l2 _ = H2; have e2 : Ex H1 H2 := (by rw [← hh]; exact Ex.nw hl2); have c2 := (show H2 l2 = some _ by rw [← hh]; exact upd_same); clear hh)
    refine ⟨_, rfl, l2, _, _, rfl, rfl, c2, by omega, by omega, len63 (by rw [Int.toNat_natCast]; show 1 * n ≤ _; omega), fun l3 hl3 => ?_⟩
    rw [Int.toNat_natCast]
    (generalize hh : upd H2 l3 _ = H3; have e3 : Ex H2 H3 := (by rw [← hh]; exact Ex.nw hl3); have c3 := (show H3 l3 = some _ by rw [← hh]; exact upd_same); clear hh)
    refine ⟨l1, l3, _, _, rfl, rfl, e3 _ _ (e2 _ _ c1), c3, len63 (by simp; omega), fun l4 hl4 => ?_⟩
    rw [row0_map]
    (generalize hh : upd H3 l4 _ = H4; have e4 : Ex H3 H4 := (by rw [← hh]; exact Ex.nw hl4); have c4 := (show H4 l4 = some _ by rw [← hh]; exact upd_same); clear hh)
    have ex4 := ((e1.tr e2).tr e3).tr e4
    have hl40 : H l4 = none := none_back ((e1.tr e2).tr e3) hl4
    refine ⟨_, rfl, len63 (by show 1 ≤ _; decide), fun R hR => ?_⟩
    have hR0 : H R = none := none_back ex4 hR
    have n4R : l4 ≠ R := ne_of_none c4 hR
    refine ⟨_, rfl, a, rfl, ⟨xs, (ex4.tr (Ex.nw hR)).seq hS⟩, for_list (xs := xs) (fun i σ H' => ∃ as b y4 y5, σ = [some (.ref a), some (.int (n : Int)), some (.ref b), some (.ref R), y4, y5] ∧ Ex H H' ∧ (∀ x ∈ R :: as, H x = none) ∧ (R :: as).Nodup ∧
        H' R = some (.lst (as.map V.ref)) ∧ RowsAt H' as (rowsOf (row0 n) (ps.take i)) ∧ H' b = some (.lst ((lastRow (row0 n) (ps.take i)).map vO)))
      ⟨[l4], l4, _, _, rfl, ex4.tr (Ex.nw hR), ?_, ?_, upd_same, .cons ((Ex.nw hR) _ _ c4) .nil, (Ex.nw hR) _ _ c4⟩ (fun i σ H' _ h => by
        obtain ⟨_, _, _, _, _, e, _⟩ := h
        exact e.seq hS) ?_ ?_⟩
    · intro x hx
      rcases List.mem_cons.mp hx with e | e
      · exact e ▸ hR0
      · rw [List.mem_singleton.mp e]
        exact hl40
    · rw [List.nodup_cons, List.mem_singleton]
      exact ⟨fun e => n4R e.symm, List.nodup_cons.mpr ⟨by simp, List.nodup_nil⟩⟩
    · rintro i x σ H5 hx ⟨as, b, y4, y5, rfl, ex, hfr, hnd, eR, hrows, eb⟩
      obtain ⟨p, t, h1, rfl, h3⟩ := Prs.get hp hx
      have hpm := hv p (List.mem_of_getElem? h1)
      have hi : i < ps.length := (List.getElem?_eq_some_iff.mp h1).1
      have hll : (lastRow (row0 n) (ps.take i)).length = n + 1 := by rw [lastRow_len, row0_len]
      refine ⟨t, _, rfl, .of (ex _ _ h3), rfl, _, _, rfl, _, _, rfl, rfl, ?_⟩
      refine ⟨_, rfl, _, rfl, _, rfl, b, _, p.1.toNat, p.2.toNat, by rw [Int.toNat_of_nonneg (by omega), Int.toNat_of_nonneg (by omega)]; rfl, .of eb, by omega, by omega, by omega, by omega, fun p' H6 e6 hp' ep' => ?_⟩
      rw [← lastRow_snoc, ← take_snoc h1] at ep'
      have hal := hrows.len
      rw [rowsOf_len, List.length_take] at hal
      refine ⟨_, rfl, .inl ⟨rfl, _, .of (e6 _ _ eR)⟩, _, rfl, R, _, _, rfl, rfl, e6 _ _ eR, len63' (by rw [List.length_map]; omega), ?_⟩
      have hRa : R ∉ as := (List.nodup_cons.mp hnd).1
      have hpR : p' ≠ R := (ne_of_none eR hp').symm
      have hpa : p' ∉ as := fun z => by
        obtain ⟨o, ho⟩ := hrows.mem z
        rw [ho] at hp'
        cases hp'
      refine ⟨as ++ [p'], p', _, _, rfl, Ex.mu (ex.tr e6) hR0, ?_, ?_, ?_, ?_, ?_⟩
      · intro x hx
        rcases List.mem_cons.mp hx with e | e
        · exact e ▸ hR0
        · rcases List.mem_append.mp e with e | e
          · exact hfr x (List.mem_cons_of_mem _ e)
          · rw [List.mem_singleton.mp e]
            exact none_back ex hp'
      · rw [← List.cons_append]
        refine nd_snoc hnd fun z => ?_
        rcases List.mem_cons.mp z with e | e
        · exact hpR e
        · exact hpa e
      · rw [upd_same, List.map_append]
        rfl
      · rw [take_snoc h1, rowsOf_snoc, ← take_snoc h1]
        exact RowsAt.snoc ((hrows.ex e6).up hRa) (by rw [upd_ne hpR]; exact ep')
      · rw [upd_ne hpR]
        exact ep'
    · rintro σ H5 ⟨as, b, y4, y5, rfl, ex, hfr, hnd, eR, hrows, eb⟩
      rw [List.take_of_length_le (by rw [hp.len]; exact Nat.le_refl _)] at hrows
      exact ⟨_, rfl, q1 hm R as H5 ex hfr hnd eR hrows⟩
theorem at_last {H : Hp} {as : List Addr} {r0 : List Cell} {ps : List (Int × Int)} (h : RowsAt H as (rowsOf r0 ps)) : ∃ a, atI (as.map V.ref) (-1) = some (.ref a) ∧ as[ps.length]? = some a ∧ H a = some (.lst ((lastRow r0 ps).map vO)) := by
  obtain ⟨a, h1, h2⟩ := h.get (rowsOf_at _ _ ps.length (Nat.le_refl _))
  rw [List.take_length] at h2
  refine ⟨a, ?_, h1, h2⟩
  have hal : (as.map V.ref).length = ps.length + 1 := by rw [List.length_map, h.len, rowsOf_len]
  unfold atI
  rw [show ixN (as.map V.ref).length (-1) = some ps.length by
    unfold ixN
    rw [if_neg (by omega), if_pos (by omega)]
    congr 1
    omega]
  show (as.map V.ref)[ps.length]? = _
  rw [List.getElem?_map, h1]
  rfl
/-! ### the fewest pieces -/
/-! ### places and pairs, told again -/
theorem vO_scal (o : Cell) (i : Int) : scal (vO o) (.int i) = true := by cases o <;> rfl
theorem vO_int {o : Cell} {i : Int} : vO o = .int i ↔ o = some i := by
  cases o with
  | none => exact ⟨(fun h => nomatch h), (fun h => nomatch h)⟩
  | some j => exact ⟨fun h => congrArg some (V.int.inj h), fun h => congrArg V.int (Option.some.inj h)⟩
theorem Prs.rev {H : Hp} : ∀ {xs : List V} {ps : List (Int × Int)}, Prs H xs ps → Prs H xs.reverse ps.reverse
  | _, _, .nil => .nil
  | _, _, .cons h r => by
    rw [List.reverse_cons, List.reverse_cons]
    exact Prs.snoc (Prs.rev r) h
def spMostGiven (K : PySem.W.Frag) : Sp := fun vs H Q _ => ∃ (a : Addr) (r : List Cell) (d v c : Nat) (m : Int), vs = [.ref a, .int (d : Int), .int m, .int (v : Int), .int (c : Int)] ∧ Row K H a r ∧ d < r.length ∧ d ≤ 100000 ∧ 1 ≤ v ∧ v ≤ 100000 ∧ Q (.int (pick r v c d m : Nat)) H
theorem ok_most_given (T : Tx K mg) : FnOk P w K mg base CX0 1 T.a__most_given T.d__most_given P__most_given (spMostGiven K) := by
  refine T.f__most_given.ok sc__most_given (fun vs H Q E h => ?_) (fun cdv A outer s H vs Q E hr h => ?_)
  · obtain ⟨a, r, d, v, c, m, rfl, _⟩ := h
    rfl
  · obtain ⟨a, r, d, v, c, m, rfl, hS, hd, hd2, hv1, hv2, q⟩ := h
    refine ⟨_, (pss_cons (ps_for PassesOwn.never rfl (pi_range3 (by rfl) T.m_range (pa_cons (pe_callB (call_min2 rfl) (by rfl) T.m_min (by decide +kernel) (pa_cons (pv 4) (pa_cons (pe_op op_fdiv (pv 1) (pv 3)) pa_nil))) (pa_cons pe_int (pa_cons (pe_un un_neg pe_int) pa_nil)))) (pg_name (i := 5) sc__most_given.nd rfl (.inl rfl))
      (pss_one (ps_if (pt_cmpR op_eq (pe_ix ix_list (pv 0) (pe_op op_sub (pv 1) (pe_op op_mul (pv 5) (pv 3))) (fun _ _ => rfl)) (pe_op op_sub (pv 2) (pv 5)) (nomark _))
        (pss_one (ps_ret (pv 5)))
        pss_nil)))
    (pss_one (ps_ret pe_int))), ?_⟩
    have hS' : SqL K H a (r.map vO) := hS
    obtain ⟨n, hn, hnn⟩ : ∃ n : Nat, (if (d : Int) / (v : Int) < (c : Int) then (d : Int) / (v : Int) else (c : Int)) = (n : Int) ∧ n = min c (d / v) := by
      rw [← Int.natCast_ediv]
      by_cases h : ((d / v : Nat) : Int) < (c : Int)
      · exact ⟨d / v, if_pos h, by omega⟩
      · exact ⟨c, if_neg h, by omega⟩
    have hnd : n ≤ d := by
      have : d / v ≤ d := Nat.div_le_self ..
      omega
    have hnv : n * v ≤ d := by
      rw [hnn]
      exact Nat.le_trans (Nat.mul_le_mul_right _ (Nat.min_le_right ..)) (Nat.div_mul_le_self ..)
    unfold pick at q
    rw [← hnn] at q
    refine ⟨_, rfl, _, rfl, _, rfl, _, _, rfl, rfl, ⟨by omega, by omega⟩, _, _, rfl, ?_⟩
    rw [hn]
    refine ⟨_, rfl, _, _, _, n, rfl, .neg (by omega) (by omega) (by decide) (by decide), ?_⟩
    refine for_rangeC (fun i σ H' => ∃ y5, σ = [some (.ref a), some (.int (d : Int)), some (.int m), some (.int (v : Int)), some (.int (c : Int)), y5] ∧ H' = H ∧ pickUp r v d m n = pickUp r v d m (n - i)) ⟨_, rfl, rfl, rfl⟩ ?_ ?_
    · rintro i σ H' hi ⟨y5, rfl, rfl, hpk⟩
      obtain ⟨k, hk⟩ : ∃ k, n - i = k + 1 := ⟨n - i - 1, by omega⟩
      have eg : (n : Int) + (i : Int) * -1 = ((k + 1 : Nat) : Int) := by omega
      have hkv : (k + 1) * v ≤ d := Nat.le_trans (Nat.mul_le_mul_right _ (by omega : k + 1 ≤ n)) hnv
      rw [eg]
      rw [hk] at hpk
      have a1 : atI (r.map vO) ((d : Int) - ((k + 1 : Nat) : Int) * (v : Int)) = some (vO (rAt r (d - (k + 1) * v))) := at_of (j := d - (k + 1) * v) (by
        rw [← Int.natCast_mul]
        omega) (vO_at (by omega))
      refine ⟨_, rfl, _, rfl, _, rfl, _, rfl, _, _, rfl, rfl, .inr ⟨by omega, by omega⟩, _, _, rfl, rfl, a, _, _, _, rfl, rfl, hS', a1, ?_⟩
      refine ⟨_, rfl, _, rfl, _, _, rfl, rfl, vO_scal _ _, _, rfl, iteD (fun e => ?_) (fun e => ?_)⟩
      · have e' := vO_int.mp e
        refine ⟨_, rfl, ?_⟩
        rw [hpk, show pickUp r v d m (k + 1) = k + 1 from if_pos e'] at q
        exact q
      · refine ⟨_, rfl, rfl, ?_⟩
        rw [hpk, show n - (i + 1) = k by omega]
        exact if_neg fun z => e (vO_int.mpr z)
    · rintro σ H' ⟨y5, rfl, rfl, hpk⟩
      rw [hpk, Nat.sub_self] at q
      exact q
def spFewest (K : PySem.W.Frag) (cN cC : Addr) : Sp := fun vs H Q E => ∃ (a : Addr) (ps : List (Int × Int)) (m : Int), vs = [.ref a, .int m] ∧ Till K H a ps ∧ ps.length ≤ 1000 ∧ (∀ p ∈ ps, 1 ≤ p.1 ∧ p.1 ≤ 1000 ∧ 0 ≤ p.2) ∧
  (¬ (0 ≤ m ∧ m ≤ 1000) → E (.ref cN) none H) ∧
  ((0 ≤ m ∧ m ≤ 1000) → rAt (lastRow (row0 m.toNat) ps) m.toNat = none → ∀ H2, Ex H H2 → E (.ref cC) none H2) ∧
  ((0 ≤ m ∧ m ≤ 1000) → rAt (lastRow (row0 m.toNat) ps) m.toNat ≠ none → ∀ p xs H2, Ex H H2 → H p = none → H2 p = some (.lst xs) → Prs H2 xs (given (row0 m.toNat) ps ps.length m.toNat) → Q (.ref p) H2)
theorem ok_fewest (T : Tx K mg) : FnOk P w K mg base (L2.CX P w) 4 T.a_fewest T.d_fewest P_fewest (spFewest K T.c_NoSum T.c_NoChange) := by
  have G_table := ok_table (P := P) (w := w) (base := base) T
  have G__most_given := ok_most_given (P := P) (w := w) (base := base) T
  refine T.f_fewest.okX sc_fewest (fun vs H Q E h => ?_) (fun cdv A outer s H vs Q E hr h => ?_)
  · obtain ⟨a, ps, m, rfl, _⟩ := h
    rfl
  · obtain ⟨a, ps, m, rfl, ⟨xs, hS, hp⟩, hl, hv, q1, q2, q3⟩ := h
    refine ⟨_, (pss_cons (ps_set (i := 2) sc_fewest.nd rfl (.inl rfl) (pe_call G_table (hr.mono (by decide)) (by rfl) T.g_table T.f_table.kp T.p_table .nil (passes_call (takes_of rfl rfl rfl rfl) fun _ _ _ _ h => h) (pa_cons (pv 0) (pa_cons (pv 1) pa_nil))))
    (pss_cons (ps_if (pt_cmpR op_isN (pe_ix ix_list (pe_ix ix_list (pv 2) (pe_un un_neg pe_int) (fun _ _ => rfl)) (pv 1) (fun _ _ => rfl)) pe_non (nomark _))
      (pss_one (ps_raise rfl (takes_of rfl rfl rfl rfl) (pmk_own PySem.F.excBase_ValueError T.x_NoChange T.g_NoChange T.k_NoChange (raises_own T.b_NoChange T.t_NoChange) rfl)))
      pss_nil)
    (pss_cons (ps_set (i := 3) sc_fewest.nd rfl (.inl rfl) (pe_lst pa_nil))
    (pss_cons (ps_set (i := 4) sc_fewest.nd rfl (.inl rfl) (pv 1))
    (pss_cons (ps_for (passes_of rfl) rfl (pi_revR (by rfl) T.m_reversed (prg_1 (by rfl) T.m_range (pe_callB call_len_seq (by rfl) T.m_len (by decide +kernel) (pa_cons (pv 0) pa_nil)))) (pg_name (i := 5) sc_fewest.nd rfl (.inl rfl))
      (pss_cons (ps_asg (pe_ix ix_list (pv 0) (pv 5) (fun _ _ => rfl)) (pg_tup rfl (pgs_cons (pg_name (i := 6) sc_fewest.nd rfl (.inl rfl)) (pgs_cons (pg_name (i := 7) sc_fewest.nd rfl (.inl rfl)) pgs_nil))))
      (pss_cons (ps_set (i := 8) sc_fewest.nd rfl (.inl rfl) (pe_call G__most_given (hr.mono (by decide)) (by rfl) T.g__most_given T.f__most_given.kp T.p__most_given .nil pass0 (pa_cons (pe_ix ix_list (pv 2) (pv 5) (fun _ _ => rfl)) (pa_cons (pv 4) (pa_cons (pe_ix ix_list (pe_ix ix_list (pv 2) (pe_op op_add (pv 5) pe_int) (fun _ _ => rfl)) (pv 4) (fun _ _ => rfl)) (pa_cons (pv 6) (pa_cons (pv 7) pa_nil)))))))
      (pss_one (ps_if (pt_cmpR op_gt (pv 8) pe_int (nomark _))
        (pss_cons (ps_expr (pe_bm PySem.F.plainAttrs_list PySem.F.slot_list_append PySem.F.type_list_append mt_append (pv 3) (pa_cons (pe_tup (pa_cons (pv 6) (pa_cons (pv 8) pa_nil))) pa_nil)))
        (pss_one (ps_aug (i := 4) sc_fewest.nd rfl (.inl rfl) (pe_op op_mul (pv 8) (pv 6)) ip_sub)))
        pss_nil)))))
    (pss_one (ps_ret (pe_revL (pv 3))))))))), ?_⟩
    refine ⟨_, rfl, _, rfl, a, ps, m, rfl, ⟨xs, hS, hp⟩, hl, hv, fun hm => ?_, q1⟩
    obtain ⟨n, rfl⟩ : ∃ n : Nat, m = (n : Int) := ⟨m.toNat, (Int.toNat_of_nonneg hm.1).symm⟩
    have hn : n ≤ 1000 := by omega
    rw [Int.toNat_natCast] at q2 q3 ⊢
    intro R as H2 e2 hfr hnd eR hrows
    obtain ⟨z, iz, _, ez⟩ := at_last hrows
    have hll : ∀ j, (lastRow (row0 n) (ps.take j)).length = n + 1 := fun j => by rw [lastRow_len, row0_len]
    have hlz := hll ps.length
    rw [List.take_length] at hlz
    refine ⟨_, rfl, _, rfl, R, _, _, .ref z, rfl, rfl, .of eR, iz, _, rfl, z, _, _, _, rfl, rfl, .of ez, at_of rfl (vO_at (by rw [hlz]; exact Nat.lt_succ_self n)), ?_⟩
    cases hc : rAt (lastRow (row0 n) ps) n with
    | none => exact ⟨rfl, _, rfl, iteD (fun _ => q2 hm hc _ e2) (fun y => absurd rfl y)⟩
    | some m =>
      refine ⟨rfl, _, rfl, iteD (fun y => nomatch y) (fun _ => ?_)⟩
      refine ⟨Nat.zero_le _, fun ch hch => ?_⟩
      have hch0 : H ch = none := none_back e2 hch
      have eR2 := (Ex.nw (o := .lst []) hch) _ _ eR
      have hg := given_ok (ps := ps) (n := n) (fun p hp => (hv p hp).1) (Nat.le_refl ps.length) (Nat.lt_succ_self n) (by rw [List.take_length]; exact hc)
      have hpl := hp.len
      refine ⟨_, rfl, ?_⟩
      refine ⟨_, rfl, a, xs, rfl, .inl (((e2.tr (Ex.nw hch))).seq hS), _, rfl, by omega, by omega, by omega, by omega, ?_⟩
      refine for_rangeC (fun i σ H' => ∃ (k left : Nat) (x : Int) (zs : List V) (acc : List (Int × Int)) (y5 y6 y7 y8 : Option V), k + i = ps.length ∧ σ = [some (.ref a), some (.int (n : Int)), some (.ref R), some (.ref ch), some (.int (left : Int)), y5, y6, y7, y8] ∧
        Ex H2 H' ∧ H' ch = some (.lst zs) ∧ Prs H' zs acc ∧ left ≤ n ∧ rAt (lastRow (row0 n) (ps.take k)) left = some x ∧ given (row0 n) ps ps.length n = given (row0 n) ps k left ++ acc.reverse ∧ acc.length ≤ i)
        ⟨ps.length, n, m, [], [], none, none, none, none, rfl, rfl, Ex.nw hch, upd_same, .nil, Nat.le_refl _, by rw [List.take_length]; exact hc, by simp, Nat.le_refl _⟩ ?_ ?_
      · rintro i σ H' hi ⟨k, left, x, zs, acc, y5, y6, y7, y8, hki, rfl, ex, ech, hacc, hle, hx, hgv, hal⟩
        have hi' : i < ps.length := by omega
        obtain ⟨j, rfl⟩ : ∃ j, k = j + 1 := ⟨k - 1, by omega⟩
        have ej : (0 : Int) + ((((xs.length : Int) - 0).toNat : Nat) : Int) - 1 + (i : Int) * -1 = (j : Int) := by omega
        rw [ej]
        have hj : j < ps.length := by omega
        obtain ⟨t, hx0, h3⟩ := Prs.getL hp (List.getElem?_eq_getElem hj)
        have hpj := List.getElem?_eq_getElem hj
        have hpv := hv _ (List.getElem_mem hj)
        generalize ps[j] = p at hpj h3 hpv
        have exH := e2.tr ex
        refine ⟨_, rfl, _, rfl, a, xs, _, _, rfl, rfl, exH.seq hS, at_of rfl hx0, t, _, rfl, .of (exH _ _ h3), rfl, _, _, rfl, _, _, rfl, rfl, ?_⟩
        have hrows' := hrows.ex ex
        obtain ⟨b, ib, _, eb⟩ := at_row hrows' (i := (j : Int)) (k := j) rfl (rowsOf_at _ _ j (by omega))
        obtain ⟨b1, ib1, _, eb1⟩ := at_row hrows' (i := (j : Int) + 1) (k := j + 1) rfl (rowsOf_at _ _ (j + 1) (by omega))
        have eR' := ex _ _ eR
        refine ⟨_, rfl, _, rfl, R, _, _, .ref b, rfl, rfl, .of eR', ib, _, rfl, ?_⟩
        refine ⟨_, rfl, _, rfl, _, _, rfl, rfl, R, _, _, .ref b1, rfl, rfl, .of eR', ib1, _, rfl, b1, _, _, _, rfl, rfl, .of eb1, at_of rfl (vO_at (by rw [hll]; omega)), _, rfl, _, rfl, ?_⟩
        rw [hx]
        obtain ⟨g1, g2, g3⟩ := step_ok hpj hpv.1 (by rw [row0_len]; omega) hx rfl
        have gs := given_succ (row0 n) ps j left hpj (g := pick (lastRow (row0 n) (ps.take j)) p.1.toNat p.2.toNat left x) (by rw [hx]; rfl)
        refine ⟨b, _, left, p.1.toNat, p.2.toNat, x, by rw [Int.toNat_of_nonneg (by omega), Int.toNat_of_nonneg (by omega)]; rfl, .of eb, by rw [hll]; omega, by omega, by omega, by omega, ?_⟩
        generalize pick (lastRow (row0 n) (ps.take j)) p.1.toNat p.2.toNat left x = g at g1 g2 g3 gs ⊢
        refine ⟨_, rfl, _, _, rfl, rfl, _, rfl, iteD (fun e => ?_) (fun e => ?_)⟩
        · have e' : 0 < g := by omega
          rw [if_pos e'] at gs
          refine ⟨_, rfl, .inl ⟨rfl, zs, .of ech⟩, _, rfl, _, rfl, len63 (by show 2 ≤ _; decide), fun t2 ht2 => ?_⟩
          have nct : ch ≠ t2 := ne_of_none ech ht2
          have ech' : (upd H' t2 (.tup [.int p.1, .int (g : Int)])) ch = some (.lst zs) := by rw [upd_ne nct]; exact ech
          refine ⟨ch, zs, _, rfl, rfl, ech', len63' (by rw [hacc.len]; omega), ?_⟩
          refine ⟨_, rfl, _, rfl, _, rfl, _, _, rfl, rfl, .inr ⟨by omega, by omega⟩, _, _, rfl, rfl, ?_⟩
          have el : (left : Int) - (g : Int) * p.1 = ((left - g * p.1.toNat : Nat) : Int) := by
            have : ((g * p.1.toNat : Nat) : Int) = (g : Int) * p.1 := by rw [Int.natCast_mul, Int.toNat_of_nonneg (by omega)]
            omega
          refine ⟨j, left - g * p.1.toNat, x - (g : Int), zs ++ [.ref t2], acc ++ [(p.1, (g : Int))], some (.int (j : Int)), some (.int p.1), some (.int p.2), some (.int (g : Int)), by omega, by rw [← el]; rfl, Ex.mu (ex.tr (Ex.nw ht2)) hch, upd_same, ?_, by omega, g3, ?_, by rw [List.length_append]; show _ + 1 ≤ _; omega⟩
          · refine Prs.up (by intro ys y; rw [ech'] at y; cases y) ?_
            exact Prs.snoc (hacc.ex (Ex.nw ht2)) ⟨t2, rfl, upd_same⟩
          · rw [hgv, gs, List.reverse_append, List.append_assoc]
            rfl
        · have e' : g = 0 := by omega
          subst e'
          rw [if_neg (Nat.lt_irrefl 0), List.append_nil, Nat.zero_mul, Nat.sub_zero] at gs
          rw [Nat.zero_mul, Nat.sub_zero] at g3
          exact ⟨j, left, _, zs, acc, _, _, _, _, by omega, rfl, ex, ech, hacc, hle, g3, by rw [hgv, gs], by omega⟩
      · rintro σ H' ⟨k, left, x, zs, acc, y5, y6, y7, y8, hki, rfl, ex, ech, hacc, hle, hx, hgv, hal⟩
        obtain rfl : k = 0 := by omega
        refine ⟨_, rfl, ch, zs, rfl, .of ech, fun p hp2 => ?_⟩
        refine q3 hm (by rw [hc]; exact fun z => nomatch z) p _ _ ((e2.tr ex).tr (Ex.nw hp2)) (none_back (e2.tr ex) hp2) upd_same ?_
        rw [hgv]
        exact (Prs.rev hacc).ex (Ex.nw hp2)
/-! ### a whole number -/
def spWhole : Sp := fun vs H Q _ => ∃ i : Int, vs = [.int i] ∧ Q (.bl true) H
theorem ok_whole (T : Tx K mg) : FnOk P w K mg base CX0 1 T.a__law_whole T.d__law_whole P__law_whole spWhole := by
  refine T.f__law_whole.ok sc__law_whole (fun vs H Q E h => ?_) (fun cdv A outer s H vs Q E hr h => ?_)
  · obtain ⟨i, rfl, _⟩ := h
    rfl
  · obtain ⟨i, rfl, q⟩ := h
    refine ⟨_, (pss_one (ps_ret (pe_and (pe_callB call_isi (by rfl) T.m_isinstance (by decide +kernel) (pa_cons (pv 0) (pa_cons (pe_bltn (v := .ty "int") (by rfl) T.m_int (by decide +kernel) rfl) pa_nil))) (pe_one (pe_not (pe_callB call_isi (by rfl) T.m_isinstance (by decide +kernel) (pa_cons (pv 0) (pa_cons (pe_bltn (v := .ty "bool") (by rfl) T.m_bool (by decide +kernel) rfl) pa_nil)))))))), ?_⟩
    refine ⟨_, rfl, _, _, _, _, true, rfl, .ty "int", .base (.int _), kit_ty (by decide +kernel), true, rfl, iteT ?_⟩
    exact ⟨_, rfl, _, _, _, _, false, rfl, .ty "bool", .base (.int _), kit_ty (by decide +kernel), false, rfl, q⟩
/-! ### a small till -/
def value7 (c k : Int) : Int := if c % 3 = 0 then menu.getD (mixed c k % 10).toNat 0 else if c % 3 = 1 then 1 + mixed c k % 12 else 1 + mixed c k % 1000
theorem value7_in (c k : Int) : 1 ≤ value7 c k ∧ value7 c k ≤ 1000 := by
  unfold value7
  split
  · exact menu_in _ (by have := Int.emod_lt_of_pos (mixed c k) (by decide : (0 : Int) < 10); have := Int.emod_nonneg (mixed c k) (by decide : (10 : Int) ≠ 0); omega)
  · split <;> omega
def spValue7 : Sp := fun vs H Q _ => ∃ c k, vs = [.int c, .int k] ∧ (-(2 ^ 64) < k ∧ k < 2 ^ 64) ∧ Ret (.int (value7 c k)) H Q
theorem ok_value7 (T : Tx K mg) : FnOk P w K mg base CX0 2 T.a__law_value T.d__law_value P__law_value spValue7 := by
  have G__law_mixed := ok_mixed (P := P) (w := w) (base := base) T
  refine T.f__law_value.ok sc__law_value (fun vs H Q E h => ?_) (fun cdv A outer s H vs Q E hr h => ?_)
  · obtain ⟨c, k, rfl, _⟩ := h
    rfl
  · obtain ⟨c, k, rfl, hk, q⟩ := h
    refine ⟨_, (pss_cons (ps_set (i := 2) sc__law_value.nd rfl (.inl rfl) (pe_call G__law_mixed (hr.mono (by decide)) (by rfl) T.g__law_mixed T.f__law_mixed.kp T.p__law_mixed .nil pass0 (pa_cons (pv 0) (pa_cons (pv 1) pa_nil))))
    (pss_cons (ps_if (pt_cmpR op_eq (pe_op op_mod (pv 0) pe_int) pe_int (nomark _))
      (pss_one (ps_ret (pe_ix ix_list (pe_lst (pa_cons pe_int (pa_cons pe_int (pa_cons pe_int (pa_cons pe_int (pa_cons pe_int (pa_cons pe_int (pa_cons pe_int (pa_cons pe_int (pa_cons pe_int (pa_cons pe_int pa_nil))))))))))) (pe_op op_mod (pv 2) pe_int) (fun _ _ => rfl))))
      pss_nil)
    (pss_cons (ps_if (pt_cmpR op_eq (pe_op op_mod (pv 0) pe_int) pe_int (nomark _))
      (pss_one (ps_ret (pe_op op_add pe_int (pe_op op_mod (pv 2) pe_int))))
      pss_nil)
    (pss_one (ps_ret (pe_op op_add pe_int (pe_op op_mod (pv 2) pe_int))))))), ?_⟩
    unfold value7 at q
    repeat (first | refine ⟨_, rfl, ?_⟩ | refine ⟨(by show (0 : Int) < _; decide), ?_⟩ | refine ⟨⟨by decide, by decide⟩, ?_⟩ | refine ⟨.inr ⟨by decide, by decide⟩, ?_⟩ | refine ⟨.inl ⟨by decide, by decide⟩, ?_⟩ | refine ⟨⟨by decide, by decide, by decide⟩, ?_⟩ | refine ⟨_, _, rfl, rfl, ?_⟩ | refine ⟨rfl, _, rfl, ?_⟩)
    refine ⟨_, _, rfl, hk, ?_⟩
    repeat (first | refine ⟨_, rfl, ?_⟩ | refine ⟨(by show (0 : Int) < _; decide), ?_⟩ | refine ⟨⟨by decide, by decide⟩, ?_⟩ | refine ⟨.inr ⟨by decide, by decide⟩, ?_⟩ | refine ⟨.inl ⟨by decide, by decide⟩, ?_⟩ | refine ⟨⟨by decide, by decide, by decide⟩, ?_⟩ | refine ⟨_, _, rfl, rfl, ?_⟩ | refine ⟨rfl, _, rfl, ?_⟩)
    first | refine iteVI (fun e => ?_) (fun e => ?_) | refine iteVN (fun e => ?_) (fun e => ?_) | refine iteD (fun e => ?_) (fun e => ?_) | refine iteDN (fun e => ?_) (fun e => ?_) | refine iteB (fun e => ?_) (fun e => ?_)
    · rw [if_pos e] at q
      refine ⟨len63 (by decide), fun p hp => ?_⟩
      repeat (first | refine ⟨_, rfl, ?_⟩ | refine ⟨(by show (0 : Int) < _; decide), ?_⟩ | refine ⟨⟨by decide, by decide⟩, ?_⟩ | refine ⟨.inr ⟨by decide, by decide⟩, ?_⟩ | refine ⟨.inl ⟨by decide, by decide⟩, ?_⟩ | refine ⟨⟨by decide, by decide, by decide⟩, ?_⟩ | refine ⟨_, _, rfl, rfl, ?_⟩ | refine ⟨rfl, _, rfl, ?_⟩)
      exact ⟨p, menu.map V.int, _, _, rfl, rfl, .of upd_same, menu_at rfl (Int.emod_nonneg _ (by decide)) (Int.emod_lt_of_pos _ (by decide)), q _ (Ex.nw hp)⟩
    · rw [if_neg e] at q
      repeat (first | refine ⟨_, rfl, ?_⟩ | refine ⟨(by show (0 : Int) < _; decide), ?_⟩ | refine ⟨⟨by decide, by decide⟩, ?_⟩ | refine ⟨.inr ⟨by decide, by decide⟩, ?_⟩ | refine ⟨.inl ⟨by decide, by decide⟩, ?_⟩ | refine ⟨⟨by decide, by decide, by decide⟩, ?_⟩ | refine ⟨_, _, rfl, rfl, ?_⟩ | refine ⟨rfl, _, rfl, ?_⟩)
      first | refine iteVI (fun e => ?_) (fun e => ?_) | refine iteVN (fun e => ?_) (fun e => ?_) | refine iteD (fun e => ?_) (fun e => ?_) | refine iteDN (fun e => ?_) (fun e => ?_) | refine iteB (fun e => ?_) (fun e => ?_)
      · rw [if_pos e] at q
        repeat (first | refine ⟨_, rfl, ?_⟩ | refine ⟨(by show (0 : Int) < _; decide), ?_⟩ | refine ⟨⟨by decide, by decide⟩, ?_⟩ | refine ⟨.inr ⟨by decide, by decide⟩, ?_⟩ | refine ⟨.inl ⟨by decide, by decide⟩, ?_⟩ | refine ⟨⟨by decide, by decide, by decide⟩, ?_⟩ | refine ⟨_, _, rfl, rfl, ?_⟩ | refine ⟨rfl, _, rfl, ?_⟩)
        exact q _ Ex.rfl'
      · rw [if_neg e] at q
        repeat (first | refine ⟨_, rfl, ?_⟩ | refine ⟨(by show (0 : Int) < _; decide), ?_⟩ | refine ⟨⟨by decide, by decide⟩, ?_⟩ | refine ⟨.inr ⟨by decide, by decide⟩, ?_⟩ | refine ⟨.inl ⟨by decide, by decide⟩, ?_⟩ | refine ⟨⟨by decide, by decide, by decide⟩, ?_⟩ | refine ⟨_, _, rfl, rfl, ?_⟩ | refine ⟨rfl, _, rfl, ?_⟩)
        exact q _ Ex.rfl'
/-- at most four kinds, none more than forty times -/
def Small7 (ps : List (Int × Int)) : Prop := 1 ≤ ps.length ∧ ps.length ≤ 4 ∧ (ps.map (·.1)).Nodup ∧ ∀ p ∈ ps, 1 ≤ p.1 ∧ p.1 ≤ 1000 ∧ 0 ≤ p.2 ∧ p.2 ≤ 40
def spSmall (K : PySem.W.Frag) : Sp := fun vs H Q _ => ∃ (a : Addr) (ns : List Int), vs = [.ref a] ∧ SqL K H a (ns.map V.int) ∧
  ∀ p xs ps H2, Ex H H2 → H p = none → H2 p = some (.lst xs) → Prs H2 xs ps → Small7 ps → Rising ps → Q (.ref p) H2
theorem Prs.set {H : Hp} {t : Addr} {p : Int × Int} (ht : H t = some (.tup [.int p.1, .int p.2])) : ∀ {xs : List V} {ps : List (Int × Int)} (i : Nat), Prs H xs ps → Prs H (xs.set i (.ref t)) (ps.set i p)
  | _, _, _, .nil => .nil
  | _, _, 0, .cons _ r => .cons ⟨t, rfl, ht⟩ r
  | _, _, i + 1, .cons h r => .cons h (Prs.set ht i r)
theorem ok_small (T : Tx K mg) : FnOk P w K mg base CX0 3 T.a__law_small T.d__law_small P__law_small (spSmall K) := by
  have G__law_cell_at := ok_cell_at (P := P) (w := w) (base := base) T
  have G__law_value := ok_value7 (P := P) (w := w) (base := base) T
  have G__law_mixed := ok_mixed (P := P) (w := w) (base := base) T
  refine T.f__law_small.ok sc__law_small (fun vs H Q E h => ?_) (fun cdv A outer s H vs Q E hr h => ?_)
  · obtain ⟨a, ns, rfl, _⟩ := h
    rfl
  · obtain ⟨a, ns, rfl, hS, q⟩ := h
    refine ⟨_, (pss_cons (ps_set (i := 1) sc__law_small.nd rfl (.inl rfl) (pe_op op_add pe_int (pe_op op_mod (pe_call G__law_cell_at (hr.mono (by decide)) (by rfl) T.g__law_cell_at T.f__law_cell_at.kp T.p__law_cell_at .nil pass0 (pa_cons (pv 0) (pa_cons pe_int pa_nil))) pe_int)))
    (pss_cons (ps_set (i := 2) sc__law_small.nd rfl (.inl rfl) (pe_lst pa_nil))
    (pss_cons (ps_set (i := 3) sc__law_small.nd rfl (.inl rfl) pe_dnewK)
    (pss_cons (ps_for PassesOwn.never rfl (pi_range1 (by rfl) T.m_range (pa_cons (pv 1) pa_nil)) (pg_name (i := 4) sc__law_small.nd rfl (.inl rfl))
      (pss_cons (ps_set (i := 5) sc__law_small.nd rfl (.inl rfl) (pe_call G__law_value (hr.mono (by decide)) (by rfl) T.g__law_value T.f__law_value.kp T.p__law_value .nil pass0 (pa_cons (pe_call G__law_cell_at (hr.mono (by decide)) (by rfl) T.g__law_cell_at T.f__law_cell_at.kp T.p__law_cell_at .nil pass0 (pa_cons (pv 0) (pa_cons pe_int pa_nil))) (pa_cons (pe_op op_add (pv 4) pe_int) pa_nil))))
      (pss_cons (ps_while PassesOwn.never (pt_cmp (pc_din (hu_of hr) (pv 5) (pv 3)))
        (pss_one (ps_set (i := 5) sc__law_small.nd rfl (.inl rfl) (pe_op op_add (pe_op op_mod (pv 5) pe_int) pe_int))))
      (pss_cons (ps_dput (hu_of hr) (pv 3) (pv 5) pe_bl rfl)
      (pss_cons (ps_set (i := 6) sc__law_small.nd rfl (.inl rfl) (pe_call G__law_mixed (hr.mono (by decide)) (by rfl) T.g__law_mixed T.f__law_mixed.kp T.p__law_mixed .nil pass0 (pa_cons (pe_call G__law_cell_at (hr.mono (by decide)) (by rfl) T.g__law_cell_at T.f__law_cell_at.kp T.p__law_cell_at .nil pass0 (pa_cons (pv 0) (pa_cons pe_int pa_nil))) (pa_cons (pe_op op_add (pv 4) pe_int) pa_nil))))
      (pss_cons (ps_expr (pe_bm PySem.F.plainAttrs_list PySem.F.slot_list_append PySem.F.type_list_append mt_append (pv 2) (pa_cons (pe_tup (pa_cons (pv 5) (pa_cons (pe_op op_mod (pe_op op_fdiv (pv 6) pe_int) pe_int) pa_nil))) pa_nil)))
      (pss_one (ps_if (PW.pt (pw_and (pt_cmpR op_lt (pv 1) pe_int (nomark _)) (pw_and1 (pt_cmpR op_eq (pe_op op_mod (pv 6) pe_int) pe_int (nomark _)))))
        (pss_one (ps_asg (pe_tup (pa_cons (pv 5) (pa_cons (pe_op op_mod (pe_op op_fdiv (pv 6) pe_int) pe_int) pa_nil))) (pg_sub (pv 2) (pv 4) set_list)))
        pss_nil))))))))
    (pss_one (ps_ret (pe_callB cr_sortedPO (by rfl) T.m_sorted (by decide +kernel) (pa_cons (pv 2) pa_nil)))))))), ?_⟩
    refine ⟨_, rfl, a, ns, 0, rfl, hS, ?_⟩
    repeat (first | refine ⟨_, rfl, ?_⟩ | refine ⟨(by show (0 : Int) < _; decide), ?_⟩ | refine ⟨⟨by decide, by decide⟩, ?_⟩ | refine ⟨.inr ⟨by decide, by decide⟩, ?_⟩ | refine ⟨.inl ⟨by decide, by decide⟩, ?_⟩ | refine ⟨⟨by decide, by decide, by decide⟩, ?_⟩ | refine ⟨_, _, rfl, rfl, ?_⟩ | refine ⟨rfl, _, rfl, ?_⟩)
    have m0 : 0 ≤ cell ns 0 % 4 := Int.emod_nonneg _ (by decide)
    have m4 : cell ns 0 % 4 < 4 := Int.emod_lt_of_pos _ (by decide)
    refine ⟨Nat.zero_le _, fun f hf d hd => ?_⟩
    have nfd : d ≠ f := fun e => by rw [e, upd_same] at hd; cases hd
    have hd' : H d = none := by rw [upd_ne nfd] at hd; exact hd
    refine ⟨_, rfl, _, rfl, by omega, by omega, ?_⟩
    refine for_range (fun i σ H' => ∃ xs ps y4 y5 y6, σ = [some (.ref a), some (.int (1 + cell ns 0 % 4)), some (.ref f), some (.ref d), y4, y5, y6] ∧ Ex H H' ∧ H' f = some (.lst xs) ∧ H' d = some (.dK (dkv (ps.map (·.1)))) ∧ Prs H' xs ps ∧ (ps.map (·.1)).Nodup ∧ (∀ p ∈ ps, 1 ≤ p.1 ∧ p.1 ≤ 1000 ∧ 0 ≤ p.2 ∧ p.2 ≤ 40) ∧ ps.length = i)
      ⟨[], [], none, none, none, rfl, Ex.mu (Ex.nw hf) hd', by rw [upd_ne nfd.symm, upd_same], by rw [upd_same]; rfl, .nil, by simp, by simp, rfl⟩ ?_ ?_
    · rintro i σ H3 hi ⟨xs, ps, y4, y5, y6, rfl, ex, ef, ed, hp, hnd, hb, hlen⟩
      have hi' : i < 4 := by omega
      -- the value
      refine ⟨_, rfl, a, ns, 1, rfl, ex.seq hS, ?_⟩
      repeat (first | refine ⟨_, rfl, ?_⟩ | refine ⟨(by show (0 : Int) < _; decide), ?_⟩ | refine ⟨⟨by decide, by decide⟩, ?_⟩ | refine ⟨.inr ⟨by decide, by decide⟩, ?_⟩ | refine ⟨.inl ⟨by decide, by decide⟩, ?_⟩ | refine ⟨⟨by decide, by decide, by decide⟩, ?_⟩ | refine ⟨_, _, rfl, rfl, ?_⟩ | refine ⟨rfl, _, rfl, ?_⟩)
      refine ⟨_, _, rfl, ⟨by omega, by omega⟩, fun H2 e2 => ?_⟩
      have ex2 : Ex H H2 := Ex.tr ex e2
      have ef2 := e2 _ _ ef
      have ed2 := e2 _ _ ed
      have hp2 : Prs H2 xs ps := hp.ex e2
      have hv := value7_in (cell ns 1) (0 + (i : Int) + 1)
      generalize hvv : value7 (cell ns 1) (0 + (i : Int) + 1) = v0 at hv
      obtain ⟨j, hj, hmin⟩ := least (free_at (ks := ps.map (·.1)) v0 (by rw [List.length_map]; omega))
      refine ⟨fun n σ H => ∃ k, k + n = j ∧ σ = [some (.ref a), some (.int (1 + cell ns 0 % 4)), some (.ref f), some (.ref d), some (.int (0 + (i : Int))), some (.int (itn v0 k)), y6] ∧ H = H2,
        ⟨j, 0, by omega, by rw [itn_zero hv.1 hv.2]; rfl, rfl⟩, ?_⟩
      rintro n σ H4 ⟨k, hk, rfl, rfl⟩
      refine ⟨_, rfl, _, rfl, d, _, rfl, DGet.k (k := Sum.inl (itn v0 k)) ed2, _, rfl, ?_⟩
      by_cases hn : n = 0
      · have hkj : k = j := by omega
        subst hkj
        rw [dkv_none hj]
        refine iteF ?_
        refine ⟨_, rfl, _, rfl, d, _, rfl, DPut.k (k := Sum.inl (itn v0 k)) ed2 ?_, ?_⟩
        · unfold dkv
          rw [List.length_map, List.length_map]
          exact len63' (by omega)
        rw [dkv_put hj]
        have ef3 : (upd H4 d (.dK (dkv (ps.map (·.1) ++ [itn v0 k])))) f = some (.lst xs) := by rw [upd_ne nfd.symm]; exact ef2
        have ed3 : (upd H4 d (.dK (dkv (ps.map (·.1) ++ [itn v0 k])))) d = some (.dK (dkv (ps.map (·.1) ++ [itn v0 k]))) := upd_same
        have ex3 : Ex H (upd H4 d (.dK (dkv (ps.map (·.1) ++ [itn v0 k])))) := Ex.mu ex2 hd'
        have hp3 : Prs (upd H4 d (.dK (dkv (ps.map (·.1) ++ [itn v0 k])))) xs ps := hp2.up (by intro ys z; rw [ed2] at z; cases z)
        generalize upd H4 d (.dK (dkv (ps.map (·.1) ++ [itn v0 k]))) = H5 at ef3 ed3 ex3 hp3
        refine ⟨_, rfl, a, ns, 2, rfl, ex3.seq hS, ?_⟩
        repeat (first | refine ⟨_, rfl, ?_⟩ | refine ⟨(by show (0 : Int) < _; decide), ?_⟩ | refine ⟨⟨by decide, by decide⟩, ?_⟩ | refine ⟨.inr ⟨by decide, by decide⟩, ?_⟩ | refine ⟨.inl ⟨by decide, by decide⟩, ?_⟩ | refine ⟨⟨by decide, by decide, by decide⟩, ?_⟩ | refine ⟨_, _, rfl, rfl, ?_⟩ | refine ⟨rfl, _, rfl, ?_⟩)
        refine ⟨_, _, rfl, ⟨by omega, by omega⟩, ?_⟩
        generalize hdr : mixed (cell ns 2) (0 + (i : Int) + 1) = dr
        have c0 : 0 ≤ dr / 2 % 4 := Int.emod_nonneg _ (by decide)
        have c4 : dr / 2 % 4 < 4 := Int.emod_lt_of_pos _ (by decide)
        have f0 : 0 ≤ dr / 2 % 41 := Int.emod_nonneg _ (by decide)
        have f4 : dr / 2 % 41 < 41 := Int.emod_lt_of_pos _ (by decide)
        have hin := itn_in v0 k
        have hnd' : ((ps.map (·.1)) ++ [itn v0 k]).Nodup := nd_snoc hnd hj
        refine ⟨_, rfl, .inl ⟨rfl, xs, .of ef3⟩, ?_⟩
        repeat (first | refine ⟨_, rfl, ?_⟩ | refine ⟨(by show (0 : Int) < _; decide), ?_⟩ | refine ⟨⟨by decide, by decide⟩, ?_⟩ | refine ⟨.inr ⟨by decide, by decide⟩, ?_⟩ | refine ⟨.inl ⟨by decide, by decide⟩, ?_⟩ | refine ⟨⟨by decide, by decide, by decide⟩, ?_⟩ | refine ⟨_, _, rfl, rfl, ?_⟩ | refine ⟨rfl, _, rfl, ?_⟩)
        refine ⟨len63 (by show 2 ≤ _; decide), fun t ht => ?_⟩
        have ntf : f ≠ t := ne_of_none ef3 ht
        have ntd : d ≠ t := ne_of_none ed3 ht
        refine ⟨f, xs, _, rfl, rfl, by rw [upd_ne ntf]; exact ef3, len63' (by rw [hp3.len]; omega), ?_⟩
        have ex4 : Ex H (upd (upd H5 t (.tup [.int (itn v0 k), .int (dr / 2 % 4)])) f (.lst (xs ++ [.ref t]))) := Ex.mu (ex3.tr (Ex.nw ht)) hf
        have ef4 : (upd (upd H5 t (.tup [.int (itn v0 k), .int (dr / 2 % 4)])) f (.lst (xs ++ [.ref t]))) f = some (.lst (xs ++ [.ref t])) := upd_same
        have ed4 : (upd (upd H5 t (.tup [.int (itn v0 k), .int (dr / 2 % 4)])) f (.lst (xs ++ [.ref t]))) d = some (.dK (dkv (ps.map (·.1) ++ [itn v0 k]))) := by
          rw [upd_ne nfd]
          exact (Ex.nw ht) _ _ ed3
        have hp4 : Prs (upd (upd H5 t (.tup [.int (itn v0 k), .int (dr / 2 % 4)])) f (.lst (xs ++ [.ref t]))) (xs ++ [.ref t]) (ps ++ [(itn v0 k, dr / 2 % 4)]) := by
          refine Prs.up (by intro ys z; rw [upd_ne ntf, ef3] at z; cases z) ?_
          exact Prs.snoc (hp3.ex (Ex.nw ht)) ⟨t, rfl, upd_same⟩
        generalize upd (upd H5 t (.tup [.int (itn v0 k), .int (dr / 2 % 4)])) f (.lst (xs ++ [.ref t])) = H6 at ex4 ef4 ed4 hp4
        have hfin : ∀ c : Int, 0 ≤ c → c ≤ 40 → ((ps ++ [(itn v0 k, c)]).map (·.1)).Nodup ∧ (∀ p ∈ ps ++ [(itn v0 k, c)], 1 ≤ p.1 ∧ p.1 ≤ 1000 ∧ 0 ≤ p.2 ∧ p.2 ≤ 40) ∧ (ps ++ [(itn v0 k, c)]).length = i + 1 := by
          intro c h1 h2
          refine ⟨by rw [List.map_append]; exact hnd', fun p hp => ?_, by rw [List.length_append, hlen]; rfl⟩
          rcases List.mem_append.mp hp with h | h
          · exact hb p h
          · rw [List.mem_singleton.mp h]
            exact ⟨hin.1, hin.2, h1, h2⟩
        obtain ⟨n1, n2, n3⟩ := hfin (dr / 2 % 4) (by omega) (by omega)
        have stay : ∃ (xs' : List V) (ps' : List (Int × Int)) (y4 y5 y6 : Option V), [some (V.ref a), some (.int (1 + cell ns 0 % 4)), some (.ref f), some (.ref d), some (.int (0 + (i : Int))), some (.int (itn v0 k)), some (.int dr)] = [some (.ref a), some (.int (1 + cell ns 0 % 4)), some (.ref f), some (.ref d), y4, y5, y6] ∧ Ex H H6 ∧ H6 f = some (.lst xs') ∧ H6 d = some (.dK (dkv (ps'.map (·.1)))) ∧ Prs H6 xs' ps' ∧ (ps'.map (·.1)).Nodup ∧ (∀ p ∈ ps', 1 ≤ p.1 ∧ p.1 ≤ 1000 ∧ 0 ≤ p.2 ∧ p.2 ≤ 40) ∧ ps'.length = i + 1 :=
          ⟨xs ++ [.ref t], ps ++ [(itn v0 k, dr / 2 % 4)], _, _, _, rfl, ex4, ef4, by rw [ed4, List.map_append]; rfl, hp4, n1, n2, n3⟩
        repeat (first | refine ⟨_, rfl, ?_⟩ | refine ⟨(by show (0 : Int) < _; decide), ?_⟩ | refine ⟨⟨by decide, by decide⟩, ?_⟩ | refine ⟨.inr ⟨by decide, by decide⟩, ?_⟩ | refine ⟨.inl ⟨by decide, by decide⟩, ?_⟩ | refine ⟨⟨by decide, by decide, by decide⟩, ?_⟩ | refine ⟨_, _, rfl, rfl, ?_⟩ | refine ⟨rfl, _, rfl, ?_⟩)
        first | refine iteVI (fun e => ?_) (fun e => ?_) | refine iteVN (fun e => ?_) (fun e => ?_) | refine iteD (fun e => ?_) (fun e => ?_) | refine iteDN (fun e => ?_) (fun e => ?_) | refine iteB (fun e => ?_) (fun e => ?_)
        · repeat (first | refine ⟨_, rfl, ?_⟩ | refine ⟨(by show (0 : Int) < _; decide), ?_⟩ | refine ⟨⟨by decide, by decide⟩, ?_⟩ | refine ⟨.inr ⟨by decide, by decide⟩, ?_⟩ | refine ⟨.inl ⟨by decide, by decide⟩, ?_⟩ | refine ⟨⟨by decide, by decide, by decide⟩, ?_⟩ | refine ⟨_, _, rfl, rfl, ?_⟩ | refine ⟨rfl, _, rfl, ?_⟩)
          first | refine iteVI (fun e' => ?_) (fun e' => ?_) | refine iteVN (fun e' => ?_) (fun e' => ?_) | refine iteD (fun e' => ?_) (fun e' => ?_) | refine iteDN (fun e' => ?_) (fun e' => ?_) | refine iteB (fun e' => ?_) (fun e' => ?_)
          · repeat (first | refine ⟨_, rfl, ?_⟩ | refine ⟨(by show (0 : Int) < _; decide), ?_⟩ | refine ⟨⟨by decide, by decide⟩, ?_⟩ | refine ⟨.inr ⟨by decide, by decide⟩, ?_⟩ | refine ⟨.inl ⟨by decide, by decide⟩, ?_⟩ | refine ⟨⟨by decide, by decide, by decide⟩, ?_⟩ | refine ⟨_, _, rfl, rfl, ?_⟩ | refine ⟨rfl, _, rfl, ?_⟩)
            refine ⟨len63 (by show 2 ≤ _; decide), fun t2 ht2 => ?_⟩
            have ntf2 : f ≠ t2 := ne_of_none ef4 ht2
            have ef5 : (upd H6 t2 (.tup [.int (itn v0 k), .int (dr / 2 % 41)])) f = some (.lst (xs ++ [.ref t])) := by rw [upd_ne ntf2]; exact ef4
            refine ⟨_, rfl, _, rfl, f, _, _, i, rfl, rfl, ef5, ?_, ?_⟩
            · rw [Int.zero_add]
              exact Evl.ixN_nat (by rw [List.length_append, hp3.len]; show i < _ + 1; omega)
            obtain ⟨n1, n2, n3⟩ := hfin (dr / 2 % 41) (by omega) (by omega)
            have hset : (ps ++ [(itn v0 k, dr / 2 % 4)]).set i (itn v0 k, dr / 2 % 41) = ps ++ [(itn v0 k, dr / 2 % 41)] := by
              rw [List.set_append_right _ _ (by omega), show i - ps.length = 0 by omega]
              rfl
            refine ⟨_, ps ++ [(itn v0 k, dr / 2 % 41)], _, _, _, rfl, Ex.mu (ex4.tr (Ex.nw ht2)) hf, upd_same, ?_, ?_, n1, n2, n3⟩
            · rw [upd_ne nfd, List.map_append]
              exact (Ex.nw ht2) _ _ ed4
            · rw [← hset]
              refine Prs.up (by intro ys z; rw [ef5] at z; cases z) ?_
              exact Prs.set (p := (itn v0 k, dr / 2 % 41)) upd_same i (hp4.ex (Ex.nw ht2))
          · exact stay
        · exact iteF stay
      · have hin : itn v0 k ∈ ps.map (·.1) := by
          by_cases z : itn v0 k ∈ ps.map (·.1)
          · exact z
          · exact absurd z (hmin k (by omega))
        obtain ⟨v, ev⟩ := dkv_some hin
        rw [ev]
        refine iteT ⟨fun σ' H'' => ∃ n', n' < n ∧ ∃ k', k' + n' = j ∧ σ' = [some (.ref a), some (.int (1 + cell ns 0 % 4)), some (.ref f), some (.ref d), some (.int (0 + (i : Int))), some (.int (itn v0 k')), y6] ∧ H'' = H4, fun _ _ z => z, ?_⟩
        repeat (first | refine ⟨_, rfl, ?_⟩ | refine ⟨(by show (0 : Int) < _; decide), ?_⟩ | refine ⟨⟨by decide, by decide⟩, ?_⟩ | refine ⟨.inr ⟨by decide, by decide⟩, ?_⟩ | refine ⟨.inl ⟨by decide, by decide⟩, ?_⟩ | refine ⟨⟨by decide, by decide, by decide⟩, ?_⟩ | refine ⟨_, _, rfl, rfl, ?_⟩ | refine ⟨rfl, _, rfl, ?_⟩)
        exact ⟨n - 1, by omega, k + 1, by omega, by rw [itn_succ]; rfl, rfl⟩
    · rintro σ H' ⟨xs, ps, y4, y5, y6, rfl, ex, ef, ed, hp, hnd, hb, hlen⟩
      refine ⟨_, rfl, f, xs, pairAt H', rfl, .of ef, hp.all, fun ys t z1 z2 ht => ?_⟩
      obtain ⟨qs, hq, hpm, hris⟩ := sorted_prs hp hnd z1 z2
      exact q t ys qs _ (ex.tr (Ex.nw ht)) (none_back ex ht) upd_same (hq.ex (Ex.nw ht)) ⟨by rw [hpm.length_eq]; omega, by rw [hpm.length_eq]; omega, (hpm.map _).nodup_iff.mpr hnd, fun p hp => hb p (hpm.mem_iff.mp hp)⟩ hris
/-! ### a comprehension over zip -/
theorem lc_zip {K : PySem.W.Frag} {a b : Addr} {zs ys : List V} {g : TG} {tt : TT} {te : TE} {us : List Nat} {σ : L2.St} {H1 : Hp} {D : Addr} {Qd : Hp → Prop} (he : zs.length = ys.length) (Pv : Nat → Hp → Prop) (h0 : Pv 0 (upd H1 D (.lst []))) (hl : ∀ i H, i ≤ zs.length → Pv i H → SqL K H a zs ∧ SqL K H b ys)
    (hs : ∀ (i : Nat) (x y : V) (T : Addr) (H : Hp), zs[i]? = some x → ys[i]? = some y → Pv i H → H T = none → g (.ref T) (wipe σ us) (upd H T (.tup [x, y])) fun σ2 H2 => wipe σ2 us = wipe σ us ∧ tt σ2 H2 fun b H3 =>
      if b = true then te σ2 H3 fun y H4 => ∃ acc, H4 D = some (.lst acc) ∧ acc.length < sizeLine ∧ Pv (i + 1) (upd H4 D (.lst (acc ++ [y]))) else Pv (i + 1) H3) (hd : ∀ H, Pv zs.length H → Qd H) :
    ∃ W : Nat → Nat → Hp → Prop, (∃ m, W 0 m (upd H1 D (.lst []))) ∧ ∀ i m H, W i m H →
      ((Itz K a b).stop i H ∧ Qd H) ∨ ((Itz K a b).go i H ∧ ∃ Nx : Hp → Prop, (∀ H', Nx H' → ∃ m', m' < m ∧ W (i + 1) m' H') ∧ ∀ x H', (Itz K a b).yld i H x H' → g x (wipe σ us) H' fun σ2 H2 => wipe σ2 us = wipe σ us ∧ tt σ2 H2 fun b H3 =>
        if b = true then te σ2 H3 fun y H4 => ∃ acc, H4 D = some (.lst acc) ∧ acc.length < sizeLine ∧ Nx (upd H4 D (.lst (acc ++ [y]))) else Nx H3) := by
  refine ⟨fun i m H => m = zs.length - i ∧ i ≤ zs.length ∧ Pv i H, ⟨zs.length, by simp, Nat.zero_le _, h0⟩, ?_⟩
  rintro i m H ⟨rfl, hi, pv⟩
  obtain ⟨sa, sb⟩ := hl i H hi pv
  by_cases hlt : i < zs.length
  · have hlt2 : i < ys.length := by omega
    refine .inr ⟨⟨zs, ys, zs[i], ys[i], sa, sb, List.getElem?_eq_getElem hlt, List.getElem?_eq_getElem hlt2⟩, Pv (i + 1), fun H' z => ⟨zs.length - (i + 1), by omega, rfl, hlt, z⟩, fun x H' y => ?_⟩
    obtain ⟨T, z, u, rfl, hT, rfl, hz, hu⟩ := y
    exact hs i z u T H (hz zs sa) (hu ys sb) pv hT
  · obtain rfl : i = zs.length := by omega
    exact .inl ⟨⟨zs, ys, sa, sb, .inl (Nat.le_refl _)⟩, hd H pv⟩
/-! ### every way, as the law lays them -/
def natV (k : Nat) : V := .int (k : Int)
def WaysAt (H : Hp) : List Addr → List (List Nat) → Prop := Paired fun a w => H a = some (.lst (w.map natV))
theorem WaysAt.ex {H H' : Hp} (e : Ex H H') : ∀ {as : List Addr} {rs : List (List Nat)}, WaysAt H as rs → WaysAt H' as rs
  | _, _, .nil => .nil
  | _, _, .cons h r => .cons (e _ _ h) (WaysAt.ex e r)
theorem WaysAt.len {H : Hp} {as : List Addr} {rs : List (List Nat)} (h : WaysAt H as rs) : as.length = rs.length := Paired.length h
theorem WaysAt.snoc {H : Hp} : ∀ {as : List Addr} {rs : List (List Nat)} {a : Addr} {r : List Nat}, WaysAt H as rs → H a = some (.lst (r.map natV)) → WaysAt H (as ++ [a]) (rs ++ [r])
  | _, _, _, _, .nil, h => .cons h .nil
  | _, _, _, _, .cons b r, h => .cons b (WaysAt.snoc r h)
theorem WaysAt.getA {H : Hp} : ∀ {as : List Addr} {rs : List (List Nat)} {i : Nat} {a : Addr}, WaysAt H as rs → as[i]? = some a → ∃ r, rs[i]? = some r ∧ H a = some (.lst (r.map natV))
  | _, _, i, _, .nil, e => by simp at e
  | _, _, 0, _, .cons h _, e => by simp at e; subst e; exact ⟨_, by simp, h⟩
  | _, _, i + 1, _, .cons _ r, e => by
    obtain ⟨x, h1, h2⟩ := WaysAt.getA (i := i) r (by simpa using e)
    exact ⟨x, by simpa using h1, h2⟩
theorem WaysAt.up {H : Hp} {f : Addr} {o : HO} : ∀ {as : List Addr} {rs : List (List Nat)}, f ∉ as → WaysAt H as rs → WaysAt (upd H f o) as rs
  | _, _, _, .nil => .nil
  | _, _, hf, .cons h r => .cons (by rw [upd_ne fun e => hf (by rw [← e]; exact List.mem_cons_self)]; exact h) (WaysAt.up (fun z => hf (List.mem_cons_of_mem _ z)) r)
theorem nat_ints (w : List Nat) : w.map natV = (w.map fun k : Nat => (k : Int)).map V.int := by
  rw [List.map_map]
  rfl
theorem sum_cast (w : List Nat) : (w.map fun k : Nat => (k : Int)).sum = (w.sum : Int) := by
  induction w with
  | nil => rfl
  | cons a w ih =>
    rw [List.map_cons, List.sum_cons, List.sum_cons, ih]
    simp
theorem flat_len {α β : Type} {f : α → List β} {n : Nat} (h : ∀ x, (f x).length = n) : ∀ l : List α, (l.flatMap f).length = l.length * n
  | [] => by simp
  | a :: l => by
    rw [List.flatMap_cons, List.length_append, h, flat_len h l, List.length_cons, Nat.succ_mul]
    omega
def nextW (c : Nat) (w : List Nat) : List (List Nat) := (List.range (c + 1)).map fun j => w ++ [j]
theorem nextW_len (c : Nat) (w : List Nat) : (nextW c w).length = c + 1 := by
  unfold nextW
  rw [List.length_map, List.length_range]
theorem waysK_succ (ps : List (Int × Int)) (k : Nat) {p : Int × Int} (hp : ps[k]? = some p) : waysK ps (k + 1) = (waysK ps k).flatMap (nextW p.2.toNat) := by
  show List.flatMap _ _ = _
  rw [show ps.getD k (0, 0) = p by rw [List.getD_eq_getElem?_getD, hp]; rfl]
  rfl
theorem ways_count {ps : List (Int × Int)} (h : ∀ p ∈ ps, p.2 ≤ 40) : ∀ k, k ≤ ps.length → (waysK ps k).length ≤ 41 ^ k
  | 0, _ => Nat.le_refl _
  | k + 1, hk => by
    have hp := List.getElem?_eq_getElem (show k < ps.length by omega)
    have hb := h _ (List.getElem_mem (show k < ps.length by omega))
    rw [waysK_succ ps k hp, flat_len (nextW_len _), Nat.pow_succ]
    exact Nat.mul_le_mul (ways_count h k (by omega)) (by omega)
theorem ways_pos (ps : List (Int × Int)) : ∀ k, k ≤ ps.length → 0 < (waysK ps k).length
  | 0, _ => Nat.zero_lt_one
  | k + 1, hk => by
    rw [waysK_succ ps k (List.getElem?_eq_getElem (show k < ps.length by omega)), flat_len (nextW_len _)]
    exact Nat.mul_pos (ways_pos ps k (by omega)) (Nat.succ_pos _)
theorem len24 {n : Nat} (h : n < 3000000) : n < sizeLine := Nat.lt_of_lt_of_le h (by decide)
def spWays (K : PySem.W.Frag) : Sp := fun vs H Q _ => ∃ (t : Addr) (ps : List (Int × Int)), vs = [.ref t] ∧ Till K H t ps ∧ Small7 ps ∧ ∀ p as H2, Ex H H2 → H2 p = some (.lst (as.map V.ref)) → WaysAt H2 as (waysK ps ps.length) → Q (.ref p) H2
theorem ok_ways (T : Tx K mg) : FnOk P w K mg base CX0 1 T.a__law_ways T.d__law_ways P__law_ways (spWays K) := by
  refine T.f__law_ways.ok sc__law_ways (fun vs H Q E h => ?_) (fun cdv A outer s H vs Q E hr h => ?_)
  · obtain ⟨t, ps, rfl, _⟩ := h
    rfl
  · obtain ⟨t, ps, rfl, ⟨xs, hS, hp⟩, hsm, q⟩ := h
    refine ⟨_, (pss_cons (ps_set (i := 1) sc__law_ways.nd rfl (.inl rfl) (pe_lst (pa_cons (pe_lst pa_nil) pa_nil)))
    (pss_cons (ps_for PassesOwn.never rfl (pi_list (pv 0)) (pg_name (i := 2) sc__law_ways.nd rfl (.inl rfl))
      (pss_cons (ps_set (i := 3) sc__law_ways.nd rfl (.inl rfl) (pe_lst pa_nil))
      (pss_cons (ps_for PassesOwn.never rfl (pi_list (pv 1)) (pg_name (i := 4) sc__law_ways.nd rfl (.inl rfl))
        (pss_one (ps_for PassesOwn.never rfl (pi_range1 (by rfl) T.m_range (pa_cons (pe_op op_add (pe_ix ix_tup (pv 2) pe_int (fun _ _ => rfl)) pe_int) pa_nil)) (pg_name (i := 5) sc__law_ways.nd rfl (.inl rfl))
          (pss_one (ps_expr (pe_bm PySem.F.plainAttrs_list PySem.F.slot_list_append PySem.F.type_list_append mt_append (pv 3) (pa_cons (pe_op op_cat (pv 4) (pe_lst (pa_cons (pv 5) pa_nil))) pa_nil)))))))
      (pss_one (ps_set (i := 1) sc__law_ways.nd rfl (.inl rfl) (pv 3))))))
    (pss_one (ps_ret (pv 1))))), ?_⟩
    have hpl := hp.len
    refine ⟨Nat.zero_le _, fun l0 hl0 => ?_⟩
    (generalize hh : upd H l0 _ = H1; have e1 : Ex H H1 := (by rw [← hh]; exact Ex.nw hl0); have c1 := (show H1 l0 = some _ by rw [← hh]; exact upd_same); clear hh)
    refine ⟨len63 (by show 1 ≤ _; decide), fun W0 hW0 => ?_⟩
    refine ⟨_, rfl, t, rfl, ⟨xs, (e1.tr (Ex.nw hW0)).seq hS⟩, for_list (xs := xs) (fun k σ H' => ∃ (W : Addr) (as : List Addr) (y2 y3 y4 y5 : Option V), σ = [some (.ref t), some (.ref W), y2, y3, y4, y5] ∧ Ex H H' ∧ H' W = some (.lst (as.map V.ref)) ∧ WaysAt H' as (waysK ps k))
      ⟨W0, [l0], _, _, _, _, rfl, e1.tr (Ex.nw hW0), upd_same, .cons ((Ex.nw hW0) _ _ c1) .nil⟩ (fun i σ H' _ h => by
        obtain ⟨_, _, _, _, _, _, _, e, _⟩ := h
        exact e.seq hS) ?_ ?_⟩
    · rintro k x σ H2 hx ⟨W, as, y2, y3, y4, y5, rfl, ex, eW, hws⟩
      obtain ⟨p, t2, h1, rfl, h3⟩ := Prs.get hp hx
      have hpv := hsm.2.2.2 p (List.mem_of_getElem? h1)
      have hk : k < ps.length := (List.getElem?_eq_some_iff.mp h1).1
      have hk4 : k ≤ 3 := by have := hsm.2.1; omega
      have hwc : (waysK ps k).length ≤ 68921 := Nat.le_trans (ways_count (fun p hp => (hsm.2.2.2 p hp).2.2.2) k (by omega)) (Nat.le_trans (Nat.pow_le_pow_right (by decide) hk4) (by decide))
      obtain ⟨c, hc⟩ : ∃ c : Nat, p.2 = (c : Int) := ⟨p.2.toNat, (Int.toNat_of_nonneg (by omega)).symm⟩
      have hc40 : c ≤ 40 := by omega
      rw [hc] at h3
      have hnx := waysK_succ ps k h1
      rw [hc, Int.toNat_natCast] at hnx
      refine ⟨Nat.zero_le _, fun M hM => ?_⟩
      have hM0 : H M = none := none_back ex hM
      have haM : M ∉ as := fun z => by
        obtain ⟨i, hi, e⟩ := List.getElem_of_mem z
        obtain ⟨r, _, er⟩ := hws.getA (List.getElem?_eq_getElem hi)
        rw [e, hM] at er
        cases er
      have nWM : W ≠ M := ne_of_none eW hM
      have hasl := hws.len
      refine ⟨_, rfl, W, rfl, ⟨_, .of ((Ex.nw hM) _ _ eW)⟩, for_list (xs := as.map V.ref) (fun i σ H' => ∃ (bs : List Addr) (y4 y5 : Option V), σ = [some (.ref t), some (.ref W), some (.ref t2), some (.ref M), y4, y5] ∧ Ex H2 H' ∧ H' M = some (.lst (bs.map V.ref)) ∧ M ∉ bs ∧ WaysAt H' bs (((waysK ps k).take i).flatMap (nextW c)))
        ⟨[], _, _, rfl, Ex.nw hM, upd_same, by simp, .nil⟩ (fun i σ H' _ h => by
          obtain ⟨_, _, _, _, e, _⟩ := h
          exact .of (e _ _ eW)) ?_ ?_⟩
      · rintro i x σ H3 hxi ⟨bs, y4, y5, rfl, ex3, eM, hMb, hbs⟩
        rw [List.getElem?_map] at hxi
        obtain ⟨v, hv1, rfl⟩ := Option.map_eq_some_iff.mp hxi
        obtain ⟨wv, hw1, ew⟩ := hws.getA hv1
        have hi : i < (waysK ps k).length := (List.getElem?_eq_some_iff.mp hw1).1
        have h3' := ex3 _ _ (ex _ _ h3)
        refine ⟨_, rfl, t2, _, 1, .int (c : Int), rfl, rfl, .of h3', rfl, _, _, rfl, rfl, _, rfl, by omega, by omega, ?_⟩
        refine for_range (fun j σ H' => ∃ (bs : List Addr) (y5 : Option V), σ = [some (.ref t), some (.ref W), some (.ref t2), some (.ref M), some (.ref v), y5] ∧ Ex H2 H' ∧ H' M = some (.lst (bs.map V.ref)) ∧ M ∉ bs ∧ WaysAt H' bs (((waysK ps k).take i).flatMap (nextW c) ++ (List.range j).map fun j => wv ++ [j]))
          ⟨bs, _, rfl, ex3, eM, hMb, by simpa using hbs⟩ ?_ ?_
        · rintro j σ H4 hj ⟨cs, y5, rfl, ex4, eM4, hMc, hcs⟩
          have ew4 := ex4 _ _ ew
          have hcl := hcs.len
          rw [List.length_append, flat_len (nextW_len c), List.length_map, List.length_range, List.length_take] at hcl
          have hbound : cs.length < 3000000 := by
            have h1 : min i (waysK ps k).length * (c + 1) ≤ 68921 * 41 := Nat.mul_le_mul (by omega) (by omega)
            omega
          refine ⟨_, rfl, .inl ⟨rfl, _, .of eM4⟩, _, rfl, _, rfl, len63 (by show 1 ≤ _; decide), fun l1 hl1 => ?_⟩
          (generalize hh : upd H4 l1 _ = H5; have e5 : Ex H4 H5 := (by rw [← hh]; exact Ex.nw hl1); have c5 := (show H5 l1 = some _ by rw [← hh]; exact upd_same); clear hh)
          have hwl := ways_len (by omega) (List.mem_of_getElem? hw1)
          refine ⟨v, l1, _, _, rfl, rfl, e5 _ _ ew4, c5, len63 (by rw [List.length_map, hwl]; show k + 1 ≤ _; omega), fun l2 hl2 => ?_⟩
          (generalize hh : upd H5 l2 _ = H6; have e6 : Ex H5 H6 := (by rw [← hh]; exact Ex.nw hl2); have c6 := (show H6 l2 = some _ by rw [← hh]; exact upd_same); clear hh)
          have eM6 := e6 _ _ (e5 _ _ eM4)
          refine ⟨M, _, _, rfl, rfl, eM6, len24 (by rw [List.length_map]; exact hbound), ?_⟩
          have nMl : M ≠ l2 := ne_of_none (e5 _ _ eM4) hl2
          have ex6 := (ex4.tr e5).tr e6
          have hMc' : M ∉ cs ++ [l2] := fun z => by
            rcases List.mem_append.mp z with z | z
            · exact hMc z
            · exact nMl (List.mem_singleton.mp z)
          refine ⟨cs ++ [l2], some (.int (0 + (j : Int))), rfl, Ex.mu ex6 hM, by rw [upd_same, List.map_append]; rfl, hMc', ?_⟩
          rw [List.range_succ, List.map_append, ← List.append_assoc]
          refine WaysAt.up hMc' (WaysAt.snoc ((hcs.ex e5).ex e6) ?_)
          rw [c6, List.map_append]
          show some (HO.lst (wv.map natV ++ [V.int (0 + (j : Int))])) = _
          rw [Int.zero_add]
          rfl
        · rintro σ H4 ⟨cs, y5, rfl, ex4, eM4, hMc, hcs⟩
          refine ⟨cs, _, _, rfl, ex4, eM4, hMc, ?_⟩
          rw [take_snoc hw1, List.flatMap_append]
          rw [show ((c : Int) + 1).toNat = c + 1 by omega] at hcs
          simpa [nextW] using hcs
      · rintro σ H3 ⟨bs, y4, y5, rfl, ex3, eM, hMb, hbs⟩
        rw [List.take_of_length_le (by rw [List.length_map, hasl]; exact Nat.le_refl _), ← hnx] at hbs
        exact ⟨_, rfl, M, bs, _, _, _, _, rfl, ex.tr ex3, eM, hbs⟩
    · rintro σ H2 ⟨W, as, y2, y3, y4, y5, rfl, ex, eW, hws⟩
      rw [hpl] at hws
      exact ⟨_, rfl, q W as H2 ex eW hws⟩
/-! ### worth and the better of two -/
def spWorthW (K : PySem.W.Frag) : Sp := fun vs H Q _ => ∃ (t a : Addr) (ps : List (Int × Int)) (w : List Nat), vs = [.ref t, .ref a] ∧ Till K H t ps ∧ H a = some (.lst (w.map natV)) ∧ ps.length = w.length ∧ (∀ p ∈ ps, 1 ≤ p.1 ∧ p.1 ≤ 1000) ∧ Ret (.int (worthV ps w)) H Q
theorem ok_worthW (T : Tx K mg) : FnOk P w K mg base CX0 1 T.a__law_worth T.d__law_worth P__law_worth (spWorthW K) := by
  refine T.f__law_worth.ok sc__law_worth (fun vs H Q E h => ?_) (fun cdv A outer s H vs Q E hr h => ?_)
  · obtain ⟨t, a, ps, w, rfl, _⟩ := h
    rfl
  · obtain ⟨t, a, ps, w, rfl, ⟨xs, hS, hp⟩, ha, hl, hv, q⟩ := h
    refine ⟨_, (pss_cons (ps_set (i := 2) sc__law_worth.nd rfl (.inl rfl) pe_int)
    (pss_cons (ps_for PassesOwn.never rfl (pi_zip (by rfl) T.m_zip (pa_cons (pv 0) (pa_cons (pv 1) pa_nil))) (pg_tup rfl (pgs_cons (pg_name (i := 3) sc__law_worth.nd rfl (.inl rfl)) (pgs_cons (pg_name (i := 4) sc__law_worth.nd rfl (.inl rfl)) pgs_nil)))
      (pss_one (ps_set (i := 2) sc__law_worth.nd rfl (.inl rfl) (pe_op op_add (pv 2) (pe_op op_mul (pe_ix ix_tup (pv 3) pe_int (fun _ _ => rfl)) (pv 4))))))
    (pss_one (ps_ret (pv 2))))), ?_⟩
    have hpl := hp.len
    refine ⟨_, rfl, _, rfl, t, a, xs, _, rfl, hS, .of ha, RZ.for_zipL (xs := xs) (ys := w.map natV) (by rw [List.length_map, hpl, hl]) (fun i σ H' => ∃ y3 y4, σ = [some (.ref t), some (.ref a), some (.int (worthV (ps.take i) (w.take i))), y3, y4] ∧ Ex H H') ⟨_, _, rfl, Ex.rfl'⟩ (fun i σ H' h => by
      obtain ⟨_, _, _, e⟩ := h
      exact ⟨e.seq hS, .of (e _ _ ha)⟩) ?_ ?_⟩
    · rintro i x y T σ H' hx hy ⟨y3, y4, rfl, ex⟩ hT
      obtain ⟨p, t2, h1, rfl, h3⟩ := Prs.get hp hx
      rw [List.getElem?_map] at hy
      obtain ⟨j, hj, rfl⟩ := Option.map_eq_some_iff.mp hy
      have hpv := hv p (List.mem_of_getElem? h1)
      have e1 := ex.tr (Ex.nw (o := .tup [.ref t2, natV j]) hT)
      refine ⟨T, _, rfl, .of upd_same, rfl, _, _, rfl, _, _, rfl, rfl, ?_⟩
      refine ⟨_, rfl, _, rfl, t2, _, 0, .int p.1, rfl, rfl, .of (e1 _ _ h3), rfl, _, rfl, _, _, rfl, rfl, .inl ⟨by omega, by omega⟩, _, _, rfl, rfl, some (.ref t2), some (natV j), ?_, e1⟩
      rw [take_snoc h1, take_snoc hj, worthV_snoc (by rw [List.length_take, List.length_take]; omega)]
      rfl
    · rintro σ H' ⟨y3, y4, rfl, ex⟩
      rw [List.take_of_length_le (by omega), List.take_of_length_le (by omega)]
      exact ⟨_, rfl, q H' ex⟩
theorem nat_at {w : List Nat} {i : Int} {j : Nat} {k : Nat} (hi : i = (j : Int)) (h : w[j]? = some k) : atI (w.map natV) i = some (.int (k : Int)) := at_of hi (by
  rw [List.getElem?_map, h]
  rfl)
def spBetter : Sp := fun vs H Q _ => ∃ (a b : Addr) (x y : List Nat), vs = [.ref a, .ref b] ∧ H a = some (.lst (x.map natV)) ∧ H b = some (.lst (y.map natV)) ∧ x.length = y.length ∧ x.length ≤ 1000 ∧ Q (.bl (betterF x y)) H
theorem ok_better (T : Tx K mg) : FnOk P w K mg base CX0 1 T.a__law_better T.d__law_better P__law_better spBetter := by
  refine T.f__law_better.ok sc__law_better (fun vs H Q E h => ?_) (fun cdv A outer s H vs Q E hr h => ?_)
  · obtain ⟨a, b, x, y, rfl, _⟩ := h
    rfl
  · obtain ⟨a, b, x, y, rfl, ha, hb, hl, hl2, q⟩ := h
    refine ⟨_, (pss_cons (ps_if (pt_cmpR op_ne (pe_callB (cr_sum rfl) (by rfl) T.m_sum (by decide +kernel) (pa_cons (pv 0) pa_nil)) (pe_callB (cr_sum rfl) (by rfl) T.m_sum (by decide +kernel) (pa_cons (pv 1) pa_nil)) (nomark _))
      (pss_one (ps_ret (pe_cmpR op_lt (pe_callB (cr_sum rfl) (by rfl) T.m_sum (by decide +kernel) (pa_cons (pv 0) pa_nil)) (pe_callB (cr_sum rfl) (by rfl) T.m_sum (by decide +kernel) (pa_cons (pv 1) pa_nil)) (nomark _))))
      pss_nil)
    (pss_cons (ps_for PassesOwn.never rfl (pi_range1 (by rfl) T.m_range (pa_cons (pe_callB call_len_seq (by rfl) T.m_len (by decide +kernel) (pa_cons (pv 0) pa_nil)) pa_nil)) (pg_name (i := 2) sc__law_better.nd rfl (.inl rfl))
      (pss_cons (ps_set (i := 3) sc__law_better.nd rfl (.inl rfl) (pe_op op_sub (pe_op op_sub (pe_callB call_len_seq (by rfl) T.m_len (by decide +kernel) (pa_cons (pv 0) pa_nil)) pe_int) (pv 2)))
      (pss_one (ps_if (pt_cmpR op_ne (pe_ix ix_list (pv 0) (pv 3) (fun _ _ => rfl)) (pe_ix ix_list (pv 1) (pv 3) (fun _ _ => rfl)) (nomark _))
        (pss_one (ps_ret (pe_cmpR op_gt (pe_ix ix_list (pv 0) (pv 3) (fun _ _ => rfl)) (pe_ix ix_list (pv 1) (pv 3) (fun _ _ => rfl)) (nomark _))))
        pss_nil))))
    (pss_one (ps_ret pe_bl)))), ?_⟩
    have sx := sum_cast x
    have sy := sum_cast y
    have ha' : H a = some (.lst ((x.map fun k : Nat => (k : Int)).map V.int)) := by rw [← nat_ints]; exact ha
    have hb' : H b = some (.lst ((y.map fun k : Nat => (k : Int)).map V.int)) := by rw [← nat_ints]; exact hb
    unfold betterF at q
    refine ⟨_, rfl, a, _, rfl, .of ha', _, rfl, b, _, rfl, .of hb', rfl, _, rfl, iteVN (fun e => ?_) (fun e => ?_)⟩
    · rw [sx, sy] at e
      rw [if_neg fun z => e (by rw [z])] at q
      refine ⟨_, rfl, a, _, rfl, .of ha', _, rfl, b, _, rfl, .of hb', _, _, rfl, rfl, ?_⟩
      rw [sx, sy]
      rw [show decide (x.sum < y.sum) = decide ((x.sum : Int) < (y.sum : Int)) by
        rw [decide_eq_decide]
        omega] at q
      exact q
    · rw [sx, sy] at e
      rw [if_pos (by omega)] at q
      refine ⟨_, rfl, a, _, rfl, .inl (.of ha), _, rfl, by rw [List.length_map]; omega, by rw [List.length_map]; omega, ?_⟩
      refine for_range (fun k σ H' => ∃ y2 y3, σ = [some (.ref a), some (.ref b), y2, y3] ∧ H' = H ∧ lexR x.reverse y.reverse = lexR (x.reverse.drop k) (y.reverse.drop k)) ⟨_, _, rfl, rfl, rfl⟩ ?_ ?_
      · rintro k σ H' hk ⟨y2, y3, rfl, rfl, hlex⟩
        have hk' : k < x.length := by rw [List.length_map] at hk; omega
        have g1 : x.reverse[k]? = x[x.length - 1 - k]? := List.getElem?_reverse hk'
        have g2 : y.reverse[k]? = y[y.length - 1 - k]? := List.getElem?_reverse (by omega)
        have f1 := List.getElem?_eq_getElem (show x.length - 1 - k < x.length by omega)
        have f2 := List.getElem?_eq_getElem (show y.length - 1 - k < y.length by omega)
        generalize x[x.length - 1 - k]'(by omega) = u at f1
        generalize y[y.length - 1 - k]'(by omega) = v at f2
        rw [drop_at (g1.trans f1), drop_at (g2.trans f2)] at hlex
        have i1 : atI (x.map natV) (((x.map natV).length : Int) - 1 - (0 + (k : Int))) = some (.int (u : Int)) := nat_at (j := x.length - 1 - k) (by rw [List.length_map]; omega) f1
        have i2 : atI (y.map natV) (((x.map natV).length : Int) - 1 - (0 + (k : Int))) = some (.int (v : Int)) := nat_at (j := y.length - 1 - k) (by rw [List.length_map]; omega) f2
        refine ⟨_, rfl, a, _, rfl, .inl (.of ha), _, _, rfl, rfl, _, rfl, _, _, rfl, rfl, ?_⟩
        refine ⟨_, rfl, _, rfl, a, _, _, _, rfl, rfl, .of ha, i1, _, rfl, _, rfl, b, _, _, _, rfl, rfl, .of hb, i2, rfl, _, rfl, iteVN (fun e => ?_) (fun e => ?_)⟩
        · refine ⟨_, rfl, _, rfl, a, _, _, _, rfl, rfl, .of ha, i1, _, rfl, _, rfl, b, _, _, _, rfl, rfl, .of hb, i2, _, _, rfl, rfl, ?_⟩
          rw [hlex] at q
          unfold lexR at q
          rw [if_neg fun z => e (by rw [z])] at q
          rw [show decide (v < u) = decide ((v : Int) < (u : Int)) by
            rw [decide_eq_decide]
            omega] at q
          exact q
        · refine ⟨_, _, rfl, rfl, ?_⟩
          rw [hlex]
          exact if_pos (by omega)
      · rintro σ H' ⟨y2, y3, rfl, rfl, hlex⟩
        rw [List.length_map, show ((x.length : Int)).toNat = x.length from Int.toNat_natCast _, List.drop_of_length_le (by rw [List.length_reverse]; exact Nat.le_refl _), List.drop_of_length_le (by rw [List.length_reverse]; omega)] at hlex
        rw [hlex] at q
        exact q
def spTried7 (K : PySem.W.Frag) : Sp := fun vs H Q _ => ∃ (a : Addr) (ps : List (Int × Int)) (m : Nat), vs = [.ref a, .int (m : Int)] ∧ Till K H a ps ∧ ps.length ≤ 1000 ∧ (∀ p ∈ ps, 1 ≤ p.1 ∧ p.1 ≤ 1000 ∧ 0 ≤ p.2) ∧ m ≤ 1000 ∧
  (rAt (lastRow (row0 m) ps) m = none → Ret .non H Q) ∧ (rAt (lastRow (row0 m) ps) m ≠ none → ∀ p xs H2, Ex H H2 → H p = none → H2 p = some (.lst xs) → Prs H2 xs (given (row0 m) ps ps.length m) → Q (.ref p) H2)
theorem ok_tried7 (T : Tx K mg) : FnOk P w K mg base CX0 5 T.a__law_tried T.d__law_tried P__law_tried (spTried7 K) := by
  have G_fewest := ok_fewest (P := P) (w := w) (base := base) T
  refine T.f__law_tried.ok sc__law_tried (fun vs H Q E h => ?_) (fun cdv A outer s H vs Q E hr h => ?_)
  · obtain ⟨a, ps, m, rfl, _⟩ := h
    rfl
  · obtain ⟨a, ps, m, rfl, hT, hl, hv, hm, q1, q2⟩ := h
    refine ⟨_, (pss_one (ps_try_only rfl rfl ⟨by rfl, by decide, .inl T.g_NoChange⟩ takes0
      (fun W pn xe tk hp => (pss_one (ps_ret (pe_callS G_fewest (hr.mono (by decide)) rfl T.g_fewest T.f_fewest.kp T.p_fewest (fun σ => passAt tk σ) (pa_cons (pv 0) (pa_cons (pv 1) pa_nil))))))
      (fun a oe cls d pn hz hf => (pss_one (ps_ret pe_non))))), ?_⟩
    have hin : 0 ≤ (m : Int) ∧ (m : Int) ≤ 1000 := ⟨by omega, by omega⟩
    refine ⟨_, rfl, _, rfl, a, ps, (m : Int), rfl, hT, hl, hv, fun z => absurd hin z, fun _ hc H2 ex => ?_, fun _ hc p xs H2 ex hp ep hpr => ?_⟩
    · rw [Int.toNat_natCast] at hc
      refine ⟨true, exm_mk T.b_NoChange T.i_NoChange T.t_NoChange T.u_NoChange_NoChange, (fun _ x hx => ?_), fun z => nomatch z⟩
      exact q1 hc _ ex
    · rw [Int.toNat_natCast] at hc hpr
      exact q2 hc p xs H2 ex hp ep hpr
/-! ### a till, looked at -/
def spAlike (K : PySem.W.Frag) : Sp := fun vs H Q _ => ∃ (a b : Addr) (xs : List V) (ps : List (Int × Int)), vs = [.ref a, .ref b] ∧ H a = some (.lst xs) ∧ Prs H xs ps ∧ Till K H b ps ∧ Q (.bl true) H
theorem ok_alike (T : Tx K mg) : FnOk P w K mg base CX0 2 T.a__law_alike T.d__law_alike P__law_alike (spAlike K) := by
  have G__law_whole := ok_whole (P := P) (w := w) (base := base) T
  refine T.f__law_alike.ok sc__law_alike (fun vs H Q E h => ?_) (fun cdv A outer s H vs Q E hr h => ?_)
  · obtain ⟨a, b, xs, ps, rfl, _⟩ := h
    rfl
  · obtain ⟨a, b, xs, ps, rfl, ha, hp, hb, q⟩ := h
    refine ⟨_, (pss_cons (ps_if (PW.pt (pw_or (pt_not (pt_val (pe_callB call_isi (by rfl) T.m_isinstance (by decide +kernel) (pa_cons (pv 0) (pa_cons (pe_bltn (v := .ty "list") (by rfl) T.m_list (by decide +kernel) rfl) pa_nil))))) (pw_or1 (pt_cmpR (op_neD hr.units) (pv 0) (pv 1) (nomark _)))))
      (pss_one (ps_ret pe_bl))
      pss_nil)
    (pss_cons (ps_for PassesOwn.never rfl (pi_list (pv 0)) (pg_name (i := 2) sc__law_alike.nd rfl (.inl rfl))
      (pss_one (ps_if (PW.pt (pw_or (pt_not (pt_val (pe_callB call_isi (by rfl) T.m_isinstance (by decide +kernel) (pa_cons (pv 2) (pa_cons (pe_bltn (v := .ty "tuple") (by rfl) T.m_tuple (by decide +kernel) rfl) pa_nil))))) (pw_or (pt_not (pt_val (pe_call G__law_whole (hr.mono (by decide)) (by rfl) T.g__law_whole T.f__law_whole.kp T.p__law_whole .nil pass0 (pa_cons (pe_ix ix_tup (pv 2) pe_int (fun _ _ => rfl)) pa_nil)))) (pw_or1 (pt_not (pt_val (pe_call G__law_whole (hr.mono (by decide)) (by rfl) T.g__law_whole T.f__law_whole.kp T.p__law_whole .nil pass0 (pa_cons (pe_ix ix_tup (pv 2) pe_int (fun _ _ => rfl)) pa_nil))))))))
        (pss_one (ps_ret pe_bl))
        pss_nil)))
    (pss_one (ps_ret pe_bl)))), ?_⟩
    have hxl := hp.len
    refine ⟨_, rfl, _, _, _, _, true, rfl, .ty "list", .base (.lst ha), kit_ty (by decide +kernel), _, rfl, iteF ?_⟩
    refine ⟨_, rfl, _, rfl, _, _, till_dp (K := K) ⟨xs, .of ha, hp⟩, till_dp hb, shaped_till ps, shaped_till ps, ?_⟩
    rw [eqv_of_shaped (shaped_till ps)]
    refine ⟨_, rfl, iteF ?_⟩
    refine ⟨_, rfl, a, rfl, ⟨xs, .of ha⟩, for_list (xs := xs) (fun i σ H' => ∃ y2, σ = [some (.ref a), some (.ref b), y2] ∧ H' = H) ⟨_, rfl, rfl⟩ (fun i σ H' _ h => by obtain ⟨_, _, rfl⟩ := h; exact .of ha) ?_ ?_⟩
    · rintro i x σ H' hx ⟨y2, rfl, rfl⟩
      obtain ⟨p, t, h1, rfl, h3⟩ := Prs.get hp hx
      refine ⟨_, rfl, _, _, _, _, true, rfl, .ty "tuple", .base (.tup h3), kit_ty (by decide +kernel), _, rfl, iteF ?_⟩
      refine ⟨_, rfl, t, _, 0, .int p.1, rfl, rfl, .of h3, rfl, p.1, rfl, true, rfl, iteF ?_⟩
      refine ⟨_, rfl, t, _, 1, .int p.2, rfl, rfl, .of h3, rfl, p.2, rfl, true, rfl, iteF ?_⟩
      exact ⟨_, rfl, rfl⟩
    · rintro σ H' ⟨y2, rfl, rfl⟩
      exact q
def spLaw (K : PySem.W.Frag) : Sp := fun vs H Q _ => ∃ (a : Addr) (ns : List Int), vs = [.ref a] ∧ SqL K H a (ns.map V.int) ∧ ∀ H', Q (.bl true) H'
theorem ok_law (T : Tx K mg) : FnOk P w K mg base CX0 6 T.a_law T.d_law P_law (spLaw K) := by
  have G__law_cell_at := ok_cell_at (P := P) (w := w) (base := base) T
  have G__law_small := ok_small (P := P) (w := w) (base := base) T
  have G__law_ways := ok_ways (P := P) (w := w) (base := base) T
  have G__law_worth := ok_worthW (P := P) (w := w) (base := base) T
  have G__law_better := ok_better (P := P) (w := w) (base := base) T
  have G__law_tried := ok_tried7 (P := P) (w := w) (base := base) T
  have G__law_alike := ok_alike (P := P) (w := w) (base := base) T
  refine T.f_law.ok sc_law (fun vs H Q E h => ?_) (fun cdv A outer s H vs Q E hr h => ?_)
  · obtain ⟨a, ns, rfl, _⟩ := h
    rfl
  · obtain ⟨a, ns, rfl, hS, q⟩ := h
    refine ⟨_, (pss_cons (ps_set (i := 1) sc_law.nd rfl (.inl rfl) (pe_call G__law_small (hr.mono (by decide)) (by rfl) T.g__law_small T.f__law_small.kp T.p__law_small .nil pass0 (pa_cons (pv 0) pa_nil)))
    (pss_cons (ps_set (i := 2) sc_law.nd rfl (.inl rfl) (pe_call G__law_ways (hr.mono (by decide)) (by rfl) T.g__law_ways T.f__law_ways.kp T.p__law_ways .nil pass0 (pa_cons (pv 1) pa_nil)))
    (pss_cons (ps_set (i := 3) sc_law.nd rfl (.inl rfl) (pe_call G__law_cell_at (hr.mono (by decide)) (by rfl) T.g__law_cell_at T.f__law_cell_at.kp T.p__law_cell_at .nil pass0 (pa_cons (pv 0) (pa_cons pe_int pa_nil))))
    (pss_cons (ps_set (i := 4) sc_law.nd rfl (.inl rfl) (pe_op op_mod (pe_call G__law_worth (hr.mono (by decide)) (by rfl) T.g__law_worth T.f__law_worth.kp T.p__law_worth .nil pass0 (pa_cons (pv 1) (pa_cons (pe_ix ix_list (pv 2) (pe_op op_mod (pe_op op_fdiv (pv 3) pe_int) (pe_callB call_len_seq (by rfl) T.m_len (by decide +kernel) (pa_cons (pv 2) pa_nil))) (fun _ _ => rfl)) pa_nil))) pe_int))
    (Evl.pss_cut (ps_if (pt_cmpR op_eq (pe_op op_mod (pv 3) pe_int) pe_int (nomark _))
      (pss_one (ps_set (i := 4) sc_law.nd rfl (.inl rfl) (pe_callB (call_max2 rfl) (by rfl) T.m_max (by decide +kernel) (pa_cons pe_int (pa_cons (pe_op op_sub (pv 4) pe_int) pa_nil)))))
      pss_nil)
    (Evl.pss_cut (ps_if (pt_cmpR op_eq (pe_op op_mod (pv 3) pe_int) pe_int (nomark _))
      (pss_one (ps_set (i := 4) sc_law.nd rfl (.inl rfl) (pe_op op_mod (pe_op op_fdiv (pv 3) pe_int) pe_int)))
      pss_nil)
    (pss_cons (ps_set (i := 5) sc_law.nd rfl (.inl rfl) pe_non)
    (pss_cons (ps_for PassesOwn.never rfl (pi_list (pv 2)) (pg_name (i := 6) sc_law.nd rfl (.inl rfl))
      (pss_one (ps_if (PW.pt (pw_and (pt_cmpR op_eq (pe_call G__law_worth (hr.mono (by decide)) (by rfl) T.g__law_worth T.f__law_worth.kp T.p__law_worth .nil pass0 (pa_cons (pv 1) (pa_cons (pv 6) pa_nil))) (pv 4) (nomark _)) (pw_and1 (PW.pt (pw_or (pt_cmpR op_isN (pv 5) pe_non (nomark _)) (pw_or1 (pt_val (pe_call G__law_better (hr.mono (by decide)) (by rfl) T.g__law_better T.f__law_better.kp T.p__law_better .nil pass0 (pa_cons (pv 6) (pa_cons (pv 5) pa_nil))))))))))
        (pss_one (ps_set (i := 5) sc_law.nd rfl (.inl rfl) (pv 6)))
        pss_nil)))
    (pss_cons (ps_set (i := 7) sc_law.nd rfl (.inl rfl) (pe_call G__law_tried (hr.mono (by decide)) (by rfl) T.g__law_tried T.f__law_tried.kp T.p__law_tried .nil pass0 (pa_cons (pv 1) (pa_cons (pv 4) pa_nil))))
    (pss_cons (ps_if (pt_cmpR op_isN (pv 5) pe_non (nomark _))
      (pss_one (ps_ret (pe_cmpR op_isN (pv 7) pe_non (nomark _))))
      pss_nil)
    (pss_one (ps_ret (pe_call G__law_alike (hr.mono (by decide)) (by rfl) T.g__law_alike T.f__law_alike.kp T.p__law_alike .nil pass0 (pa_cons (pv 7) (pa_cons (pe_lc (own := [("_law_pair", 8), ("_law_many", 9)]) (g := gTup K 2 (gCons (gName 8) (gCons (gName 9) gNil))) rfl sc_law.nd (pi_zip (by rfl) T.m_zip (pa_cons (pv 1) (pa_cons (pv 5) pa_nil))) (blkOk_by (own := [("_law_pair", 8), ("_law_many", 9)]) (N := N_law) (sc := defScope s_law) (by decide +kernel)) (fun _ _ _ _ _ => pg_tup rfl (pgs_cons (pg_name (i := 8) sc_law.nd rfl (.inl rfl) (.inr rfl)) (pgs_cons (pg_name (i := 9) sc_law.nd rfl (.inl rfl) (.inr rfl)) pgs_nil))) (fun _ _ _ _ _ => (pts_one (pt_cmpR op_gt (pv 9) pe_int (nomark _)))) (fun _ _ _ _ _ => (pe_tup (pa_cons (pe_ix (r := rIxT K) ix_tup (pv 8) pe_int (fun _ _ => rfl)) (pa_cons (pv 9) pa_nil))))) pa_nil))))))))))))))), ?_⟩
    refine ⟨_, rfl, a, ns, rfl, hS, fun t ts ps H1 e1 ht0 ct htp hsm hris => ?_⟩
    have hT1 : Till K H1 t ps := ⟨ts, .of ct, htp⟩
    refine ⟨_, rfl, t, ps, rfl, hT1, hsm, fun W as H2 e2 eW hws => ?_⟩
    have hfit : ∀ p ∈ ps, 1 ≤ p.1 ∧ p.1 ≤ 1000 ∧ 0 ≤ p.2 := fun p hp => by
      have := hsm.2.2.2 p hp
      exact ⟨this.1, this.2.1, this.2.2.1⟩
    have hfit2 : ∀ p ∈ ps, 1 ≤ p.1 ∧ p.1 ≤ 1000 := fun p hp => ⟨(hfit p hp).1, (hfit p hp).2.1⟩
    have hl4 := hsm.2.1
    have hwc : (waysK ps ps.length).length ≤ 2825761 := Nat.le_trans (ways_count (fun p hp => (hsm.2.2.2 p hp).2.2.2) _ (Nat.le_refl _)) (Nat.le_trans (Nat.pow_le_pow_right (by decide) hl4) (by decide))
    have hwp : 0 < (waysK ps ps.length).length := ways_pos _ _ (Nat.le_refl _)
    generalize hvs : waysK ps ps.length = vs at hws hwc hwp
    have hal := hws.len
    have ex2 := e1.tr e2
    have hT2 := hT1.ex e2
    refine ⟨_, rfl, a, ns, 3, rfl, ex2.seq hS, ?_⟩
    -- the sum
    have hpos : 0 < ((as.map V.ref).length : Int) := by rw [List.length_map]; omega
    have b1 : 0 ≤ cell ns 3 / 4 % ((as.map V.ref).length : Int) := Int.emod_nonneg _ (by omega)
    have b2 : cell ns 3 / 4 % ((as.map V.ref).length : Int) < ((as.map V.ref).length : Int) := Int.emod_lt_of_pos _ hpos
    obtain ⟨k0, hk0⟩ : ∃ k : Nat, cell ns 3 / 4 % ((as.map V.ref).length : Int) = (k : Int) := ⟨_, (Int.toNat_of_nonneg b1).symm⟩
    have hk0l : k0 < as.length := by rw [List.length_map] at b2 hk0; omega
    obtain ⟨w0, hw0, ew0⟩ := hws.getA (List.getElem?_eq_getElem hk0l)
    have ib : atI (as.map V.ref) (cell ns 3 / 4 % ((as.map V.ref).length : Int)) = some (.ref as[k0]) := at_of hk0 (by rw [List.getElem?_map, List.getElem?_eq_getElem hk0l]; rfl)
    have hlen : ∀ w ∈ vs, w.length = ps.length := fun w hw => ways_len (Nat.le_refl _) (by rw [hvs]; exact hw)
    refine ⟨_, rfl, _, rfl, _, rfl, _, _, rfl, rfl, ⟨by decide, by decide⟩, _, rfl, W, _, rfl, .inl (.of eW), _, _, rfl, rfl, hpos, W, _, _, _, rfl, rfl, .of eW, ib, ?_⟩
    refine ⟨t, _, ps, w0, rfl, hT2, ew0, (hlen _ (List.mem_of_getElem? hw0)).symm, hfit2, fun H3 e3 => ?_⟩
    have ex3 := ex2.tr e3
    have w1 : 0 ≤ worthV ps w0 % 1001 := Int.emod_nonneg _ (by decide)
    have w2 : worthV ps w0 % 1001 < 1001 := Int.emod_lt_of_pos _ (by decide)
    obtain ⟨n0, hn0⟩ : ∃ k : Nat, worthV ps w0 % 1001 = (k : Int) := ⟨_, (Int.toNat_of_nonneg w1).symm⟩
    refine ⟨_, _, rfl, rfl, by show (0 : Int) < 1001; decide, ?_⟩
    refine ⟨fun σ' H' => ∃ n : Nat, n ≤ 1000 ∧ σ' = [some (.ref a), some (.ref t), some (.ref W), some (.int (cell ns 3)), some (.int (n : Int)), none, none, none, none, none] ∧ H' = H3, ?_, ?_⟩
    · repeat (first | refine ⟨_, rfl, ?_⟩ | refine ⟨(by show (0 : Int) < _; decide), ?_⟩ | refine ⟨⟨by decide, by decide⟩, ?_⟩ | refine ⟨.inr ⟨by decide, by decide⟩, ?_⟩ | refine ⟨.inl ⟨by decide, by decide⟩, ?_⟩ | refine ⟨⟨by decide, by decide, by decide⟩, ?_⟩ | refine ⟨_, _, rfl, rfl, ?_⟩ | refine ⟨rfl, _, rfl, ?_⟩)
      first | refine iteVI (fun e => ?_) (fun e => ?_) | refine iteVN (fun e => ?_) (fun e => ?_) | refine iteD (fun e => ?_) (fun e => ?_) | refine iteDN (fun e => ?_) (fun e => ?_) | refine iteB (fun e => ?_) (fun e => ?_)
      · repeat (first | refine ⟨_, rfl, ?_⟩ | refine ⟨(by show (0 : Int) < _; decide), ?_⟩ | refine ⟨⟨by decide, by decide⟩, ?_⟩ | refine ⟨.inr ⟨by decide, by decide⟩, ?_⟩ | refine ⟨.inl ⟨by decide, by decide⟩, ?_⟩ | refine ⟨⟨by decide, by decide, by decide⟩, ?_⟩ | refine ⟨_, _, rfl, rfl, ?_⟩ | refine ⟨rfl, _, rfl, ?_⟩)
        refine ⟨_, _, rfl, ?_⟩
        by_cases hz : worthV ps w0 % 1001 - 1 > 0
        · exact ⟨n0 - 1, by omega, by
            show [_, _, _, _, some (V.int (if worthV ps w0 % 1001 - 1 > 0 then worthV ps w0 % 1001 - 1 else 0)), _, _, _, _, _] = _
            rw [if_pos hz, hn0, show (n0 : Int) - 1 = ((n0 - 1 : Nat) : Int) by omega], rfl⟩
        · exact ⟨0, by omega, by
            show [_, _, _, _, some (V.int (if worthV ps w0 % 1001 - 1 > 0 then worthV ps w0 % 1001 - 1 else 0)), _, _, _, _, _] = _
            rw [if_neg hz]
            rfl, rfl⟩
      · exact ⟨n0, by omega, by rw [← hn0]; rfl, rfl⟩
    rintro σ' H' ⟨n1, hn1, rfl, rfl⟩
    refine ⟨fun σ' H4 => ∃ n : Nat, n ≤ 1000 ∧ σ' = [some (.ref a), some (.ref t), some (.ref W), some (.int (cell ns 3)), some (.int (n : Int)), none, none, none, none, none] ∧ H4 = H', ?_, ?_⟩
    · repeat (first | refine ⟨_, rfl, ?_⟩ | refine ⟨(by show (0 : Int) < _; decide), ?_⟩ | refine ⟨⟨by decide, by decide⟩, ?_⟩ | refine ⟨.inr ⟨by decide, by decide⟩, ?_⟩ | refine ⟨.inl ⟨by decide, by decide⟩, ?_⟩ | refine ⟨⟨by decide, by decide, by decide⟩, ?_⟩ | refine ⟨_, _, rfl, rfl, ?_⟩ | refine ⟨rfl, _, rfl, ?_⟩)
      first | refine iteVI (fun e => ?_) (fun e => ?_) | refine iteVN (fun e => ?_) (fun e => ?_) | refine iteD (fun e => ?_) (fun e => ?_) | refine iteDN (fun e => ?_) (fun e => ?_) | refine iteB (fun e => ?_) (fun e => ?_)
      · repeat (first | refine ⟨_, rfl, ?_⟩ | refine ⟨(by show (0 : Int) < _; decide), ?_⟩ | refine ⟨⟨by decide, by decide⟩, ?_⟩ | refine ⟨.inr ⟨by decide, by decide⟩, ?_⟩ | refine ⟨.inl ⟨by decide, by decide⟩, ?_⟩ | refine ⟨⟨by decide, by decide, by decide⟩, ?_⟩ | refine ⟨_, _, rfl, rfl, ?_⟩ | refine ⟨rfl, _, rfl, ?_⟩)
        have w1 : 0 ≤ cell ns 3 / 4 % 41 := Int.emod_nonneg _ (by decide)
        have w2 : cell ns 3 / 4 % 41 < 41 := Int.emod_lt_of_pos _ (by decide)
        exact ⟨(cell ns 3 / 4 % 41).toNat, by omega, by rw [Int.toNat_of_nonneg w1]; rfl, rfl⟩
      · exact ⟨n1, hn1, rfl, rfl⟩
    rintro σ' H4 ⟨n, hn, rfl, rfl⟩
    -- what the table's way is among all
    have some_of : ∀ w ∈ vs, worthV ps w = (n : Int) → ∃ m, rAt (lastRow (row0 n) ps) n = some m ∧ m ≤ (w.sum : Int) := fun w hw hwn => by
      have := way_some (n := n) (ps := ps) (fun p hp => (hfit p hp).1) (k := ps.length) (d := n) (w := w) (Nat.le_refl _) (Nat.lt_succ_self n) (by rw [hvs]; exact hw) (by rw [List.take_length]; exact hwn)
      rw [List.take_length] at this
      exact this
    generalize hG : gvec (row0 n) ps ps.length n = G
    have best_of : ∀ m, rAt (lastRow (row0 n) ps) n = some m → G ∈ vs ∧ worthV ps G = (n : Int) ∧ ∀ w ∈ vs, worthV ps w = (n : Int) → w ≠ G → betterF G w = true ∧ betterF w G = false := fun m hm => by
      obtain ⟨g1, g2, g3, g4⟩ := gvec_best (n := n) (ps := ps) (fun p hp => (hfit p hp).1) (k := ps.length) (d := n) (m := m) (Nat.le_refl _) (Nat.lt_succ_self n) (by rw [List.take_length]; exact hm)
      rw [List.take_length] at g2 g4
      rw [hG] at g1 g2 g3 g4
      rw [hvs] at g1 g4
      refine ⟨g1, g2, fun w hw hwn hne => ?_⟩
      obtain ⟨m', hm', hle⟩ := some_of w hw hwn
      rw [hm] at hm'
      cases hm'
      unfold betterF
      by_cases e : G.sum = w.sum
      · rw [if_pos e, if_pos e.symm]
        exact g4 w hw hwn hne (by omega)
      · rw [if_neg e, if_neg (Ne.symm e)]
        exact ⟨decide_eq_true (by omega), decide_eq_false (by omega)⟩
    have eW4 := e3 _ _ eW
    have hws4 := hws.ex e3
    have hT4 := hT2.ex e3
    refine ⟨_, rfl, W, rfl, ⟨_, .of eW4⟩, for_list (xs := as.map V.ref) (fun i σ H' => ∃ (b : V) (y6 : Option V), σ = [some (.ref a), some (.ref t), some (.ref W), some (.int (cell ns 3)), some (.int (n : Int)), some b, y6, none, none, none] ∧ Ex H4 H' ∧
        ((b = .non ∧ ∀ w ∈ vs.take i, worthV ps w ≠ (n : Int)) ∨ ∃ x wv, b = .ref x ∧ H' x = some (.lst (wv.map natV)) ∧ wv ∈ vs ∧ worthV ps wv = (n : Int) ∧ (G ∈ vs.take i → wv = G)))
      ⟨.non, _, rfl, Ex.rfl', .inl ⟨rfl, by simp⟩⟩ (fun i σ H' _ h => by
        obtain ⟨_, _, _, e, _⟩ := h
        exact .of (e _ _ eW4)) ?_ ?_⟩
    · rintro i x σ H5 hx ⟨b, y6, rfl, ex5, hb⟩
      rw [List.getElem?_map] at hx
      obtain ⟨xa, hxa, rfl⟩ := Option.map_eq_some_iff.mp hx
      obtain ⟨wi, hwi, ewi⟩ := hws4.getA hxa
      have hwm := List.mem_of_getElem? hwi
      have htk := take_snoc hwi
      refine ⟨_, rfl, _, rfl, t, xa, ps, wi, rfl, hT4.ex ex5, ex5 _ _ ewi, (hlen _ hwm).symm, hfit2, fun H6 e6 => ?_⟩
      have ex6 := ex5.tr e6
      have ewi6 := ex6 _ _ ewi
      refine ⟨_, rfl, rfl, _, rfl, iteVI (fun hv => ?_) (fun hv => ?_)⟩
      · rcases hb with ⟨rfl, hno⟩ | ⟨xb, wb, rfl, eb, hwb, hwbn, hGb⟩
        · refine ⟨_, rfl, rfl, _, rfl, iteD (fun _ => iteT ?_) (fun z => absurd rfl z)⟩
          refine ⟨_, rfl, _, _, rfl, ex6, .inr ⟨xa, wi, rfl, ewi6, hwm, hv, fun hGi => ?_⟩⟩
          rw [htk] at hGi
          rcases List.mem_append.mp hGi with h | h
          · obtain ⟨m, hm, _⟩ := some_of wi hwm hv
            exact absurd (best_of m hm).2.1 (hno G h)
          · exact (List.mem_singleton.mp h).symm
        · have hne : ¬ V.ref xb = V.non := fun z => nomatch z
          have eb6 := e6 _ _ eb
          obtain ⟨m, hm, _⟩ := some_of wi hwm hv
          obtain ⟨b1, b2, b3⟩ := best_of m hm
          refine ⟨_, rfl, rfl, _, rfl, iteD (fun z => absurd z hne) (fun _ => ?_)⟩
          refine ⟨_, rfl, _, rfl, xa, xb, wi, wb, rfl, ewi6, eb6, by rw [hlen _ hwm, hlen _ hwb], by rw [hlen _ hwm]; omega, _, rfl, iteB (fun y => ?_) (fun y => ?_)⟩
          · refine ⟨_, rfl, _, _, rfl, ex6, .inr ⟨xa, wi, rfl, ewi6, hwm, hv, fun hGi => ?_⟩⟩
            rw [htk] at hGi
            by_cases e : wi = G
            · exact e
            · rcases List.mem_append.mp hGi with h | h
              · rw [hGb h, (b3 wi hwm hv e).2] at y
                cases y
              · exact absurd (List.mem_singleton.mp h).symm e
          · refine ⟨_, _, rfl, ex6, .inr ⟨xb, wb, rfl, eb6, hwb, hwbn, fun hGi => ?_⟩⟩
            rw [htk] at hGi
            rcases List.mem_append.mp hGi with h | h
            · exact hGb h
            · by_cases e : wb = G
              · exact e
              · rw [← List.mem_singleton.mp h, (b3 wb hwb hwbn e).1] at y
                cases y
      · refine iteF ⟨_, _, rfl, ex6, ?_⟩
        rcases hb with ⟨rfl, hno⟩ | ⟨xb, wb, rfl, eb, hwb, hwbn, hGb⟩
        · refine .inl ⟨rfl, fun w hw => ?_⟩
          rw [htk] at hw
          rcases List.mem_append.mp hw with h | h
          · exact hno w h
          · rw [List.mem_singleton.mp h]
            exact hv
        · refine .inr ⟨xb, wb, rfl, e6 _ _ eb, hwb, hwbn, fun hGi => ?_⟩
          rw [htk] at hGi
          rcases List.mem_append.mp hGi with h | h
          · exact hGb h
          · obtain ⟨m, hm, _⟩ := some_of wb hwb hwbn
            have := (best_of m hm).2.1
            rw [List.mem_singleton.mp h] at this
            exact absurd this hv
    · rintro σ H5 ⟨b, y6, rfl, ex5, hb⟩
      rw [List.take_of_length_le (by rw [List.length_map, hal]; exact Nat.le_refl _)] at hb
      have hT5 := hT4.ex ex5
      refine ⟨_, rfl, _, rfl, t, ps, n, rfl, hT5, by omega, hfit, hn, fun hc H6 e6 => ?_, fun hc p8 xs8 H6 e6 hp8 ep8 hpr8 => ?_⟩
      · rcases hb with ⟨rfl, hno⟩ | ⟨xb, wb, rfl, eb, hwb, hwbn, hGb⟩
        · refine ⟨_, rfl, rfl, _, rfl, iteD (fun _ => ?_) (fun z => absurd rfl z)⟩
          refine ⟨_, rfl, rfl, ?_⟩
          rw [decide_eq_true rfl]
          exact q _
        · obtain ⟨m, hm, _⟩ := some_of wb hwb hwbn
          rw [hc] at hm
          cases hm
      · obtain ⟨m, hm⟩ := Option.ne_none_iff_exists'.mp hc
        obtain ⟨g1, g2, g3⟩ := best_of m hm
        rcases hb with ⟨rfl, hno⟩ | ⟨xb, wb, rfl, eb, hwb, hwbn, hGb⟩
        · exact absurd g2 (hno G g1)
        · obtain rfl := hGb g1
          have hne : ¬ V.ref xb = V.non := fun z => nomatch z
          have hT6 := hT5.ex e6
          have eb6 := e6 _ _ eb
          obtain ⟨ts6, hS6, hp6⟩ := hT6
          have hl6 := hp6.len
          have hwbl := hlen _ hwb
          refine ⟨_, rfl, rfl, _, rfl, iteD (fun z => absurd z hne) (fun _ => ?_)⟩
          refine ⟨_, rfl, _, rfl, _, rfl, t, xb, ts6, _, rfl, hS6, .of eb6, fun D hD => ?_⟩
          refine lc_zip (zs := ts6) (ys := wb.map natV) (by rw [List.length_map, hl6, hwbl]) (fun i H' => ∃ acc, Ex H6 H' ∧ H' D = some (.lst acc) ∧ Prs H' acc (pairUp (ps.take i) (wb.take i)) ∧ acc.length ≤ i) ⟨[], Ex.nw hD, upd_same, .nil, Nat.le_refl _⟩ (fun i H' _ h => by
            obtain ⟨_, e, _⟩ := h
            exact ⟨e.seq hS6, .of (e _ _ eb6)⟩) ?_ ?_
          · rintro i x y T5 H7 hx hy ⟨acc, ex7, eD, hacc, hal7⟩ hT7
            obtain ⟨p, t2, h1, rfl, h3⟩ := Prs.get hp6 hx
            rw [List.getElem?_map] at hy
            obtain ⟨j, hj, rfl⟩ := Option.map_eq_some_iff.mp hy
            have hi : i < ps.length := (List.getElem?_eq_some_iff.mp h1).1
            have e8 := ex7.tr (Ex.nw (o := .tup [.ref t2, natV j]) hT7)
            have nDT : D ≠ T5 := ne_of_none eD hT7
            have hps := pairUp_snoc (ps := ps.take i) (w := wb.take i) (p := p) (j := j) (by rw [List.length_take, List.length_take]; omega)
            rw [← take_snoc h1, ← take_snoc hj] at hps
            refine ⟨T5, _, rfl, .of upd_same, rfl, _, _, rfl, _, _, rfl, rfl, rfl, ?_⟩
            refine ⟨_, rfl, _, _, rfl, rfl, _, rfl, iteD (fun z => ?_) (fun z => ?_)⟩
            · have z' : 0 < j := by
                have z'' : (0 : Int) < (j : Int) := z
                omega
              rw [if_pos z'] at hps
              refine ⟨_, rfl, t2, _, 0, .int p.1, rfl, rfl, .of (e8 _ _ h3), rfl, _, rfl, len63 (by show 2 ≤ _; decide), fun t9 ht9 => ?_⟩
              have eD8 : (upd H7 T5 (.tup [.ref t2, natV j])) D = some (.lst acc) := by rw [upd_ne nDT]; exact eD
              have nD9 : D ≠ t9 := ne_of_none eD8 ht9
              refine ⟨acc, by rw [upd_ne nD9]; exact eD8, len63' (by omega), acc ++ [.ref t9], Ex.mu (e8.tr (Ex.nw ht9)) hD, upd_same, ?_, by rw [List.length_append]; show _ + 1 ≤ _; omega⟩
              rw [hps]
              refine Prs.up (by intro bs e; rw [upd_ne nD9, eD8] at e; cases e) ?_
              exact Prs.snoc ((hacc.ex (Ex.nw hT7)).ex (Ex.nw ht9)) ⟨t9, rfl, upd_same⟩
            · have z' : ¬ 0 < j := fun h => z (by show (0 : Int) < (j : Int); omega)
              rw [if_neg z', List.append_nil] at hps
              exact ⟨acc, e8, by rw [upd_ne nDT]; exact eD, by rw [hps]; exact hacc.ex (Ex.nw hT7), by omega⟩
          · rintro H7 ⟨acc, ex7, eD, hacc, hal7⟩
            rw [List.take_of_length_le (by omega), List.take_of_length_le (by omega)] at hacc
            have hgg := gvec_given (row0 n) ps ps.length n (Nat.le_refl _)
            rw [List.take_length, hG] at hgg
            rw [hgg] at hacc
            exact ⟨p8, D, xs8, _, rfl, ex7 _ _ ep8, hpr8.ex ex7, ⟨acc, .of eD, hacc⟩, q _⟩
theorem law_start {K : PySem.W.Frag} {H : Hp} {a : Addr} {ns : List Int} (hl : ns.length ≤ 63) (hO : Only H) (hS : SqL K H a (ns.map V.int)) : spLaw K [.ref a] H (fun v _ => v = .bl true) fun _ _ _ => False :=
  ⟨a, ns, rfl, hS, fun _ => rfl⟩
end
theorem tx_mk {K : PySem.W.Frag} {h : Heap} {mg : Str → Option Value} (X : K.In h) (G : h.Ns mainGlobals mg) {c_TillError : Addr} {c_NoSum : Addr} {c_NoChange : Addr} {a_check_sum : Addr} {od_0 an_0 : Option Addr} {sl_0 : Array (Option Value)} {oc_0 kV_0 dc_0 pm_0 cd_0 ct_0 : Value} {a_table : Addr} {od_1 an_1 : Option Addr} {sl_1 : Array (Option Value)} {oc_1 kV_1 dc_1 pm_1 cd_1 ct_1 : Value} {a_fewest : Addr} {od_2 an_2 : Option Addr} {sl_2 : Array (Option Value)} {oc_2 kV_2 dc_2 pm_2 cd_2 ct_2 : Value} {a_with_kind : Addr} {od_3 an_3 : Option Addr} {sl_3 : Array (Option Value)} {oc_3 kV_3 dc_3 pm_3 cd_3 ct_3 : Value} {a__bundles : Addr} {od_4 an_4 : Option Addr} {sl_4 : Array (Option Value)} {oc_4 kV_4 dc_4 pm_4 cd_4 ct_4 : Value} {a__with_bundle : Addr} {od_5 an_5 : Option Addr} {sl_5 : Array (Option Value)} {oc_5 kV_5 dc_5 pm_5 cd_5 ct_5 : Value} {a__most_given : Addr} {od_6 an_6 : Option Addr} {sl_6 : Array (Option Value)} {oc_6 kV_6 dc_6 pm_6 cd_6 ct_6 : Value} {a__law_cell_at : Addr} {od_7 an_7 : Option Addr} {sl_7 : Array (Option Value)} {oc_7 kV_7 dc_7 pm_7 cd_7 ct_7 : Value} {a__law_whole : Addr} {od_8 an_8 : Option Addr} {sl_8 : Array (Option Value)} {oc_8 kV_8 dc_8 pm_8 cd_8 ct_8 : Value} {a__law_mixed : Addr} {od_9 an_9 : Option Addr} {sl_9 : Array (Option Value)} {oc_9 kV_9 dc_9 pm_9 cd_9 ct_9 : Value} {a__law_alike : Addr} {od_10 an_10 : Option Addr} {sl_10 : Array (Option Value)} {oc_10 kV_10 dc_10 pm_10 cd_10 ct_10 : Value} {a__law_value : Addr} {od_11 an_11 : Option Addr} {sl_11 : Array (Option Value)} {oc_11 kV_11 dc_11 pm_11 cd_11 ct_11 : Value} {a__law_small : Addr} {od_12 an_12 : Option Addr} {sl_12 : Array (Option Value)} {oc_12 kV_12 dc_12 pm_12 cd_12 ct_12 : Value} {a__law_ways : Addr} {od_13 an_13 : Option Addr} {sl_13 : Array (Option Value)} {oc_13 kV_13 dc_13 pm_13 cd_13 ct_13 : Value} {a__law_worth : Addr} {od_14 an_14 : Option Addr} {sl_14 : Array (Option Value)} {oc_14 kV_14 dc_14 pm_14 cd_14 ct_14 : Value} {a__law_better : Addr} {od_15 an_15 : Option Addr} {sl_15 : Array (Option Value)} {oc_15 kV_15 dc_15 pm_15 cd_15 ct_15 : Value} {a__law_tried : Addr} {od_16 an_16 : Option Addr} {sl_16 : Array (Option Value)} {oc_16 kV_16 dc_16 pm_16 cd_16 ct_16 : Value} {a_law : Addr} {od_17 an_17 : Option Addr} {sl_17 : Array (Option Value)} {oc_17 kV_17 dc_17 pm_17 cd_17 ct_17 : Value} {tk_MOST_SUM : Tok}
    (g_TillError : PySem.W.nsIn K mainGlobals "TillError" = some (some (.ref c_TillError)))
    (x_TillError : PySem.W.excIn K c_TillError [.type "ValueError", .type "Exception", .type "BaseException", .type "object"] "ValueError.__new__" = true)
    (k_TillError : PySem.W.keepIn K (.ref c_TillError) = true)
    (b_TillError : PySem.W.subIn K (.ref c_TillError) (.type "BaseException") = some true)
    (t_TillError : PySem.W.typeIn K (.ref c_TillError) = some (.type "type"))
    (i_TillError : PySem.W.isClsIn K c_TillError = true)
    (g_NoSum : PySem.W.nsIn K mainGlobals "NoSum" = some (some (.ref c_NoSum)))
    (x_NoSum : PySem.W.excIn K c_NoSum [.type "ValueError", .type "Exception", .type "BaseException", .type "object"] "ValueError.__new__" = true)
    (k_NoSum : PySem.W.keepIn K (.ref c_NoSum) = true)
    (b_NoSum : PySem.W.subIn K (.ref c_NoSum) (.type "BaseException") = some true)
    (t_NoSum : PySem.W.typeIn K (.ref c_NoSum) = some (.type "type"))
    (i_NoSum : PySem.W.isClsIn K c_NoSum = true)
    (g_NoChange : PySem.W.nsIn K mainGlobals "NoChange" = some (some (.ref c_NoChange)))
    (x_NoChange : PySem.W.excIn K c_NoChange [.type "ValueError", .type "Exception", .type "BaseException", .type "object"] "ValueError.__new__" = true)
    (k_NoChange : PySem.W.keepIn K (.ref c_NoChange) = true)
    (b_NoChange : PySem.W.subIn K (.ref c_NoChange) (.type "BaseException") = some true)
    (t_NoChange : PySem.W.typeIn K (.ref c_NoChange) = some (.type "type"))
    (i_NoChange : PySem.W.isClsIn K c_NoChange = true)
    (u_NoSum_NoChange : PySem.W.subIn K (.ref c_NoSum) (.ref c_NoChange) = some false)
    (u_NoChange_NoChange : PySem.W.subIn K (.ref c_NoChange) (.ref c_NoChange) = some true)
    (g_check_sum : PySem.W.nsIn K mainGlobals "check_sum" = some (some (.ref a_check_sum)))
    (l_check_sum : K.lookup a_check_sum = some ⟨oc_0, od_0, .func (PySem.W.fnOf "check_sum" "check_sum" (defArgs s_check_sum) (defBody s_check_sum) (defScope s_check_sum) .none kV_0 dc_0 pm_0 an_0 cd_0 ct_0), sl_0⟩)
    (o_check_sum : PySem.W.codeIn K cd_0 "check_sum" = true)
    (k_check_sum : PySem.W.keepIn K (.ref a_check_sum) = true)
    (g_table : PySem.W.nsIn K mainGlobals "table" = some (some (.ref a_table)))
    (l_table : K.lookup a_table = some ⟨oc_1, od_1, .func (PySem.W.fnOf "table" "table" (defArgs s_table) (defBody s_table) (defScope s_table) .none kV_1 dc_1 pm_1 an_1 cd_1 ct_1), sl_1⟩)
    (o_table : PySem.W.codeIn K cd_1 "table" = true)
    (k_table : PySem.W.keepIn K (.ref a_table) = true)
    (g_fewest : PySem.W.nsIn K mainGlobals "fewest" = some (some (.ref a_fewest)))
    (l_fewest : K.lookup a_fewest = some ⟨oc_2, od_2, .func (PySem.W.fnOf "fewest" "fewest" (defArgs s_fewest) (defBody s_fewest) (defScope s_fewest) .none kV_2 dc_2 pm_2 an_2 cd_2 ct_2), sl_2⟩)
    (o_fewest : PySem.W.codeIn K cd_2 "fewest" = true)
    (k_fewest : PySem.W.keepIn K (.ref a_fewest) = true)
    (g_with_kind : PySem.W.nsIn K mainGlobals "with_kind" = some (some (.ref a_with_kind)))
    (l_with_kind : K.lookup a_with_kind = some ⟨oc_3, od_3, .func (PySem.W.fnOf "with_kind" "with_kind" (defArgs s_with_kind) (defBody s_with_kind) (defScope s_with_kind) .none kV_3 dc_3 pm_3 an_3 cd_3 ct_3), sl_3⟩)
    (o_with_kind : PySem.W.codeIn K cd_3 "with_kind" = true)
    (k_with_kind : PySem.W.keepIn K (.ref a_with_kind) = true)
    (g__bundles : PySem.W.nsIn K mainGlobals "_bundles" = some (some (.ref a__bundles)))
    (l__bundles : K.lookup a__bundles = some ⟨oc_4, od_4, .func (PySem.W.fnOf "_bundles" "_bundles" (defArgs s__bundles) (defBody s__bundles) (defScope s__bundles) .none kV_4 dc_4 pm_4 an_4 cd_4 ct_4), sl_4⟩)
    (o__bundles : PySem.W.codeIn K cd_4 "_bundles" = true)
    (k__bundles : PySem.W.keepIn K (.ref a__bundles) = true)
    (g__with_bundle : PySem.W.nsIn K mainGlobals "_with_bundle" = some (some (.ref a__with_bundle)))
    (l__with_bundle : K.lookup a__with_bundle = some ⟨oc_5, od_5, .func (PySem.W.fnOf "_with_bundle" "_with_bundle" (defArgs s__with_bundle) (defBody s__with_bundle) (defScope s__with_bundle) .none kV_5 dc_5 pm_5 an_5 cd_5 ct_5), sl_5⟩)
    (o__with_bundle : PySem.W.codeIn K cd_5 "_with_bundle" = true)
    (k__with_bundle : PySem.W.keepIn K (.ref a__with_bundle) = true)
    (g__most_given : PySem.W.nsIn K mainGlobals "_most_given" = some (some (.ref a__most_given)))
    (l__most_given : K.lookup a__most_given = some ⟨oc_6, od_6, .func (PySem.W.fnOf "_most_given" "_most_given" (defArgs s__most_given) (defBody s__most_given) (defScope s__most_given) .none kV_6 dc_6 pm_6 an_6 cd_6 ct_6), sl_6⟩)
    (o__most_given : PySem.W.codeIn K cd_6 "_most_given" = true)
    (k__most_given : PySem.W.keepIn K (.ref a__most_given) = true)
    (g__law_cell_at : PySem.W.nsIn K mainGlobals "_law_cell_at" = some (some (.ref a__law_cell_at)))
    (l__law_cell_at : K.lookup a__law_cell_at = some ⟨oc_7, od_7, .func (PySem.W.fnOf "_law_cell_at" "_law_cell_at" (defArgs s__law_cell_at) (defBody s__law_cell_at) (defScope s__law_cell_at) .none kV_7 dc_7 pm_7 an_7 cd_7 ct_7), sl_7⟩)
    (o__law_cell_at : PySem.W.codeIn K cd_7 "_law_cell_at" = true)
    (k__law_cell_at : PySem.W.keepIn K (.ref a__law_cell_at) = true)
    (g__law_whole : PySem.W.nsIn K mainGlobals "_law_whole" = some (some (.ref a__law_whole)))
    (l__law_whole : K.lookup a__law_whole = some ⟨oc_8, od_8, .func (PySem.W.fnOf "_law_whole" "_law_whole" (defArgs s__law_whole) (defBody s__law_whole) (defScope s__law_whole) .none kV_8 dc_8 pm_8 an_8 cd_8 ct_8), sl_8⟩)
    (o__law_whole : PySem.W.codeIn K cd_8 "_law_whole" = true)
    (k__law_whole : PySem.W.keepIn K (.ref a__law_whole) = true)
    (g__law_mixed : PySem.W.nsIn K mainGlobals "_law_mixed" = some (some (.ref a__law_mixed)))
    (l__law_mixed : K.lookup a__law_mixed = some ⟨oc_9, od_9, .func (PySem.W.fnOf "_law_mixed" "_law_mixed" (defArgs s__law_mixed) (defBody s__law_mixed) (defScope s__law_mixed) .none kV_9 dc_9 pm_9 an_9 cd_9 ct_9), sl_9⟩)
    (o__law_mixed : PySem.W.codeIn K cd_9 "_law_mixed" = true)
    (k__law_mixed : PySem.W.keepIn K (.ref a__law_mixed) = true)
    (g__law_alike : PySem.W.nsIn K mainGlobals "_law_alike" = some (some (.ref a__law_alike)))
    (l__law_alike : K.lookup a__law_alike = some ⟨oc_10, od_10, .func (PySem.W.fnOf "_law_alike" "_law_alike" (defArgs s__law_alike) (defBody s__law_alike) (defScope s__law_alike) .none kV_10 dc_10 pm_10 an_10 cd_10 ct_10), sl_10⟩)
    (o__law_alike : PySem.W.codeIn K cd_10 "_law_alike" = true)
    (k__law_alike : PySem.W.keepIn K (.ref a__law_alike) = true)
    (g__law_value : PySem.W.nsIn K mainGlobals "_law_value" = some (some (.ref a__law_value)))
    (l__law_value : K.lookup a__law_value = some ⟨oc_11, od_11, .func (PySem.W.fnOf "_law_value" "_law_value" (defArgs s__law_value) (defBody s__law_value) (defScope s__law_value) .none kV_11 dc_11 pm_11 an_11 cd_11 ct_11), sl_11⟩)
    (o__law_value : PySem.W.codeIn K cd_11 "_law_value" = true)
    (k__law_value : PySem.W.keepIn K (.ref a__law_value) = true)
    (g__law_small : PySem.W.nsIn K mainGlobals "_law_small" = some (some (.ref a__law_small)))
    (l__law_small : K.lookup a__law_small = some ⟨oc_12, od_12, .func (PySem.W.fnOf "_law_small" "_law_small" (defArgs s__law_small) (defBody s__law_small) (defScope s__law_small) .none kV_12 dc_12 pm_12 an_12 cd_12 ct_12), sl_12⟩)
    (o__law_small : PySem.W.codeIn K cd_12 "_law_small" = true)
    (k__law_small : PySem.W.keepIn K (.ref a__law_small) = true)
    (g__law_ways : PySem.W.nsIn K mainGlobals "_law_ways" = some (some (.ref a__law_ways)))
    (l__law_ways : K.lookup a__law_ways = some ⟨oc_13, od_13, .func (PySem.W.fnOf "_law_ways" "_law_ways" (defArgs s__law_ways) (defBody s__law_ways) (defScope s__law_ways) .none kV_13 dc_13 pm_13 an_13 cd_13 ct_13), sl_13⟩)
    (o__law_ways : PySem.W.codeIn K cd_13 "_law_ways" = true)
    (k__law_ways : PySem.W.keepIn K (.ref a__law_ways) = true)
    (g__law_worth : PySem.W.nsIn K mainGlobals "_law_worth" = some (some (.ref a__law_worth)))
    (l__law_worth : K.lookup a__law_worth = some ⟨oc_14, od_14, .func (PySem.W.fnOf "_law_worth" "_law_worth" (defArgs s__law_worth) (defBody s__law_worth) (defScope s__law_worth) .none kV_14 dc_14 pm_14 an_14 cd_14 ct_14), sl_14⟩)
    (o__law_worth : PySem.W.codeIn K cd_14 "_law_worth" = true)
    (k__law_worth : PySem.W.keepIn K (.ref a__law_worth) = true)
    (g__law_better : PySem.W.nsIn K mainGlobals "_law_better" = some (some (.ref a__law_better)))
    (l__law_better : K.lookup a__law_better = some ⟨oc_15, od_15, .func (PySem.W.fnOf "_law_better" "_law_better" (defArgs s__law_better) (defBody s__law_better) (defScope s__law_better) .none kV_15 dc_15 pm_15 an_15 cd_15 ct_15), sl_15⟩)
    (o__law_better : PySem.W.codeIn K cd_15 "_law_better" = true)
    (k__law_better : PySem.W.keepIn K (.ref a__law_better) = true)
    (g__law_tried : PySem.W.nsIn K mainGlobals "_law_tried" = some (some (.ref a__law_tried)))
    (l__law_tried : K.lookup a__law_tried = some ⟨oc_16, od_16, .func (PySem.W.fnOf "_law_tried" "_law_tried" (defArgs s__law_tried) (defBody s__law_tried) (defScope s__law_tried) .none kV_16 dc_16 pm_16 an_16 cd_16 ct_16), sl_16⟩)
    (o__law_tried : PySem.W.codeIn K cd_16 "_law_tried" = true)
    (k__law_tried : PySem.W.keepIn K (.ref a__law_tried) = true)
    (g_law : PySem.W.nsIn K mainGlobals "law" = some (some (.ref a_law)))
    (l_law : K.lookup a_law = some ⟨oc_17, od_17, .func (PySem.W.fnOf "law" "law" (defArgs s_law) (defBody s_law) (defScope s_law) .none kV_17 dc_17 pm_17 an_17 cd_17 ct_17), sl_17⟩)
    (o_law : PySem.W.codeIn K cd_17 "law" = true)
    (k_law : PySem.W.keepIn K (.ref a_law) = true)
    (w_MOST_SUM : PySem.W.nsIn K mainGlobals "MOST_SUM" = some (some (.int 1000 tk_MOST_SUM)))
    (m_bool : PySem.W.nsIn K mainGlobals "bool" = some none)
    (m_int : PySem.W.nsIn K mainGlobals "int" = some none)
    (m_isinstance : PySem.W.nsIn K mainGlobals "isinstance" = some none)
    (m_len : PySem.W.nsIn K mainGlobals "len" = some none)
    (m_list : PySem.W.nsIn K mainGlobals "list" = some none)
    (m_max : PySem.W.nsIn K mainGlobals "max" = some none)
    (m_min : PySem.W.nsIn K mainGlobals "min" = some none)
    (m_range : PySem.W.nsIn K mainGlobals "range" = some none)
    (m_reversed : PySem.W.nsIn K mainGlobals "reversed" = some none)
    (m_sorted : PySem.W.nsIn K mainGlobals "sorted" = some none)
    (m_sum : PySem.W.nsIn K mainGlobals "sum" = some none)
    (m_tuple : PySem.W.nsIn K mainGlobals "tuple" = some none)
    (m_zip : PySem.W.nsIn K mainGlobals "zip" = some none)
    : ∃ T : Tx K mg, T.a_law = a_law ∧ (∀ (s : Shared) (v : Value), BindsTo s T.d_law ⟨[v], []⟩ [("_law_script", v)]) := by
  have F_check_sum := fun_mk (st := s_check_sum) l_check_sum o_check_sum k_check_sum
  have B_check_sum := F_check_sum.binds (ps := P_check_sum) fun _ _ _ _ _ _ us hl => match us, hl with | [_], _ => rfl
  have F_table := fun_mk (st := s_table) l_table o_table k_table
  have B_table := F_table.binds (ps := P_table) fun _ _ _ _ _ _ us hl => match us, hl with | [_, _], _ => rfl
  have F_fewest := fun_mk (st := s_fewest) l_fewest o_fewest k_fewest
  have B_fewest := F_fewest.binds (ps := P_fewest) fun _ _ _ _ _ _ us hl => match us, hl with | [_, _], _ => rfl
  have F_with_kind := fun_mk (st := s_with_kind) l_with_kind o_with_kind k_with_kind
  have B_with_kind := F_with_kind.binds (ps := P_with_kind) fun _ _ _ _ _ _ us hl => match us, hl with | [_, _, _], _ => rfl
  have F__bundles := fun_mk (st := s__bundles) l__bundles o__bundles k__bundles
  have B__bundles := F__bundles.binds (ps := P__bundles) fun _ _ _ _ _ _ us hl => match us, hl with | [_], _ => rfl
  have F__with_bundle := fun_mk (st := s__with_bundle) l__with_bundle o__with_bundle k__with_bundle
  have B__with_bundle := F__with_bundle.binds (ps := P__with_bundle) fun _ _ _ _ _ _ us hl => match us, hl with | [_, _, _], _ => rfl
  have F__most_given := fun_mk (st := s__most_given) l__most_given o__most_given k__most_given
  have B__most_given := F__most_given.binds (ps := P__most_given) fun _ _ _ _ _ _ us hl => match us, hl with | [_, _, _, _, _], _ => rfl
  have F__law_cell_at := fun_mk (st := s__law_cell_at) l__law_cell_at o__law_cell_at k__law_cell_at
  have B__law_cell_at := F__law_cell_at.binds (ps := P__law_cell_at) fun _ _ _ _ _ _ us hl => match us, hl with | [_, _], _ => rfl
  have F__law_whole := fun_mk (st := s__law_whole) l__law_whole o__law_whole k__law_whole
  have B__law_whole := F__law_whole.binds (ps := P__law_whole) fun _ _ _ _ _ _ us hl => match us, hl with | [_], _ => rfl
  have F__law_mixed := fun_mk (st := s__law_mixed) l__law_mixed o__law_mixed k__law_mixed
  have B__law_mixed := F__law_mixed.binds (ps := P__law_mixed) fun _ _ _ _ _ _ us hl => match us, hl with | [_, _], _ => rfl
  have F__law_alike := fun_mk (st := s__law_alike) l__law_alike o__law_alike k__law_alike
  have B__law_alike := F__law_alike.binds (ps := P__law_alike) fun _ _ _ _ _ _ us hl => match us, hl with | [_, _], _ => rfl
  have F__law_value := fun_mk (st := s__law_value) l__law_value o__law_value k__law_value
  have B__law_value := F__law_value.binds (ps := P__law_value) fun _ _ _ _ _ _ us hl => match us, hl with | [_, _], _ => rfl
  have F__law_small := fun_mk (st := s__law_small) l__law_small o__law_small k__law_small
  have B__law_small := F__law_small.binds (ps := P__law_small) fun _ _ _ _ _ _ us hl => match us, hl with | [_], _ => rfl
  have F__law_ways := fun_mk (st := s__law_ways) l__law_ways o__law_ways k__law_ways
  have B__law_ways := F__law_ways.binds (ps := P__law_ways) fun _ _ _ _ _ _ us hl => match us, hl with | [_], _ => rfl
  have F__law_worth := fun_mk (st := s__law_worth) l__law_worth o__law_worth k__law_worth
  have B__law_worth := F__law_worth.binds (ps := P__law_worth) fun _ _ _ _ _ _ us hl => match us, hl with | [_, _], _ => rfl
  have F__law_better := fun_mk (st := s__law_better) l__law_better o__law_better k__law_better
  have B__law_better := F__law_better.binds (ps := P__law_better) fun _ _ _ _ _ _ us hl => match us, hl with | [_, _], _ => rfl
  have F__law_tried := fun_mk (st := s__law_tried) l__law_tried o__law_tried k__law_tried
  have B__law_tried := F__law_tried.binds (ps := P__law_tried) fun _ _ _ _ _ _ us hl => match us, hl with | [_, _], _ => rfl
  have F_law := fun_mk (st := s_law) l_law o_law k_law
  have B_law := F_law.binds (ps := P_law) fun _ _ _ _ _ _ us hl => match us, hl with | [_], _ => rfl
  exact ⟨{
    c_TillError := c_TillError,
    c_NoSum := c_NoSum,
    c_NoChange := c_NoChange,
    a_check_sum := a_check_sum, d_check_sum := _,
    a_table := a_table, d_table := _,
    a_fewest := a_fewest, d_fewest := _,
    a_with_kind := a_with_kind, d_with_kind := _,
    a__bundles := a__bundles, d__bundles := _,
    a__with_bundle := a__with_bundle, d__with_bundle := _,
    a__most_given := a__most_given, d__most_given := _,
    a__law_cell_at := a__law_cell_at, d__law_cell_at := _,
    a__law_whole := a__law_whole, d__law_whole := _,
    a__law_mixed := a__law_mixed, d__law_mixed := _,
    a__law_alike := a__law_alike, d__law_alike := _,
    a__law_value := a__law_value, d__law_value := _,
    a__law_small := a__law_small, d__law_small := _,
    a__law_ways := a__law_ways, d__law_ways := _,
    a__law_worth := a__law_worth, d__law_worth := _,
    a__law_better := a__law_better, d__law_better := _,
    a__law_tried := a__law_tried, d__law_tried := _,
    a_law := a_law, d_law := _,
    g_TillError := PySem.W.mg_of X G g_TillError, x_TillError := x_TillError, k_TillError := k_TillError, b_TillError := b_TillError, t_TillError := t_TillError, i_TillError := i_TillError,
    g_NoSum := PySem.W.mg_of X G g_NoSum, x_NoSum := x_NoSum, k_NoSum := k_NoSum, b_NoSum := b_NoSum, t_NoSum := t_NoSum, i_NoSum := i_NoSum,
    g_NoChange := PySem.W.mg_of X G g_NoChange, x_NoChange := x_NoChange, k_NoChange := k_NoChange, b_NoChange := b_NoChange, t_NoChange := t_NoChange, i_NoChange := i_NoChange,
    u_NoSum_NoChange := u_NoSum_NoChange,
    u_NoChange_NoChange := u_NoChange_NoChange,
    f_check_sum := F_check_sum, p_check_sum := B_check_sum, g_check_sum := PySem.W.mg_of X G g_check_sum,
    f_table := F_table, p_table := B_table, g_table := PySem.W.mg_of X G g_table,
    f_fewest := F_fewest, p_fewest := B_fewest, g_fewest := PySem.W.mg_of X G g_fewest,
    f_with_kind := F_with_kind, p_with_kind := B_with_kind, g_with_kind := PySem.W.mg_of X G g_with_kind,
    f__bundles := F__bundles, p__bundles := B__bundles, g__bundles := PySem.W.mg_of X G g__bundles,
    f__with_bundle := F__with_bundle, p__with_bundle := B__with_bundle, g__with_bundle := PySem.W.mg_of X G g__with_bundle,
    f__most_given := F__most_given, p__most_given := B__most_given, g__most_given := PySem.W.mg_of X G g__most_given,
    f__law_cell_at := F__law_cell_at, p__law_cell_at := B__law_cell_at, g__law_cell_at := PySem.W.mg_of X G g__law_cell_at,
    f__law_whole := F__law_whole, p__law_whole := B__law_whole, g__law_whole := PySem.W.mg_of X G g__law_whole,
    f__law_mixed := F__law_mixed, p__law_mixed := B__law_mixed, g__law_mixed := PySem.W.mg_of X G g__law_mixed,
    f__law_alike := F__law_alike, p__law_alike := B__law_alike, g__law_alike := PySem.W.mg_of X G g__law_alike,
    f__law_value := F__law_value, p__law_value := B__law_value, g__law_value := PySem.W.mg_of X G g__law_value,
    f__law_small := F__law_small, p__law_small := B__law_small, g__law_small := PySem.W.mg_of X G g__law_small,
    f__law_ways := F__law_ways, p__law_ways := B__law_ways, g__law_ways := PySem.W.mg_of X G g__law_ways,
    f__law_worth := F__law_worth, p__law_worth := B__law_worth, g__law_worth := PySem.W.mg_of X G g__law_worth,
    f__law_better := F__law_better, p__law_better := B__law_better, g__law_better := PySem.W.mg_of X G g__law_better,
    f__law_tried := F__law_tried, p__law_tried := B__law_tried, g__law_tried := PySem.W.mg_of X G g__law_tried,
    f_law := F_law, p_law := B_law, g_law := PySem.W.mg_of X G g_law,
    w_MOST_SUM := ⟨_, PySem.W.mg_of X G w_MOST_SUM⟩,
    m_bool := PySem.W.mg_none_of X G m_bool,
    m_int := PySem.W.mg_none_of X G m_int,
    m_isinstance := PySem.W.mg_none_of X G m_isinstance,
    m_len := PySem.W.mg_none_of X G m_len,
    m_list := PySem.W.mg_none_of X G m_list,
    m_max := PySem.W.mg_none_of X G m_max,
    m_min := PySem.W.mg_none_of X G m_min,
    m_range := PySem.W.mg_none_of X G m_range,
    m_reversed := PySem.W.mg_none_of X G m_reversed,
    m_sorted := PySem.W.mg_none_of X G m_sorted,
    m_sum := PySem.W.mg_none_of X G m_sum,
    m_tuple := PySem.W.mg_none_of X G m_tuple,
    m_zip := PySem.W.mg_none_of X G m_zip }, rfl, fun s v => .of_eq rfl⟩

theorem fin {l : PySem.W.OpenLaw} {w : World} {K : PySem.W.Frag} {h : Heap} {mg : Str → Option Value} {fa a_law : Addr} (X : K.In h) (G : h.Ns mainGlobals mg) (hfa : mg "law" = some (.ref fa))
    (x : ∃ T : Tx K mg, T.a_law = a_law ∧ (∀ (s : Shared) (v : Value), BindsTo s T.d_law ⟨[v], []⟩ [("_law_script", v)])) :
    ∃ fd : FuncData, (∀ (s : Shared) (v : Value), BindsTo s fd ⟨[v], []⟩ [("_law_script", v)]) ∧ ∀ base : Heap, K.In base → base.Ns mainGlobals mg → FnOk l.prog w K mg base CX0 6 fa fd ["_law_script"] (spLaw K) := by
  obtain ⟨T, _, hb⟩ := x
  have e := hfa.symm.trans T.g_law
  cases e
  exact ⟨T.d_law, hb, fun base _ _ => ok_law T⟩

end K07
open PySem PySem.W PyProof.Rows
set_option maxRecDepth 100000 in
set_option maxHeartbeats 0 in
theorem PySem.Challenge.cw_tilldrawer_k07_every_way_holds : PySem.Challenge.rw_tilldrawer_k07_every_way.Holds := by
  w_on; o_law; k_head; (case hw => w_witness2)
  k_fill
  refine L2.walk_ofK (l := PySem.Challenge.rw_tilldrawer_k07_every_way) (n := 63) (k := 6) (x := "_law_script") (CX := L2.CX0) (sp := K07.spLaw) rfl (by decide) rfl ⟨rfl, by decide, by decide⟩ (fun w h Y => PySem.W.kIn_of Y) ?F (fun K H a ns hl hO hS => K07.law_start hl hO hS) (fun _ _ _ _ h => h)
  case F =>
    intro w mg fa h KX G hmg
    refine' K07.fin KX G hmg (K07.tx_mk KX G ?g_TillError ?x_TillError ?k_TillError ?b_TillError ?t_TillError ?i_TillError ?g_NoSum ?x_NoSum ?k_NoSum ?b_NoSum ?t_NoSum ?i_NoSum ?g_NoChange ?x_NoChange ?k_NoChange ?b_NoChange ?t_NoChange ?i_NoChange ?u_NoSum_NoChange ?u_NoChange_NoChange ?g_check_sum ?l_check_sum ?o_check_sum ?k_check_sum ?g_table ?l_table ?o_table ?k_table ?g_fewest ?l_fewest ?o_fewest ?k_fewest ?g_with_kind ?l_with_kind ?o_with_kind ?k_with_kind ?g__bundles ?l__bundles ?o__bundles ?k__bundles ?g__with_bundle ?l__with_bundle ?o__with_bundle ?k__with_bundle ?g__most_given ?l__most_given ?o__most_given ?k__most_given ?g__law_cell_at ?l__law_cell_at ?o__law_cell_at ?k__law_cell_at ?g__law_whole ?l__law_whole ?o__law_whole ?k__law_whole ?g__law_mixed ?l__law_mixed ?o__law_mixed ?k__law_mixed ?g__law_alike ?l__law_alike ?o__law_alike ?k__law_alike ?g__law_value ?l__law_value ?o__law_value ?k__law_value ?g__law_small ?l__law_small ?o__law_small ?k__law_small ?g__law_ways ?l__law_ways ?o__law_ways ?k__law_ways ?g__law_worth ?l__law_worth ?o__law_worth ?k__law_worth ?g__law_better ?l__law_better ?o__law_better ?k__law_better ?g__law_tried ?l__law_tried ?o__law_tried ?k__law_tried ?g_law ?l_law ?o_law ?k_law ?w_MOST_SUM ?m_bool ?m_int ?m_isinstance ?m_len ?m_list ?m_max ?m_min ?m_range ?m_reversed ?m_sorted ?m_sum ?m_tuple ?m_zip)
    (case g_TillError => k_is)
    (case x_TillError => k_exc)
    (case k_TillError => k_is)
    (case b_TillError => k_is)
    (case t_TillError => k_is)
    (case i_TillError => k_is)
    (case g_NoSum => k_is)
    (case x_NoSum => k_exc)
    (case k_NoSum => k_is)
    (case b_NoSum => k_is)
    (case t_NoSum => k_is)
    (case i_NoSum => k_is)
    (case g_NoChange => k_is)
    (case x_NoChange => k_exc)
    (case k_NoChange => k_is)
    (case b_NoChange => k_is)
    (case t_NoChange => k_is)
    (case i_NoChange => k_is)
    (case u_NoSum_NoChange => first | rfl | k_is)
    (case u_NoChange_NoChange => first | rfl | k_is)
    (case g_check_sum => k_is)
    (case l_check_sum => k_is)
    (case o_check_sum => k_is)
    (case k_check_sum => k_is)
    (case g_table => k_is)
    (case l_table => k_is)
    (case o_table => k_is)
    (case k_table => k_is)
    (case g_fewest => k_is)
    (case l_fewest => k_is)
    (case o_fewest => k_is)
    (case k_fewest => k_is)
    (case g_with_kind => k_is)
    (case l_with_kind => k_is)
    (case o_with_kind => k_is)
    (case k_with_kind => k_is)
    (case g__bundles => k_is)
    (case l__bundles => k_is)
    (case o__bundles => k_is)
    (case k__bundles => k_is)
    (case g__with_bundle => k_is)
    (case l__with_bundle => k_is)
    (case o__with_bundle => k_is)
    (case k__with_bundle => k_is)
    (case g__most_given => k_is)
    (case l__most_given => k_is)
    (case o__most_given => k_is)
    (case k__most_given => k_is)
    (case g__law_cell_at => k_is)
    (case l__law_cell_at => k_is)
    (case o__law_cell_at => k_is)
    (case k__law_cell_at => k_is)
    (case g__law_whole => k_is)
    (case l__law_whole => k_is)
    (case o__law_whole => k_is)
    (case k__law_whole => k_is)
    (case g__law_mixed => k_is)
    (case l__law_mixed => k_is)
    (case o__law_mixed => k_is)
    (case k__law_mixed => k_is)
    (case g__law_alike => k_is)
    (case l__law_alike => k_is)
    (case o__law_alike => k_is)
    (case k__law_alike => k_is)
    (case g__law_value => k_is)
    (case l__law_value => k_is)
    (case o__law_value => k_is)
    (case k__law_value => k_is)
    (case g__law_small => k_is)
    (case l__law_small => k_is)
    (case o__law_small => k_is)
    (case k__law_small => k_is)
    (case g__law_ways => k_is)
    (case l__law_ways => k_is)
    (case o__law_ways => k_is)
    (case k__law_ways => k_is)
    (case g__law_worth => k_is)
    (case l__law_worth => k_is)
    (case o__law_worth => k_is)
    (case k__law_worth => k_is)
    (case g__law_better => k_is)
    (case l__law_better => k_is)
    (case o__law_better => k_is)
    (case k__law_better => k_is)
    (case g__law_tried => k_is)
    (case l__law_tried => k_is)
    (case o__law_tried => k_is)
    (case k__law_tried => k_is)
    (case g_law => k_is)
    (case l_law => k_is)
    (case o_law => k_is)
    (case k_law => k_is)
    (case w_MOST_SUM => k_is)
    (case m_bool => k_is)
    (case m_int => k_is)
    (case m_isinstance => k_is)
    (case m_len => k_is)
    (case m_list => k_is)
    (case m_max => k_is)
    (case m_min => k_is)
    (case m_range => k_is)
    (case m_reversed => k_is)
    (case m_sorted => k_is)
    (case m_sum => k_is)
    (case m_tuple => k_is)
    (case m_zip => k_is)

