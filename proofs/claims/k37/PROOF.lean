import PyProof.Rows.All
import Wide.All
import OpenK.AllK
import Wide.FinOn
import HandS.ForMost
import HandS.Exc
import HandS.TryOnly
import HandS.ExcOwn
import HandS.WordsExc
import HandS.IsInst
import HandS.Wide
import HandS.Flow
import HandS.More
import HandS.Codes
import HandS.Walk
import HandS.TupLe
import HandS.WordsDict
import HandS.Conv
import HandS.TryMany
import HandS.ExcIs
import KE.KBits
import HandS.CallLocal
import HandS.Strs
import HandS.SetFor
import HandS.Set
import HandS.Property
import PySem.Challenge.RW_sillwatch_k37_frames_placed
set_option Elab.async false
set_option linter.all false
set_option maxRecDepth 100000
set_option maxHeartbeats 4000000
namespace My
open PySem L2
def topS (i : Nat) : Stmt := PySem.Challenge.pw_sillwatch_k37_frames_placed.main.body.getD i (.Pass ⟨0, 0, 0, 0⟩)
abbrev s_overlap : Stmt := topS 1
abbrev s_overlap_axis : Stmt := topS 2
abbrev s_has_squares : Stmt := topS 3
abbrev s_has_point : Stmt := topS 4
abbrev s_inside_of : Stmt := topS 11
abbrev s_frame_of : Stmt := topS 12
abbrev s_put_into : Stmt := topS 13
abbrev s_placed_frame : Stmt := topS 14
abbrev s_output_of : Stmt := topS 15
abbrev s_grown_frame : Stmt := topS 16
abbrev s_restored_frame : Stmt := topS 17
abbrev s_is_large_enough : Stmt := topS 18
abbrev s_meets : Stmt := topS 19
abbrev s__put_axis : Stmt := topS 20
abbrev s__sized_frame : Stmt := topS 21
abbrev s__law_cell : Stmt := topS 23
abbrev s__law_row : Stmt := topS 24
abbrev s__law_area : Stmt := topS 25
abbrev s__law_axis_good : Stmt := topS 26
abbrev s__law_put_good : Stmt := topS 27
abbrev s__law_fitted : Stmt := topS 28
abbrev s__law_placed_good : Stmt := topS 29
abbrev s__law_squares : Stmt := topS 30
abbrev s__law_output : Stmt := topS 31
abbrev s_law : Stmt := topS 32
structure Adr where
  foverlap : Addr
  doverlap : FuncData
  foverlap_axis : Addr
  doverlap_axis : FuncData
  fhas_squares : Addr
  dhas_squares : FuncData
  fhas_point : Addr
  dhas_point : FuncData
  finside_of : Addr
  dinside_of : FuncData
  fframe_of : Addr
  dframe_of : FuncData
  fput_into : Addr
  dput_into : FuncData
  fplaced_frame : Addr
  dplaced_frame : FuncData
  foutput_of : Addr
  doutput_of : FuncData
  fgrown_frame : Addr
  dgrown_frame : FuncData
  frestored_frame : Addr
  drestored_frame : FuncData
  fis_large_enough : Addr
  dis_large_enough : FuncData
  fmeets : Addr
  dmeets : FuncData
  f_put_axis : Addr
  d_put_axis : FuncData
  f_sized_frame : Addr
  d_sized_frame : FuncData
  f_law_cell : Addr
  d_law_cell : FuncData
  f_law_row : Addr
  d_law_row : FuncData
  f_law_area : Addr
  d_law_area : FuncData
  f_law_axis_good : Addr
  d_law_axis_good : FuncData
  f_law_put_good : Addr
  d_law_put_good : FuncData
  f_law_fitted : Addr
  d_law_fitted : FuncData
  f_law_placed_good : Addr
  d_law_placed_good : FuncData
  f_law_squares : Addr
  d_law_squares : FuncData
  f_law_output : Addr
  d_law_output : FuncData
  flaw : Addr
  dlaw : FuncData
  tBORDER : Tok
  tTITLE_BAR : Tok
  tLEAST_SIDE : Tok
  tPLACING_STEP : Tok
  tPLACING_PLACES : Tok
structure Txt (K : PySem.W.Frag) (mg : Str → Option Value) (A : Adr) : Prop where
  Foverlap : Fun K "overlap" "overlap" s_overlap A.foverlap A.doverlap
  boverlap : Binds K A.doverlap ["a", "b"] []
  goverlap : mg "overlap" = some (.ref A.foverlap)
  koverlap : PySem.W.keepIn K (.ref A.foverlap) = true
  Foverlap_axis : Fun K "overlap_axis" "overlap_axis" s_overlap_axis A.foverlap_axis A.doverlap_axis
  boverlap_axis : Binds K A.doverlap_axis ["begin", "length", "other_begin", "other_length"] []
  goverlap_axis : mg "overlap_axis" = some (.ref A.foverlap_axis)
  koverlap_axis : PySem.W.keepIn K (.ref A.foverlap_axis) = true
  Fhas_squares : Fun K "has_squares" "has_squares" s_has_squares A.fhas_squares A.dhas_squares
  bhas_squares : Binds K A.dhas_squares ["rectangle"] []
  ghas_squares : mg "has_squares" = some (.ref A.fhas_squares)
  khas_squares : PySem.W.keepIn K (.ref A.fhas_squares) = true
  Fhas_point : Fun K "has_point" "has_point" s_has_point A.fhas_point A.dhas_point
  bhas_point : Binds K A.dhas_point ["rectangle", "x", "y"] []
  ghas_point : mg "has_point" = some (.ref A.fhas_point)
  khas_point : PySem.W.keepIn K (.ref A.fhas_point) = true
  Finside_of : Fun K "inside_of" "inside_of" s_inside_of A.finside_of A.dinside_of
  binside_of : Binds K A.dinside_of ["frame"] []
  ginside_of : mg "inside_of" = some (.ref A.finside_of)
  kinside_of : PySem.W.keepIn K (.ref A.finside_of) = true
  Fframe_of : Fun K "frame_of" "frame_of" s_frame_of A.fframe_of A.dframe_of
  bframe_of : Binds K A.dframe_of ["inside"] []
  gframe_of : mg "frame_of" = some (.ref A.fframe_of)
  kframe_of : PySem.W.keepIn K (.ref A.fframe_of) = true
  Fput_into : Fun K "put_into" "put_into" s_put_into A.fput_into A.dput_into
  bput_into : Binds K A.dput_into ["area", "frame"] []
  gput_into : mg "put_into" = some (.ref A.fput_into)
  kput_into : PySem.W.keepIn K (.ref A.fput_into) = true
  Fplaced_frame : Fun K "placed_frame" "placed_frame" s_placed_frame A.fplaced_frame A.dplaced_frame
  bplaced_frame : Binds K A.dplaced_frame ["area", "count", "width", "height"] []
  gplaced_frame : mg "placed_frame" = some (.ref A.fplaced_frame)
  kplaced_frame : PySem.W.keepIn K (.ref A.fplaced_frame) = true
  Foutput_of : Fun K "output_of" "output_of" s_output_of A.foutput_of A.doutput_of
  boutput_of : Binds K A.doutput_of ["areas", "frame"] []
  goutput_of : mg "output_of" = some (.ref A.foutput_of)
  koutput_of : PySem.W.keepIn K (.ref A.foutput_of) = true
  Fgrown_frame : Fun K "grown_frame" "grown_frame" s_grown_frame A.fgrown_frame A.dgrown_frame
  bgrown_frame : Binds K A.dgrown_frame ["areas", "frame", "width", "height"] []
  ggrown_frame : mg "grown_frame" = some (.ref A.fgrown_frame)
  kgrown_frame : PySem.W.keepIn K (.ref A.fgrown_frame) = true
  Frestored_frame : Fun K "restored_frame" "restored_frame" s_restored_frame A.frestored_frame A.drestored_frame
  brestored_frame : Binds K A.drestored_frame ["frame", "before"] []
  grestored_frame : mg "restored_frame" = some (.ref A.frestored_frame)
  krestored_frame : PySem.W.keepIn K (.ref A.frestored_frame) = true
  Fis_large_enough : Fun K "is_large_enough" "is_large_enough" s_is_large_enough A.fis_large_enough A.dis_large_enough
  bis_large_enough : Binds K A.dis_large_enough ["frame"] []
  gis_large_enough : mg "is_large_enough" = some (.ref A.fis_large_enough)
  kis_large_enough : PySem.W.keepIn K (.ref A.fis_large_enough) = true
  Fmeets : Fun K "meets" "meets" s_meets A.fmeets A.dmeets
  bmeets : Binds K A.dmeets ["area", "frame"] []
  gmeets : mg "meets" = some (.ref A.fmeets)
  kmeets : PySem.W.keepIn K (.ref A.fmeets) = true
  F_put_axis : Fun K "_put_axis" "_put_axis" s__put_axis A.f_put_axis A.d_put_axis
  b_put_axis : Binds K A.d_put_axis ["area_begin", "area_length", "begin", "length"] []
  g_put_axis : mg "_put_axis" = some (.ref A.f_put_axis)
  k_put_axis : PySem.W.keepIn K (.ref A.f_put_axis) = true
  F_sized_frame : Fun K "_sized_frame" "_sized_frame" s__sized_frame A.f_sized_frame A.d_sized_frame
  b_sized_frame : Binds K A.d_sized_frame ["area", "corner", "width", "height"] []
  g_sized_frame : mg "_sized_frame" = some (.ref A.f_sized_frame)
  k_sized_frame : PySem.W.keepIn K (.ref A.f_sized_frame) = true
  F_law_cell : Fun K "_law_cell" "_law_cell" s__law_cell A.f_law_cell A.d_law_cell
  b_law_cell : Binds K A.d_law_cell ["script", "k"] []
  g_law_cell : mg "_law_cell" = some (.ref A.f_law_cell)
  k_law_cell : PySem.W.keepIn K (.ref A.f_law_cell) = true
  F_law_row : Fun K "_law_row" "_law_row" s__law_row A.f_law_row A.d_law_row
  b_law_row : Binds K A.d_law_row ["script", "k"] []
  g_law_row : mg "_law_row" = some (.ref A.f_law_row)
  k_law_row : PySem.W.keepIn K (.ref A.f_law_row) = true
  F_law_area : Fun K "_law_area" "_law_area" s__law_area A.f_law_area A.d_law_area
  b_law_area : Binds K A.d_law_area ["row"] []
  g_law_area : mg "_law_area" = some (.ref A.f_law_area)
  k_law_area : PySem.W.keepIn K (.ref A.f_law_area) = true
  F_law_axis_good : Fun K "_law_axis_good" "_law_axis_good" s__law_axis_good A.f_law_axis_good A.d_law_axis_good
  b_law_axis_good : Binds K A.d_law_axis_good ["begin", "length", "start", "room", "told"] []
  g_law_axis_good : mg "_law_axis_good" = some (.ref A.f_law_axis_good)
  k_law_axis_good : PySem.W.keepIn K (.ref A.f_law_axis_good) = true
  F_law_put_good : Fun K "_law_put_good" "_law_put_good" s__law_put_good A.f_law_put_good A.d_law_put_good
  b_law_put_good : Binds K A.d_law_put_good ["area", "frame", "told"] []
  g_law_put_good : mg "_law_put_good" = some (.ref A.f_law_put_good)
  k_law_put_good : PySem.W.keepIn K (.ref A.f_law_put_good) = true
  F_law_fitted : Fun K "_law_fitted" "_law_fitted" s__law_fitted A.f_law_fitted A.d_law_fitted
  b_law_fitted : Binds K A.d_law_fitted ["area", "width", "height"] []
  g_law_fitted : mg "_law_fitted" = some (.ref A.f_law_fitted)
  k_law_fitted : PySem.W.keepIn K (.ref A.f_law_fitted) = true
  F_law_placed_good : Fun K "_law_placed_good" "_law_placed_good" s__law_placed_good A.f_law_placed_good A.d_law_placed_good
  b_law_placed_good : Binds K A.d_law_placed_good ["area", "count", "width", "height"] []
  g_law_placed_good : mg "_law_placed_good" = some (.ref A.f_law_placed_good)
  k_law_placed_good : PySem.W.keepIn K (.ref A.f_law_placed_good) = true
  F_law_squares : Fun K "_law_squares" "_law_squares" s__law_squares A.f_law_squares A.d_law_squares
  b_law_squares : Binds K A.d_law_squares ["one", "two"] []
  g_law_squares : mg "_law_squares" = some (.ref A.f_law_squares)
  k_law_squares : PySem.W.keepIn K (.ref A.f_law_squares) = true
  F_law_output : Fun K "_law_output" "_law_output" s__law_output A.f_law_output A.d_law_output
  b_law_output : Binds K A.d_law_output ["areas", "frame"] []
  g_law_output : mg "_law_output" = some (.ref A.f_law_output)
  k_law_output : PySem.W.keepIn K (.ref A.f_law_output) = true
  Flaw : Fun K "law" "law" s_law A.flaw A.dlaw
  blaw : Binds K A.dlaw ["script"] []
  glaw : mg "law" = some (.ref A.flaw)
  klaw : PySem.W.keepIn K (.ref A.flaw) = true
  int : mg "int" = none
  len : mg "len" = none
  max : mg "max" = none
  min : mg "min" = none
  range : mg "range" = none
  gBORDER : mg "BORDER" = some (.int (2) A.tBORDER)
  gTITLE_BAR : mg "TITLE_BAR" = some (.int (10) A.tTITLE_BAR)
  gLEAST_SIDE : mg "LEAST_SIDE" = some (.int (16) A.tLEAST_SIDE)
  gPLACING_STEP : mg "PLACING_STEP" = some (.int (24) A.tPLACING_STEP)
  gPLACING_PLACES : mg "PLACING_PLACES" = some (.int (8) A.tPLACING_PLACES)
section
variable {P : Program} {w : World} {K : PySem.W.Frag} {mg : Str → Option Value} {base : Heap} {A : Adr}
/-! ### common: tests, errors, small words -/
theorem exm_self {K : PySem.W.Frag} {S : Addr} (h1 : PySem.W.subIn K (.ref S) (.type "BaseException") = some true) (h2 : PySem.W.isClsIn K S = true) (h3 : PySem.W.typeIn K (.ref S) = some (.type "type")) (h4 : PySem.W.subIn K (.ref S) (.ref S) = some true) :
    PySem.W.exmOne K (.ref S) (.ref S) = some true := by
  have g1 : (PySem.W.subIn K (.ref S) (.type "BaseException") == some true) = true := by rw [h1]; rfl
  have g0 : (PySem.W.clsIn K S).isSome = true := h2
  have g2 : ((PySem.W.clsIn K S).isSome && PySem.W.typeIn K (.ref S) == some (.type "type")) = true := by rw [g0, h3]; rfl
  show (if (PySem.W.subIn K (.ref S) (.type "BaseException") == some true) = true then (if ((PySem.W.clsIn K S).isSome && PySem.W.typeIn K (.ref S) == some (.type "type")) = true then PySem.W.subIn K (.ref S) (.ref S) else none) else none) = some true
  rw [if_pos g1, if_pos g2]
  exact h4
theorem exm_cross {K : PySem.W.Frag} {S R : Addr} {b : Bool} (h1 : PySem.W.subIn K (.ref S) (.type "BaseException") = some true) (h2 : PySem.W.isClsIn K S = true) (h3 : PySem.W.typeIn K (.ref S) = some (.type "type")) (h4 : PySem.W.subIn K (.ref R) (.ref S) = some b) :
    PySem.W.exmOne K (.ref R) (.ref S) = some b := by
  have g1 : (PySem.W.subIn K (.ref S) (.type "BaseException") == some true) = true := by rw [h1]; rfl
  have g0 : (PySem.W.clsIn K S).isSome = true := h2
  have g2 : ((PySem.W.clsIn K S).isSome && PySem.W.typeIn K (.ref S) == some (.type "type")) = true := by rw [g0, h3]; rfl
  show (if (PySem.W.subIn K (.ref S) (.type "BaseException") == some true) = true then (if ((PySem.W.clsIn K S).isSome && PySem.W.typeIn K (.ref S) == some (.type "type")) = true then PySem.W.subIn K (.ref R) (.ref S) else none) else none) = some b
  rw [if_pos g1, if_pos g2]
  exact h4
/-- the law's own promise -/
def sp_law (K : PySem.W.Frag) : Sp := fun vs H Q _ => ∃ (a : Addr) (ns : List Int), vs = [.ref a] ∧ SqL K H a (ns.map V.int) ∧ ns.length ≤ 63 ∧ ∀ H', Q (.bl true) H'
theorem iteP {p A B : Prop} [Decidable p] (h1 : p → A) (h2 : ¬ p → B) : if decide p = true then A else B := by
  by_cases h : p
  · rw [decide_eq_true h]; exact iteT (h1 h)
  · rw [decide_eq_false h]; exact iteF (h2 h)
theorem iteN {p A B : Prop} [Decidable p] (h1 : ¬ p → A) (h2 : p → B) : if (!decide p) = true then A else B := by
  by_cases h : p
  · rw [decide_eq_true h]; exact iteF (h2 h)
  · rw [decide_eq_false h]; exact iteT (h1 h)
theorem iteEq {i j : Int} {A B : Prop} (h1 : i = j → A) (h2 : i ≠ j → B) : if decide (V.int i = V.int j) = true then A else B :=
  iteP (fun h => h1 (V.int.inj h)) (fun h => h2 fun e => h (congrArg V.int e))
theorem iteNe {i j : Int} {A B : Prop} (h1 : i ≠ j → A) (h2 : i = j → B) : if (!decide (V.int i = V.int j)) = true then A else B :=
  iteN (fun h => h1 fun e => h (congrArg V.int e)) (fun h => h2 (V.int.inj h))
theorem if_t {b : Bool} {A B : Prop} (e : b = true) (h : A) : if b = true then A else B := by rw [if_pos e]; exact h
theorem if_f {b : Bool} {A B : Prop} (e : b = false) (h : B) : if b = true then A else B := by rw [e]; exact iteF h
theorem if_b {b : Bool} {A B : Prop} (h1 : b = true → A) (h2 : b = false → B) : if b = true then A else B := by
  cases b with
  | true => exact iteT (h1 rfl)
  | false => exact iteF (h2 rfl)
theorem same_upd {H : Hp} {p : Addr} {o : HO} (h : H p = none) : Same H (upd H p o) := fun b x e => by
  rw [upd_ne (ne_of_none e h)]
  exact e
theorem len_line {n : Nat} (h : n ≤ 100000) : n ≤ sizeLine := Nat.le_trans h (by decide)
theorem lt_line {n : Nat} (h : n < 100000) : n < sizeLine := Nat.lt_of_lt_of_le h (by decide)
local macro_rules | `(tactic| walk_at "rd") => `(tactic| repeat (first
  | refine ⟨_, rfl, ?_⟩
  | refine ⟨_, _, rfl, rfl, ?_⟩
  | refine ⟨rfl, ?_⟩
  | refine Or.inl ⟨_, rfl, ?_⟩
  | refine ⟨(by show (0 : Int) < _; decide), ?_⟩
  | refine ⟨(⟨by decide, by decide⟩ : CDiv _ _), ?_⟩
  | refine ⟨(Or.inl ⟨by decide, by decide⟩ : CMul _ _), ?_⟩
  | refine ⟨(Or.inr ⟨by decide, by decide⟩ : CMul _ _), ?_⟩))
/-! ### data that are compared -/
def Sh (n : Nat) (d : PyData) : Prop := d.canLay0 = true ∧ d.depth ≤ n
theorem Sh.mono {n m : Nat} {d : PyData} (h : Sh n d) (l : n ≤ m) : Sh m d := ⟨h.1, Nat.le_trans h.2 l⟩
theorem sh_all : ∀ {n : Nat} {ds : List PyData}, (∀ d ∈ ds, Sh n d) → PyData.canLayAll0 ds = true ∧ PyData.depthAll ds ≤ n
  | n, [], _ => ⟨by simp [PyData.canLayAll0], by simp [PyData.depthAll]⟩
  | n, d :: ds, h => by
    have h1 := h d List.mem_cons_self
    have h2 := sh_all fun e he => h e (List.mem_cons_of_mem _ he)
    refine ⟨?_, ?_⟩
    · simp only [PyData.canLayAll0, Bool.and_eq_true]; exact ⟨h1.1, h2.1⟩
    · simp only [PyData.depthAll]; exact Nat.max_le.mpr ⟨h1.2, h2.2⟩
theorem sh_list {n : Nat} {ds : List PyData} (h : ∀ d ∈ ds, Sh n d) : Sh (n + 1) (.list ds) := by
  have q := sh_all h
  exact ⟨by simp only [PyData.canLay0]; exact q.1, by simp only [PyData.depth]; exact Nat.succ_le_succ q.2⟩
theorem sh_tuple {n : Nat} {ds : List PyData} (h : ∀ d ∈ ds, Sh n d) : Sh (n + 1) (.tuple ds) := by
  have q := sh_all h
  exact ⟨by simp only [PyData.canLay0]; exact q.1, by simp only [PyData.depth]; exact Nat.succ_le_succ q.2⟩
theorem sh_int (i : Int) : Sh 0 (.int i) := ⟨by simp [PyData.canLay0], by simp [PyData.depth]⟩
theorem sh_bool (i : Bool) : Sh 0 (.bool i) := ⟨by simp [PyData.canLay0], by simp [PyData.depth]⟩
theorem sh_none : Sh 0 .none := ⟨by simp [PyData.canLay0], by simp [PyData.depth]⟩
theorem sh_str {s : Str} (h : PyData.strOk s = true) : Sh 0 (.str s) := ⟨by simp only [PyData.canLay0]; exact h, by simp [PyData.depth]⟩
theorem Sh.shaped {n : Nat} {d : PyData} (h : Sh n d) (l : n ≤ 64 := by decide) : SeqAt.shaped d = true := by
  show (d.canLay0 && decide (d.depth ≤ 64)) = true
  rw [h.1, decide_eq_true (Nat.le_trans h.2 l)]
  rfl
theorem Sh.self {n : Nat} {d : PyData} (h : Sh n d) : PyData.eqv d d = true := SeqAt.eqv_refl d h.1
def pInts (xs : List Int) : PyData := .list (xs.map PyData.int)
theorem sh_ints (xs : List Int) : Sh 1 (pInts xs) := sh_list fun d hd => by
  obtain ⟨i, _, rfl⟩ := List.mem_map.mp hd
  exact sh_int i
theorem dpall_ints {K : PySem.W.Frag} {H : Hp} : ∀ xs : List Int, DpAll K H (xs.map V.int) (xs.map PyData.int)
  | [] => .nil
  | x :: r => .cons (.int x) (dpall_ints r)
theorem dp_ints {K : PySem.W.Frag} {H : Hp} {p : Addr} {xs : List Int} (h : SqL K H p (xs.map V.int)) : Dp K H (.ref p) (pInts xs) := .lst h (dpall_ints xs)
/-! ### views: what is new, what stands -/
structure Ext (V H V' H' : Hp) : Prop where
  vv : Same V V'
  vh : Same V' H'
  hh : Same H H'
  nw : ∀ a, V' a ≠ none → V a ≠ none ∨ H a = none
theorem Ext.refl {V H : Hp} (h : Same V H) : Ext V H V H := ⟨Same.refl V, h, Same.refl H, fun _ h => Or.inl h⟩
theorem Ext.trans {V H V1 H1 V2 H2 : Hp} (a : Ext V H V1 H1) (b : Ext V1 H1 V2 H2) : Ext V H V2 H2 :=
  ⟨a.vv.trans b.vv, b.vh, a.hh.trans b.hh, fun x h => by
    rcases b.nw x h with q | q
    · exact a.nw x q
    · exact Or.inr (a.hh.free q)⟩
theorem none_of_same {V H : Hp} {p : Addr} (s : Same V H) (h : H p = none) : V p = none := s.free h
theorem Ext.new {V H : Hp} {p : Addr} {o : HO} (s : Same V H) (h : H p = none) : Ext V H (upd V p o) (upd H p o) :=
  ⟨same_upd (s.free h), fun b u e => by
    by_cases hb : b = p
    · subst hb; rw [upd_same] at e ⊢; exact e
    · rw [upd_ne hb] at e ⊢; exact s b u e, same_upd h, fun a e => by
    by_cases ha : a = p
    · subst ha; exact Or.inr h
    · rw [upd_ne ha] at e; exact Or.inl e⟩
/-- a new object that the view does not take in -/
theorem Ext.skip {V H : Hp} {p : Addr} {o : HO} (s : Same V H) (h : H p = none) : Ext V H V (upd H p o) :=
  ⟨Same.refl V, s.trans (same_upd h), same_upd h, fun _ e => Or.inl e⟩
theorem Ext.keepOut {V H V' H' : Hp} (x : Ext V H V' H') {D : Addr} (h : V D = none) (hd : H D ≠ none) : V' D = none := by
  cases e : V' D with
  | none => rfl
  | some o =>
    rcases x.nw D (by rw [e]; exact fun z => by cases z) with q | q
    · exact absurd h q
    · exact absurd q hd
/-- an object outside of the view changes -/
theorem Ext.poke {V H V' H' : Hp} (x : Ext V H V' H') {D : Addr} {o : HO} (hd : H D = none) (h : V' D = none) : Ext V H V' (upd H' D o) :=
  ⟨x.vv, fun b u e => by
    have hb : b ≠ D := fun z => by rw [z, h] at e; cases e
    rw [upd_ne hb]; exact x.vh b u e, fun b u e => by
    have hb : b ≠ D := ne_of_none e hd
    rw [upd_ne hb]; exact x.hh b u e, x.nw⟩
/-- the object at D, done, is taken in -/
theorem Ext.take {V H V' H' : Hp} (x : Ext V H V' H') {D : Addr} {o : HO} (hd : H D = none) (h : V' D = none) (e : H' D = some o) : Ext V H (upd V' D o) H' :=
  ⟨x.vv.trans (same_upd h), fun b u q => by
    by_cases hb : b = D
    · subst hb; rw [upd_same] at q; rw [e]; exact q
    · rw [upd_ne hb] at q; exact x.vh b u q, x.hh, fun a q => by
    by_cases ha : a = D
    · subst ha; exact Or.inr hd
    · rw [upd_ne ha] at q; exact x.nw a q⟩
theorem _root_.L2.Same.sqt {K : PySem.W.Frag} {H H' : Hp} {a : Addr} {xs : List V} (e : Same H H') (h : SqT K H a xs) : SqT K H' a xs := by
  rcases h with (h | ⟨o, h⟩) | h
  · exact .inl (.inl (e _ _ h))
  · exact .inl (.inr ⟨o, e _ _ h⟩)
  · exact .inr h
mutual
theorem dp_same {K : PySem.W.Frag} {H H' : Hp} (s : Same H H') : ∀ (d : PyData) (v : V), Dp K H v d → Dp K H' v d
  | .none, _, h => by cases h; exact .non
  | .bool b, _, h => by cases h; exact .bl b
  | .int i, _, h => by cases h; exact .int i
  | .str x, _, h => by cases h; exact .str x
  | .list ds, _, h => by
    cases h with
    | lst q r => exact .lst (s.seq q) (dpall_same s ds _ r)
  | .tuple ds, _, h => by
    cases h with
    | tup q r => exact .tup (s.sqt q) (dpall_same s ds _ r)
  | .dict _, _, h => by cases h
theorem dpall_same {K : PySem.W.Frag} {H H' : Hp} (s : Same H H') : ∀ (ds : List PyData) (vs : List V), DpAll K H vs ds → DpAll K H' vs ds
  | [], _, h => by cases h; exact .nil
  | d :: ds, _, h => by
    cases h with
    | cons q r => exact .cons (dp_same s d _ q) (dpall_same s ds _ r)
end
theorem _root_.L2.Dp.to {K : PySem.W.Frag} {H H' : Hp} {v : V} {d : PyData} (h : Dp K H v d) (s : Same H H') : Dp K H' v d := dp_same s d v h
theorem _root_.L2.DpAll.to {K : PySem.W.Frag} {H H' : Hp} {v : List V} {d : List PyData} (h : DpAll K H v d) (s : Same H H') : DpAll K H' v d := dpall_same s d v h
theorem dpall_len {K : PySem.W.Frag} {H : Hp} : ∀ {vs : List V} {ds : List PyData}, DpAll K H vs ds → vs.length = ds.length
  | _, [], h => by cases h; rfl
  | _, d :: ds, h => by
    cases h with
    | cons q r => exact congrArg (· + 1) (dpall_len r)
theorem dpall_get {K : PySem.W.Frag} {H : Hp} : ∀ {vs : List V} {ds : List PyData} {i : Nat} {v : V}, DpAll K H vs ds → vs[i]? = some v → ∃ d, ds[i]? = some d ∧ Dp K H v d
  | _, [], i, v, h, e => by cases h; cases e
  | _, d :: ds, i, v, h, e => by
    cases h with
    | cons q r =>
      match i, e with
      | 0, e => cases e; exact ⟨d, rfl, q⟩
      | i + 1, e => exact dpall_get (i := i) r e
theorem dpall_get' {K : PySem.W.Frag} {H : Hp} : ∀ {vs : List V} {ds : List PyData} {i : Nat} {d : PyData}, DpAll K H vs ds → ds[i]? = some d → ∃ v, vs[i]? = some v ∧ Dp K H v d
  | _, [], i, d, h, e => by cases e
  | _, d :: ds, i, d', h, e => by
    cases h with
    | cons q r =>
      match i, e with
      | 0, e => cases e; exact ⟨_, rfl, q⟩
      | i + 1, e => exact dpall_get' (i := i) r e
theorem dpall_app {K : PySem.W.Frag} {H : Hp} : ∀ {vs ws : List V} {ds es : List PyData}, DpAll K H vs ds → DpAll K H ws es → DpAll K H (vs ++ ws) (ds ++ es)
  | _, _, [], _, h, g => by cases h; exact g
  | _, _, d :: ds, _, h, g => by
    cases h with
    | cons q r => exact .cons q (dpall_app r g)
theorem dp_list {K : PySem.W.Frag} {H : Hp} {v : V} {ds : List PyData} (h : Dp K H v (.list ds)) : ∃ a xs, v = .ref a ∧ SqL K H a xs ∧ DpAll K H xs ds := by
  cases h with
  | lst q r => exact ⟨_, _, rfl, q, r⟩
theorem dp_tuple {K : PySem.W.Frag} {H : Hp} {v : V} {ds : List PyData} (h : Dp K H v (.tuple ds)) : ∃ a xs, v = .ref a ∧ SqT K H a xs ∧ DpAll K H xs ds := by
  cases h with
  | tup q r => exact ⟨_, _, rfl, q, r⟩
theorem dp_int {K : PySem.W.Frag} {H : Hp} {v : V} {i : Int} (h : Dp K H v (.int i)) : v = .int i := by cases h; rfl
theorem dp_str {K : PySem.W.Frag} {H : Hp} {v : V} {i : Str} (h : Dp K H v (.str i)) : v = .str i := by cases h; rfl
theorem dp_bool {K : PySem.W.Frag} {H : Hp} {v : V} {i : Bool} (h : Dp K H v (.bool i)) : v = .bl i := by cases h; rfl
/-! ### comprehensions over any walk -/
def fm {α : Type} (f : Nat → Option α) (n : Nat) : List α := (List.range n).filterMap f
theorem fm_succ {α : Type} (f : Nat → Option α) (n : Nat) : fm f (n + 1) = fm f n ++ (f n).toList := by
  unfold fm
  rw [List.range_succ, List.filterMap_append]
  congr 1
theorem fm_len {α : Type} (f : Nat → Option α) (n : Nat) : (fm f n).length ≤ n := by
  have h := List.length_filterMap_le f (List.range n)
  rw [List.length_range] at h
  exact h
structure LcInv (K : PySem.W.Frag) (V0 H0 : Hp) (D : Addr) (acc : List PyData) (H : Hp) : Prop where
  ex : ∃ V xs, Ext V0 H0 V H ∧ V D = none ∧ H D = some (.lst xs) ∧ DpAll K V xs acc
theorem LcInv.start {K : PySem.W.Frag} {V0 H0 : Hp} {D : Addr} (s : Same V0 H0) (hD : H0 D = none) : LcInv K V0 H0 D [] (upd H0 D (.lst [])) :=
  ⟨V0, [], Ext.skip s hD, s.free hD, upd_same, .nil⟩
theorem LcInv.done {K : PySem.W.Frag} {V0 H0 H : Hp} {D : Addr} {acc : List PyData} (hD : H0 D = none) (i : LcInv K V0 H0 D acc H) : ∃ U xs, Ext V0 H0 U H ∧ U D = some (.lst xs) ∧ DpAll K U xs acc ∧ Dp K U (.ref D) (.list acc) := by
  obtain ⟨V, xs, x, hv, hd, dp⟩ := i.ex
  exact ⟨_, xs, x.take hD hv hd, upd_same, dp.to (same_upd hv), .lst (SqL.of upd_same) (dp.to (same_upd hv))⟩
/-- one more item -/
theorem LcInv.push {K : PySem.W.Frag} {V0 H0 U H U' H' : Hp} {D : Addr} {acc : List PyData} {xs : List V} {y : V} {d : PyData} (hD : H0 D = none) (x : Ext V0 H0 U H) (hv : U D = none) (hd : H D = some (.lst xs)) (dp : DpAll K U xs acc)
    (x2 : Ext U H U' H') (e : Dp K U' y d) (hl : acc.length < 100000) :
    ∃ acc', H' D = some (.lst acc') ∧ acc'.length < sizeLine ∧ LcInv K V0 H0 D (acc ++ [d]) (upd H' D (.lst (acc' ++ [y]))) := by
  have hv' : U' D = none := x2.keepOut hv (by rw [hd]; exact fun z => by cases z)
  refine ⟨xs, x2.hh _ _ hd, lt_line (by rw [dpall_len dp]; exact hl), U', xs ++ [y], (x.trans x2).poke hD hv', hv', upd_same, dpall_app (dp.to x2.vv) (.cons e .nil)⟩
/-- a comprehension's reading over a walk that leaves the heap as it is: at turn i the item x, then f i: the data of what is put in, or none -/
theorem lc_dp0 {J : It} {n : Nat} {G : Hp → Prop} {Y : Nat → Hp → V → Hp → Prop} (wk : Walk J n G Y) {K : PySem.W.Frag} {V0 H0 : Hp} {D : Addr} {g : TG} {tt : TT} {te : TE} {vs : List Nat} {σ : St} {Qd : Hp → Prop} (f : Nat → Option PyData) (σ0 : St) (hσ : wipe σ vs = σ0) (s0 : Same V0 H0) (hD : H0 D = none) (hn : n < 100000)
    (hG : ∀ H, Same H0 H → G H) (hY : ∀ i H x H', Y i H x H' → H' = H)
    (hs : ∀ i x V H, i < n → Ext V0 H0 V H → Y i H x H → ∀ (Qy : VK) (Qn : Hp → Prop), (∀ d y V' H', f i = some d → Ext V H V' H' → Dp K V' y d → Qy y H') → (f i = none → ∀ V' H', Ext V H V' H' → Qn H') →
      g x σ0 H fun σ2 H2 => wipe σ2 vs = σ0 ∧ tt σ2 H2 fun b H3 => if b = true then te σ2 H3 Qy else Qn H3)
    (hd : ∀ (U H : Hp) (xs : List V), Ext V0 H0 U H → U D = none → H D = some (.lst xs) → DpAll K U xs (fm f n) → Qd H) :
    ∃ W : Nat → Nat → Hp → Prop, (∃ m, W 0 m (upd H0 D (.lst []))) ∧ ∀ i m H, W i m H →
      (J.stop i H ∧ Qd H) ∨ (J.go i H ∧ ∃ Nx : Hp → Prop, (∀ H', Nx H' → ∃ m', m' < m ∧ W (i + 1) m' H') ∧ ∀ x H', J.yld i H x H' → g x (wipe σ vs) H' fun σ2 H2 => wipe σ2 vs = wipe σ vs ∧ tt σ2 H2 fun b H3 =>
        if b = true then te σ2 H3 fun y H4 => ∃ acc, H4 D = some (.lst acc) ∧ acc.length < sizeLine ∧ Nx (upd H4 D (.lst (acc ++ [y]))) else Nx H3) := by
  subst hσ
  refine lc_it wk (fun i H => LcInv K V0 H0 D (fm f i) H) (LcInv.start s0 hD) (fun i H _ p => ?_) (fun i x H H' hi p y => ?_) (fun H p => ?_)
  · obtain ⟨V, xs, x, _⟩ := p.ex
    exact hG H x.hh
  · obtain ⟨V, xs, x0, hv, hdd, dp⟩ := p.ex
    obtain rfl := hY i H x H' y
    refine hs i x V H' hi x0 y _ _ (fun d y' V' H4 e x2 dy => ?_) (fun e V' H4 x2 => ?_)
    · have hl : (fm f i).length < 100000 := Nat.lt_of_le_of_lt (fm_len f i) (Nat.lt_trans hi hn)
      obtain ⟨acc', a1, a2, a3⟩ := LcInv.push hD x0 hv hdd dp x2 dy hl
      refine ⟨acc', a1, a2, ?_⟩
      rw [fm_succ, e]
      exact a3
    · have hv' : V' D = none := x2.keepOut hv (by rw [hdd]; exact fun z => by cases z)
      rw [fm_succ, e]
      show LcInv K V0 H0 D (fm f i ++ []) H4
      rw [List.append_nil]
      exact ⟨V', xs, x0.trans x2, hv', x2.hh _ _ hdd, dp.to x2.vv⟩
  · obtain ⟨U, xs, x, hv, hdd, dp⟩ := p.ex
    exact hd U H xs x hv hdd dp
/-- a comprehension's reading over a walk that leaves the heap as it is: at turn i the item x, then f i: the data of what is put in, or none -/
theorem lc_dp {J : It} {n : Nat} {G : Hp → Prop} {Y : Nat → Hp → V → Hp → Prop} (wk : Walk J n G Y) {K : PySem.W.Frag} {V0 H0 : Hp} {D : Addr} {g : TG} {tt : TT} {te : TE} {vs : List Nat} {σ : St} {Qd : Hp → Prop} (f : Nat → Option PyData) (σ0 : St) (hσ : wipe σ vs = σ0) (s0 : Same V0 H0) (hD : H0 D = none) (hn : n < 100000)
    (hG : ∀ H, Same H0 H → G H) (hY : ∀ i H x H', Y i H x H' → H' = H)
    (hs : ∀ i x V H, i < n → Ext V0 H0 V H → Y i H x H → ∀ (Qy : VK) (Qn : Hp → Prop), (∀ d y V' H', f i = some d → Ext V H V' H' → Dp K V' y d → Qy y H') → (f i = none → ∀ V' H', Ext V H V' H' → Qn H') →
      g x σ0 H fun σ2 H2 => wipe σ2 vs = σ0 ∧ tt σ2 H2 fun b H3 => if b = true then te σ2 H3 Qy else Qn H3)
    (hd : ∀ (U H : Hp) (xs : List V), Ext V0 H0 U H → U D = some (.lst xs) → DpAll K U xs (fm f n) → Dp K U (.ref D) (.list (fm f n)) → Qd H) :
    ∃ W : Nat → Nat → Hp → Prop, (∃ m, W 0 m (upd H0 D (.lst []))) ∧ ∀ i m H, W i m H →
      (J.stop i H ∧ Qd H) ∨ (J.go i H ∧ ∃ Nx : Hp → Prop, (∀ H', Nx H' → ∃ m', m' < m ∧ W (i + 1) m' H') ∧ ∀ x H', J.yld i H x H' → g x (wipe σ vs) H' fun σ2 H2 => wipe σ2 vs = wipe σ vs ∧ tt σ2 H2 fun b H3 =>
        if b = true then te σ2 H3 fun y H4 => ∃ acc, H4 D = some (.lst acc) ∧ acc.length < sizeLine ∧ Nx (upd H4 D (.lst (acc ++ [y]))) else Nx H3) := by
  refine lc_dp0 wk f σ0 hσ s0 hD hn hG hY hs fun U H xs x hv hdd dp => ?_
  exact hd _ H xs (x.take hD hv hdd) upd_same (dp.to (same_upd hv)) (.lst (SqL.of upd_same) (dp.to (same_upd hv)))
theorem fm_map {α β : Type} (f : α → β) : ∀ (xs : List α), fm (fun i => (xs[i]?).map f) xs.length = xs.map f := by
  intro xs
  have h : ∀ n, n ≤ xs.length → fm (fun i => (xs[i]?).map f) n = (xs.take n).map f := by
    intro n
    induction n with
    | zero => intro _; rfl
    | succ n ih =>
      intro hn
      rw [fm_succ, ih (by omega), List.getElem?_eq_getElem (by omega), List.take_succ_eq_append_getElem (by omega), List.map_append]
      rfl
  rw [h _ (Nat.le_refl _), List.take_length]

theorem lc2_outer {J : It} {n : Nat} {G : Hp → Prop} {Y : Nat → Hp → V → Hp → Prop} (wk : Walk J n G Y) {K : PySem.W.Frag} {V0 H0 : Hp} {D : Addr} {g : TG} {vs : List Nat} {σ : St} {body : St → Hp → (Hp → Prop) → Prop} {Qd : Hp → Prop} (F : Nat → List PyData) (σ0 : St) (hσ : wipe σ vs = σ0) (s0 : Same V0 H0) (hD : H0 D = none) (hF : F 0 = [])
    (hG : ∀ H, Same H0 H → G H) (hY : ∀ i H x H', Y i H x H' → H' = H)
    (hs : ∀ i x H, i < n → LcInv K V0 H0 D (F i) H → Y i H x H → ∀ Nx : Hp → Prop, (∀ H', LcInv K V0 H0 D (F (i + 1)) H' → Nx H') → g x σ0 H fun σ2 H2 => wipe σ2 vs = σ0 ∧ body σ2 H2 Nx)
    (hd : ∀ (U H : Hp) (xs : List V), Ext V0 H0 U H → U D = some (.lst xs) → DpAll K U xs (F n) → Dp K U (.ref D) (.list (F n)) → Qd H) :
    ∃ W : Nat → Nat → Hp → Prop, (∃ m, W 0 m (upd H0 D (.lst []))) ∧ ∀ i m H, W i m H →
      (J.stop i H ∧ Qd H) ∨ (J.go i H ∧ ∃ Nx : Hp → Prop, (∀ H', Nx H' → ∃ m', m' < m ∧ W (i + 1) m' H') ∧ ∀ x H', J.yld i H x H' → g x (wipe σ vs) H' fun σ2 H2 => wipe σ2 vs = wipe σ vs ∧ body σ2 H2 Nx) := by
  subst hσ
  refine ⟨fun i m H => m = n - i ∧ i ≤ n ∧ LcInv K V0 H0 D (F i) H, ⟨n, by simp, Nat.zero_le _, by rw [hF]; exact LcInv.start s0 hD⟩, ?_⟩
  rintro i m H ⟨rfl, hi, p⟩
  have sH : Same H0 H := by obtain ⟨_, _, x, _⟩ := p.ex; exact x.hh
  by_cases hlt : i < n
  · refine .inr ⟨wk.goes i H hlt (hG H sH), fun H' => LcInv K V0 H0 D (F (i + 1)) H', fun H' p' => ⟨n - (i + 1), by omega, rfl, hlt, p'⟩, fun x H' y => ?_⟩
    have y' := wk.yields i H x H' hlt (hG H sH) y
    obtain rfl := hY i H x H' y'
    exact hs i x H' hlt p y' _ fun _ h => h
  · have e : i = n := by omega
    subst e
    obtain ⟨U, xs, x, e1, e2, e3⟩ := p.done hD
    exact .inl ⟨wk.stops H (hG H sH), hd U H xs x e1 e2 e3⟩
theorem lc2_inner {J : It} {n : Nat} {G : Hp → Prop} {Y : Nat → Hp → V → Hp → Prop} (wk : Walk J n G Y) {K : PySem.W.Frag} {V0 H0 H4 : Hp} {D : Addr} {acc0 : List PyData} {g : TG} {tt : TT} {te : TE} {vs : List Nat} {σ : St} {Nx : Hp → Prop} (f : Nat → Option PyData) (σ0 : St) (hσ : wipe σ vs = σ0) (hD : H0 D = none)
    (inv : LcInv K V0 H0 D acc0 H4) (hn : acc0.length + n < 100000) (hG : ∀ H, Same H0 H → G H) (hY : ∀ i H x H', Y i H x H' → H' = H)
    (hs : ∀ i x V H, i < n → Ext V0 H0 V H → Y i H x H → ∀ (Qy : VK) (Qn : Hp → Prop), (∀ d y V' H', f i = some d → Ext V H V' H' → Dp K V' y d → Qy y H') → (f i = none → ∀ V' H', Ext V H V' H' → Qn H') →
      g x σ0 H fun σ2 H2 => wipe σ2 vs = σ0 ∧ tt σ2 H2 fun b H3 => if b = true then te σ2 H3 Qy else Qn H3)
    (hd : ∀ H, LcInv K V0 H0 D (acc0 ++ fm f n) H → Nx H) :
    ∃ W : Nat → Nat → Hp → Prop, (∃ m, W 0 m H4) ∧ ∀ i m H, W i m H →
      (J.stop i H ∧ Nx H) ∨ (J.go i H ∧ ∃ Nx1 : Hp → Prop, (∀ H', Nx1 H' → ∃ m', m' < m ∧ W (i + 1) m' H') ∧ ∀ x H', J.yld i H x H' → g x (wipe σ vs) H' fun σ2 H2 => wipe σ2 vs = wipe σ vs ∧ tt σ2 H2 fun b H3 =>
        if b = true then te σ2 H3 fun y H4 => ∃ acc, H4 D = some (.lst acc) ∧ acc.length < sizeLine ∧ Nx1 (upd H4 D (.lst (acc ++ [y]))) else Nx1 H3) := by
  subst hσ
  refine ⟨fun i m H => m = n - i ∧ i ≤ n ∧ LcInv K V0 H0 D (acc0 ++ fm f i) H, ⟨n, by simp, Nat.zero_le _, by rw [show fm f 0 = [] from rfl, List.append_nil]; exact inv⟩, ?_⟩
  rintro i m H ⟨rfl, hi, p⟩
  have sH : Same H0 H := by obtain ⟨_, _, x, _⟩ := p.ex; exact x.hh
  by_cases hlt : i < n
  · refine .inr ⟨wk.goes i H hlt (hG H sH), fun H' => LcInv K V0 H0 D (acc0 ++ fm f (i + 1)) H', fun H' p' => ⟨n - (i + 1), by omega, rfl, hlt, p'⟩, fun x H' y => ?_⟩
    have y' := wk.yields i H x H' hlt (hG H sH) y
    obtain rfl := hY i H x H' y'
    obtain ⟨V, xs, x0, hv, hdd, dp⟩ := p.ex
    refine hs i x V H' hlt x0 y' _ _ (fun d y' V' H4 e x2 dy => ?_) (fun e V' H4 x2 => ?_)
    · have hl : (acc0 ++ fm f i).length < 100000 := by have := fm_len f i; rw [List.length_append]; omega
      obtain ⟨acc', a1, a2, a3⟩ := LcInv.push hD x0 hv hdd dp x2 dy hl
      refine ⟨acc', a1, a2, ?_⟩
      rw [fm_succ, e, ← List.append_assoc]
      exact a3
    · have hv' : V' D = none := x2.keepOut hv (by rw [hdd]; exact fun z => by cases z)
      rw [fm_succ, e]
      show LcInv K V0 H0 D (acc0 ++ (fm f i ++ [])) H4
      rw [List.append_nil]
      exact ⟨V', xs, x0.trans x2, hv', x2.hh _ _ hdd, dp.to x2.vv⟩
  · have e : i = n := by omega
    subst e
    exact .inl ⟨wk.stops H (hG H sH), hd H p⟩
theorem fm_some {α : Type} (f : Nat → α) (n : Nat) : fm (fun i => some (f i)) n = (List.range n).map f := by
  induction n with
  | zero => rfl
  | succ n ih => rw [fm_succ, ih, List.range_succ, List.map_append]; rfl
theorem fl_take' {α : Type} {β : Type} (f : α → List β) : ∀ (xs : List α) (i : Nat) (x : α), xs[i]? = some x → (xs.take (i + 1)).flatMap f = (xs.take i).flatMap f ++ f x := by
  intro xs i x h
  obtain ⟨hi, e⟩ := List.getElem?_eq_some_iff.mp h
  rw [List.take_succ_eq_append_getElem hi, List.flatMap_append, e]
  show _ ++ (f x ++ []) = _
  rw [List.append_nil]
theorem fl_le' {α : Type} {β : Type} (f : α → List β) (xs : List α) (i : Nat) : ((xs.take i).flatMap f).length ≤ (xs.flatMap f).length := by
  have : xs.flatMap f = (xs.take i).flatMap f ++ (xs.drop i).flatMap f := by rw [← List.flatMap_append, List.take_append_drop]
  rw [this, List.length_append]; omega
/-! ### lists of ints, texts -/
theorem tyL {K : PySem.W.Frag} {H : Hp} {a : Addr} {xs : List V} (h : SqL K H a xs) : TyX K H (.ref a) (.type "list") := by
  rcases h with (h | ⟨o, h⟩) | ⟨o, its, n, h, c, _⟩
  · exact .base (.lst h)
  · exact .base (.frz h)
  · exact .kList h c
theorem tyT {K : PySem.W.Frag} {H : Hp} {a : Addr} {xs : List V} (h : SqT K H a xs) : TyX K H (.ref a) (.type "tuple") := by
  rcases h with (h | ⟨o, h⟩) | ⟨o, its, n, h, c, _⟩
  · exact .base (.tup h)
  · exact .fTuple h
  · exact .kTuple h c
theorem dp_intsV {K : PySem.W.Frag} {H : Hp} : ∀ {xs : List V} {is : List Int}, DpAll K H xs (is.map PyData.int) → xs = is.map V.int
  | _, [], r => by cases r; rfl
  | _, i :: is, r => by
    cases r with
    | cons r1 r2 => cases r1; rw [dp_intsV r2]; rfl
theorem dp_intsL {K : PySem.W.Frag} {H : Hp} {a : Addr} {is : List Int} (h : Dp K H (.ref a) (.list (is.map PyData.int))) : SqL K H a (is.map V.int) := by
  obtain ⟨a', xs, e, q, r⟩ := dp_list h
  cases e
  rw [← dp_intsV r]; exact q
theorem dp_strsV {K : PySem.W.Frag} {H : Hp} : ∀ {xs : List V} {is : List Str}, DpAll K H xs (is.map PyData.str) → xs = is.map V.str
  | _, [], r => by cases r; rfl
  | _, i :: is, r => by
    cases r with
    | cons r1 r2 => cases r1; rw [dp_strsV r2]; rfl
theorem dp_boolsV {K : PySem.W.Frag} {H : Hp} : ∀ {xs : List V} {is : List Bool}, DpAll K H xs (is.map PyData.bool) → xs = is.map V.bl
  | _, [], r => by cases r; rfl
  | _, i :: is, r => by
    cases r with
    | cons r1 r2 => cases r1; rw [dp_boolsV r2]; rfl
theorem dp_boolsL {K : PySem.W.Frag} {H : Hp} {a : Addr} {is : List Bool} (h : Dp K H (.ref a) (.list (is.map PyData.bool))) : SqL K H a (is.map V.bl) := by
  obtain ⟨a', xs, e, q, r⟩ := dp_list h
  cases e
  rw [← dp_boolsV r]; exact q
theorem size_eq (z : Str) : z.cps.size = z.cps.toList.length := by simp
theorem cps_at (z : Str) (i : Nat) : z.cps[i]? = z.cps.toList[i]? := by simp
theorem fm_list {α β : Type} (f : α → β) (xs : List α) (n : Nat) (h : n = xs.length) (g : Nat → Option β) (hg : ∀ i x, xs[i]? = some x → g i = some (f x)) : fm g n = xs.map f := by
  subst h
  rw [← fm_map f xs]
  unfold fm
  have : ∀ l : List Nat, (∀ i ∈ l, i < xs.length) → l.filterMap g = l.filterMap fun i => (xs[i]?).map f := by
    intro l
    induction l with
    | nil => intro _; rfl
    | cons i l ih =>
      intro hl
      have hi' := hl i List.mem_cons_self
      rw [List.filterMap_cons, List.filterMap_cons, hg i _ (List.getElem?_eq_getElem hi'), List.getElem?_eq_getElem hi', ih fun j hj => hl j (List.mem_cons_of_mem _ hj)]
      rfl
  exact this _ fun i hi => List.mem_range.mp hi
theorem rep_flat {α : Type} (v : α) : ∀ n : Nat, (List.replicate n [v]).flatten = List.replicate n v
  | 0 => rfl
  | n + 1 => by rw [List.replicate_succ, List.replicate_succ, List.flatten_cons, rep_flat v n]; rfl
/-- a list's object that is tracked, at p, new -/
structure NewL (H H' : Hp) (p : Addr) (xs : List V) : Prop where
  new : H p = none
  same : Same H H'
  at_ : H' p = some (.lst xs)
theorem NewL.ext {U H H' : Hp} {p : Addr} {xs : List V} (n : NewL H H' p xs) (s : Same U H) : Ext U H (upd U p (.lst xs)) H' :=
  ⟨same_upd (s.free n.new), fun b u e => by
    by_cases hb : b = p
    · subst hb; rw [upd_same] at e; rw [n.at_]; exact e
    · rw [upd_ne hb] at e; exact n.same _ _ (s b u e), n.same, fun a e => by
    by_cases ha : a = p
    · subst ha; exact Or.inr n.new
    · rw [upd_ne ha] at e; exact Or.inl e⟩
theorem str_app (x y : Str) : (x ++ y).cps.toList = x.cps.toList ++ y.cps.toList := Array.toList_append
theorem str_len_app (x y : Str) : (x ++ y).length = x.length + y.length := by
  show (x ++ y).cps.size = x.cps.size + y.cps.size
  rw [size_eq, str_app, List.length_append, ← size_eq, ← size_eq]
/-! ### _law_cell, _law_row -/
def lawCell (ns : List Int) (k : Nat) : Int :=
  let c := if 0 < ns.length then ns.getD (k % ns.length) 0 else 0
  if c < 0 then 1 - 2 * c else c
theorem lawCell_nn (ns : List Int) (k : Nat) : 0 ≤ lawCell ns k := by
  unfold lawCell
  simp only
  split <;> omega
def lawOne (c : Int) (k : Nat) : Int := (c * 48271 + (k : Int) * 69621 + 12345) % 2147483647
def lawTwo (o : Int) (k : Nat) : Int := (o * o + 16807 * (k : Int) + 7) % 2147483629
def lawRow (ns : List Int) (k : Nat) : Int :=
  if k < ns.length ∧ 1000000000 ≤ lawCell ns k then lawCell ns k
  else (lawTwo (lawOne (lawCell ns k) k) k * lawTwo (lawOne (lawCell ns k) k) k + lawOne (lawCell ns k) k) % 4294967291 + 4294967296 * (lawOne (lawCell ns k) k + 1)
theorem lawOne_b (c : Int) (k : Nat) : 0 ≤ lawOne c k ∧ lawOne c k < 2147483647 := by unfold lawOne; omega
theorem lawTwo_b (c : Int) (k : Nat) : 0 ≤ lawTwo c k ∧ lawTwo c k < 2147483629 := by
  unfold lawTwo
  generalize c * c + 16807 * (k : Int) + 7 = x
  omega
theorem lawRow_nn (ns : List Int) (k : Nat) : 0 ≤ lawRow ns k := by
  unfold lawRow
  have h1 := lawOne_b (lawCell ns k) k
  split
  · exact lawCell_nn ns k
  · generalize lawTwo (lawOne (lawCell ns k) k) k * lawTwo (lawOne (lawCell ns k) k) k + lawOne (lawCell ns k) k = x
    omega
def sp__law_cell (K : PySem.W.Frag) : Sp := fun vs H Q _ => ∃ (a : Addr) (ns : List Int) (k : Nat), vs = [.ref a, .int (k : Int)] ∧ SqL K H a (ns.map V.int) ∧ Q (.int (lawCell ns k)) H
theorem sc__law_cell : FnScope ["script", "k", "cell"] ["script", "k"] (defScope s__law_cell) := ⟨rfl, rfl, rfl, by decide +kernel, rfl, by decide +kernel, by decide +kernel⟩
theorem ok__law_cell (T : Txt K mg A) : FnOk P w K mg base CX0 1 A.f_law_cell A.d_law_cell ["script", "k"] (sp__law_cell K) := by
  refine T.F_law_cell.ok sc__law_cell (fun vs H Q E h => ?_) (fun cdv Ar outer s H vs Q E hr h => ?_)
  · obtain ⟨a, ns, k, rfl, _⟩ := h
    rfl
  · obtain ⟨a, ns, k, rfl, hS, q⟩ := h
    refine ⟨_, (pss_cons (ps_set (i := 2) sc__law_cell.nd rfl (Or.inl rfl) pe_int)
      (pss_cons (ps_if (pt_cmpR op_gt (pe_callB call_len_seq (by rfl) T.len PySem.boot_len (pa_cons (pv 0) pa_nil)) pe_int (nomark _))
      (pss_one (ps_set (i := 2) sc__law_cell.nd rfl (Or.inl rfl) (pe_ix ix_list (pv 0) (pe_op op_mod (pe_callTy call_int1 (by rfl) T.int (by decide +kernel) (pa_cons (pv 1) pa_nil)) (pe_callB call_len_seq (by rfl) T.len PySem.boot_len (pa_cons (pv 0) pa_nil))) (fun _ _ => rfl))))
      pss_nil)
      (pss_cons (ps_if (pt_cmpR op_lt (pv 2) pe_int (nomark _))
      (pss_one (ps_set (i := 2) sc__law_cell.nd rfl (Or.inl rfl) (pe_op op_sub pe_int (pe_op op_mul pe_int (pv 2)))))
      pss_nil)
      (pss_one (ps_ret (pv 2)))))), ?_⟩
    have two : ∀ (c : Int), (if c < 0 then 1 - 2 * c else c) = lawCell ns k → tSeq (tIfS (tTest (tOp (rI0 fun i j => .bl (decide (i < j))) (tVar 2) (tC (.int 0)))) (tAsg (tOp (rI0 fun i j => .int (i - j)) (tC (.int 1)) (tOp (rI CMul fun i j => .int (i * j)) (tC (.int 2)) (tVar 2))) (gName 2)) tNext) (tRet (tVar 2))
        { nx := fun _ H' => Q .non H', rt := Q } [some (.ref a), some (.int (k : Int)), some (.int c)] H := by
      intro c hc
      walk_at "rd"
      refine iteP (fun h => ?_) (fun h => ?_)
      · rw [if_pos h] at hc
        walk_at "rd"
        rw [← hc] at q; exact q
      · rw [if_neg h] at hc
        walk_at "rd"
        rw [← hc] at q; exact q
    refine ⟨.ref a, rfl, a, _, rfl, .inl hS, _, _, rfl, rfl, _, rfl, iteP (fun h => ?_) (fun h => ?_)⟩
    · have h0 : 0 < ns.length := by rw [List.length_map] at h; omega
      refine ⟨_, rfl, _, rfl, Or.inl ⟨_, rfl, ?_⟩⟩
      refine ⟨_, rfl, a, _, rfl, .inl hS, _, _, rfl, rfl, by show (0 : Int) < _; omega, a, _, _, .int (ns.getD (k % ns.length) 0), rfl, rfl, hS, ?_, ?_⟩
      · refine at_of (j := k % ns.length) ?_ ?_
        · rw [List.length_map]; exact (Int.natCast_emod _ _).symm
        · rw [List.getElem?_map, List.getElem?_eq_getElem (Nat.mod_lt _ h0), List.getD_eq_getElem?_getD, List.getElem?_eq_getElem (Nat.mod_lt _ h0)]; rfl
      · refine two _ ?_
        unfold lawCell; rw [if_pos h0]
    · have h0 : ¬ 0 < ns.length := by rw [List.length_map] at h; omega
      refine two _ ?_
      unfold lawCell; rw [if_neg h0]
def sp__law_row (K : PySem.W.Frag) : Sp := fun vs H Q _ => ∃ (a : Addr) (ns : List Int) (k : Nat), vs = [.ref a, .int (k : Int)] ∧ SqL K H a (ns.map V.int) ∧ Q (.int (lawRow ns k)) H
theorem sc__law_row : FnScope ["script", "k", "cell", "one", "two"] ["script", "k"] (defScope s__law_row) := ⟨rfl, rfl, rfl, by decide +kernel, rfl, by decide +kernel, by decide +kernel⟩
theorem ok__law_row (T : Txt K mg A) : FnOk P w K mg base CX0 2 A.f_law_row A.d_law_row ["script", "k"] (sp__law_row K) := by
  refine T.F_law_row.ok sc__law_row (fun vs H Q E h => ?_) (fun cdv Ar outer s H vs Q E hr h => ?_)
  · obtain ⟨a, ns, k, rfl, _⟩ := h
    rfl
  · obtain ⟨a, ns, k, rfl, hS, q⟩ := h
    refine ⟨_, (pss_cons (ps_set (i := 2) sc__law_row.nd rfl (Or.inl rfl) (pe_call (ok__law_cell T) (hr.mono (by decide)) rfl T.g_law_cell T.k_law_cell T.b_law_cell .nil pass0 (pa_cons (pv 0) (pa_cons (pv 1) pa_nil))))
      (pss_cons (ps_if (PW.pt (pw_and (pt_cmpR op_lt (pv 1) (pe_callB call_len_seq (by rfl) T.len PySem.boot_len (pa_cons (pv 0) pa_nil)) (nomark _)) (pw_and1 (pt_cmpR op_ge (pv 2) pe_int (nomark _)))))
      (pss_one (ps_ret (pv 2)))
      pss_nil)
      (pss_cons (ps_set (i := 3) sc__law_row.nd rfl (Or.inl rfl) (pe_op op_mod (pe_callTy call_int1 (by rfl) T.int (by decide +kernel) (pa_cons (pe_op op_add (pe_op op_add (pe_op op_mul (pv 2) pe_int) (pe_op op_mul (pv 1) pe_int)) pe_int) pa_nil)) pe_int))
      (pss_cons (ps_set (i := 4) sc__law_row.nd rfl (Or.inl rfl) (pe_op op_mod (pe_callTy call_int1 (by rfl) T.int (by decide +kernel) (pa_cons (pe_op op_add (pe_op op_add (pe_op op_mul (pv 3) (pv 3)) (pe_op op_mul pe_int (pv 1))) pe_int) pa_nil)) pe_int))
      (pss_one (ps_ret (pe_op op_add (pe_op op_mod (pe_callTy call_int1 (by rfl) T.int (by decide +kernel) (pa_cons (pe_op op_add (pe_op op_mul (pv 4) (pv 4)) (pv 3)) pa_nil)) pe_int) (pe_op op_mul pe_int (pe_op op_add (pv 3) pe_int))))))))), ?_⟩
    have b1 := lawOne_b (lawCell ns k) k
    have b2 := lawTwo_b (lawOne (lawCell ns k) k) k
    have m1 : CMul (lawOne (lawCell ns k) k) (lawOne (lawCell ns k) k) := Or.inl ⟨by omega, by omega⟩
    have m2 : CMul (lawTwo (lawOne (lawCell ns k) k) k) (lawTwo (lawOne (lawCell ns k) k) k) := Or.inl ⟨by omega, by omega⟩
    refine ⟨_, rfl, _, rfl, a, ns, k, rfl, hS, ?_⟩
    refine ⟨_, rfl, _, rfl, a, _, rfl, .inl hS, _, _, rfl, rfl, _, rfl, ?_⟩
    refine iteP (fun h => ?_) (fun h => ?_)
    · refine ⟨_, rfl, _, _, rfl, rfl, _, rfl, iteP (fun h2 => ?_) (fun h2 => ?_)⟩
      · have e : lawRow ns k = lawCell ns k := by unfold lawRow; rw [if_pos ⟨by rw [List.length_map] at h; omega, h2⟩]
        rw [e] at q
        exact ⟨_, rfl, q⟩
      · unfold lawRow at q
        rw [if_neg fun z => h2 z.2] at q
        walk_at "rd"
        refine ⟨m1, ?_⟩
        walk_at "rd"
        refine ⟨m2, ?_⟩
        walk_at "rd"
        exact q
    · unfold lawRow at q
      rw [if_neg fun z => h (by rw [List.length_map]; omega)] at q
      walk_at "rd"
      refine ⟨m1, ?_⟩
      walk_at "rd"
      refine ⟨m2, ?_⟩
      walk_at "rd"
      exact q
/-! ### a word that goes on by itself -/
theorem iteVP {p A B : Prop} [Decidable p] (h1 : p → A) (h2 : ¬ p → B) : if p then A else B := by
  by_cases h : p
  · rw [if_pos h]; exact h1 h
  · rw [if_neg h]; exact h2 h
/-- a new tuple is handed back -/
def RetT (H : Hp) (Q : VK) (xs : List V) : Prop := ∀ p H', Same H H' → H' p = some (.tup xs) → Q (.ref p) H'
theorem RetT.go {H : Hp} {Q : VK} {xs : List V} (h : ∀ p H', Same H H' → H' p = some (.tup xs) → Q (.ref p) H') : RetT H Q xs := h
theorem ne_self {d e : PyData} {A B : Prop} (hs : SeqAt.shaped d = true) (h : d = e) (hB : B) : if (!PyData.eqv d e) = true then A else B := by
  subst h
  have h2 : (d.canLay0 && decide (d.depth ≤ 64)) = true := hs
  have : PyData.eqv d d = true := SeqAt.eqv_refl d (by rw [Bool.and_eq_true] at h2; exact h2.1)
  rw [this]
  exact iteF hB
theorem eq_self {d e : PyData} {A B : Prop} (hs : SeqAt.shaped d = true) (h : d = e) (hA : A) : if PyData.eqv d e = true then A else B := by
  subst h
  have h2 : (d.canLay0 && decide (d.depth ≤ 64)) = true := hs
  have : PyData.eqv d d = true := SeqAt.eqv_refl d (by rw [Bool.and_eq_true] at h2; exact h2.1)
  rw [this]
  exact iteT hA
theorem t_ne {K : PySem.W.Frag} {x y : V} {H : Hp} {Q : VK} {d e : PyData} (h1 : Dp K H x d) (h2 : Dp K H y e) (s1 : SeqAt.shaped d = true) (s2 : SeqAt.shaped e = true) (q : Q (.bl (!PyData.eqv d e)) H) : rNeD K x y H Q := ⟨d, e, h1, h2, s1, s2, q⟩
theorem t_eq {K : PySem.W.Frag} {x y : V} {H : Hp} {Q : VK} {d e : PyData} (h1 : Dp K H x d) (h2 : Dp K H y e) (s1 : SeqAt.shaped d = true) (s2 : SeqAt.shaped e = true) (q : Q (.bl (PyData.eqv d e)) H) : rEqD K x y H Q := ⟨d, e, h1, h2, s1, s2, q⟩
/-! words that go on by themselves -/
local macro_rules | `(tactic| walk_at "sq") => `(tactic| first
  | exact SqT.of upd_same
  | exact SqL.of upd_same
  | assumption
  | exact SqT.of (by assumption)
  | exact SqL.of (by assumption)
  | (apply Same.sqt (same_upd (by assumption)); walk_at "sq")
  | (apply Same.seq (same_upd (by assumption)); walk_at "sq")
  | (apply Same.sqt (by assumption); walk_at "sq")
  | (apply Same.seq (by assumption); walk_at "sq"))
local macro_rules | `(tactic| walk_at "sm") => `(tactic| first
  | exact Same.refl _
  | assumption
  | (apply Same.trans _ (same_upd (by assumption)); walk_at "sm")
  | (apply Same.trans _ (by assumption); walk_at "sm"))
local macro_rules | `(tactic| walk_at "at") => `(tactic| first
  | exact atI_nat (j := 0) rfl
  | exact atI_nat (j := 1) rfl
  | exact atI_nat (j := 2) rfl
  | exact atI_nat (j := 3) rfl
  | exact atI_nat (j := 4) rfl
  | exact atI_nat (j := 5) rfl)
local macro_rules | `(tactic| walk_at "go1") => `(tactic| first
  | refine ⟨_, rfl, ?_⟩
  | refine ⟨_, _, rfl, rfl, ?_⟩
  | refine ⟨rfl, ?_⟩
  | refine Or.inl ⟨_, rfl, ?_⟩
  | refine ⟨(by show (0 : Int) < _; decide), ?_⟩
  | refine ⟨(⟨by decide, by decide⟩ : CDiv _ _), ?_⟩
  | refine ⟨(Or.inl ⟨by decide, by decide⟩ : CMul _ _), ?_⟩
  | refine ⟨(Or.inr ⟨by decide, by decide⟩ : CMul _ _), ?_⟩
  | refine ⟨_, _, rfl, ?_⟩
  | refine ⟨_, _, _, rfl, ?_⟩
  | refine ⟨_, _, _, _, rfl, ?_⟩
  | (refine And.intro (a := (0 : Int) ≤ _) ?_ ?_; focus omega)
  | (refine And.intro (a := _ ≤ sizeLine) ?_ (fun p hp => ?_); (focus (exact len_line (Nat.le_of_ble_eq_true rfl))))
  | refine RetT.go (fun p H' s e => ?_)
  | refine if_t rfl ?_
  | refine if_f rfl ?_
  | refine ⟨_, _, rfl, (by walk_at "sq"), rfl, ?_⟩
  | refine ⟨_, _, rfl, Or.inl (by walk_at "sq"), ?_⟩
  | refine ⟨_, _, rfl, Or.inr (by walk_at "sq"), ?_⟩
  | refine ⟨_, _, _, _, rfl, rfl, (by walk_at "sq"), (by walk_at "at"), ?_⟩
  | refine ⟨_, _, rfl, (by walk_at "sq"), (by show ¬(HT.sIx 4 0 (some 2) = 0 ∧ HT.sIx 4 4 none = 4); decide), fun p hp => ?_⟩
  | refine ⟨_, _, _, _, rfl, rfl, (by walk_at "sq"), (by walk_at "sq"), (by intro h; cases h), len_line (Nat.le_of_ble_eq_true rfl), (fun h => by cases h), fun _ p hp => ?_⟩)
local macro_rules | `(tactic| walk_at "go") => `(tactic| repeat walk_at "go1")
local macro_rules | `(tactic| walk_at "dps") => `(tactic| first
  | exact DpAll.nil
  | (apply DpAll.cons; (focus (walk_at "dp")); (focus (walk_at "dps"))))
local macro_rules | `(tactic| walk_at "dp") => `(tactic| first
  | exact Dp.int _
  | exact Dp.bl _
  | exact Dp.str _
  | exact Dp.non
  | (apply Dp.tup; (focus (walk_at "sq")); (focus (walk_at "dps")))
  | (apply Dp.lst; (focus (walk_at "sq")); (focus (walk_at "dps"))))
local macro_rules | `(tactic| walk_at "sh") => `(tactic| (show (PyData.canLay0 _ && decide (PyData.depth _ ≤ 64)) = true; simp [PyData.canLay0, PyData.canLayAll0, PyData.depth, PyData.depthAll]))
/-- a deep comparison: what is left is the if -/
local macro_rules | `(tactic| walk_at "ne") => `(tactic| (apply t_ne; (focus (walk_at "dp")); (focus (walk_at "dp")); (focus (walk_at "sh")); (focus (walk_at "sh")); refine ⟨_, rfl, ?_⟩))
local macro_rules | `(tactic| walk_at "neS") => `(tactic| (walk_at "ne"; refine ne_self ?_ ?_ ?_; (focus (walk_at "sh"))))
/-! ### places of popups -/
def mx (i j : Int) : Int := if j > i then j else i
def mn (i j : Int) : Int := if j < i then j else i
def sp_overlap_axis (K : PySem.W.Frag) : Sp := fun vs H Q _ => ∃ b l ob ol : Int, vs = [.int b, .int l, .int ob, .int ol] ∧ RetT H Q [.int (mx b ob), .int (mx (mn (b + l) (ob + ol) - mx b ob) 0)]
theorem sc_overlap_axis : FnScope ["begin", "length", "other_begin", "other_length", "first"] ["begin", "length", "other_begin", "other_length"] (defScope s_overlap_axis) := ⟨rfl, rfl, rfl, by decide +kernel, rfl, by decide +kernel, by decide +kernel⟩
theorem ok_overlap_axis (T : Txt K mg A) : FnOk P w K mg base CX0 1 A.foverlap_axis A.doverlap_axis ["begin", "length", "other_begin", "other_length"] (sp_overlap_axis K) := by
  refine T.Foverlap_axis.ok sc_overlap_axis (fun vs H Q E h => ?_) (fun cdv Ar outer s H vs Q E hr h => ?_)
  · obtain ⟨_, _, _, _, rfl, _⟩ := h
    rfl
  · obtain ⟨b, l, ob, ol, rfl, q⟩ := h
    refine ⟨_, (pss_cons (ps_set (i := 4) sc_overlap_axis.nd rfl (Or.inl rfl) (pe_callB (call_max2 rfl) (by rfl) T.max (by decide +kernel) (pa_cons (pv 0) (pa_cons (pv 2) pa_nil))))
      (pss_one (ps_ret (pe_tup (pa_cons (pv 4) (pa_cons (pe_callB (call_max2 rfl) (by rfl) T.max (by decide +kernel) (pa_cons (pe_op op_sub (pe_callB (call_min2 rfl) (by rfl) T.min (by decide +kernel) (pa_cons (pe_op op_add (pv 0) (pv 1)) (pa_cons (pe_op op_add (pv 2) (pv 3)) pa_nil))) (pv 4)) (pa_cons pe_int pa_nil))) pa_nil)))))), ?_⟩
    walk_at "go"
    exact q _ _ (by walk_at "sm") upd_same
/-! ### rectangles -/
structure Rc where
  x : Int
  y : Int
  w : Int
  h : Int
def rv (r : Rc) : List V := [.int r.x, .int r.y, .int r.w, .int r.h]
def ovR (a b : Rc) : Rc := ⟨mx a.x b.x, mx a.y b.y, mx (mn (a.x + a.w) (b.x + b.w) - mx a.x b.x) 0, mx (mn (a.y + a.h) (b.y + b.h) - mx a.y b.y) 0⟩
def sp_overlap (K : PySem.W.Frag) : Sp := fun vs H Q _ => ∃ (p1 p2 : Addr) (a b : Rc), vs = [.ref p1, .ref p2] ∧ SqT K H p1 (rv a) ∧ SqT K H p2 (rv b) ∧ RetT H Q (rv (ovR a b))
theorem sc_overlap : FnScope ["a", "b", "left", "width", "top", "height"] ["a", "b"] (defScope s_overlap) := ⟨rfl, rfl, rfl, by decide +kernel, rfl, by decide +kernel, by decide +kernel⟩
theorem ok_overlap (T : Txt K mg A) : FnOk P w K mg base CX0 2 A.foverlap A.doverlap ["a", "b"] (sp_overlap K) := by
  refine T.Foverlap.ok sc_overlap (fun vs H Q E h => ?_) (fun cdv Ar outer s H vs Q E hr h => ?_)
  · obtain ⟨_, _, _, _, rfl, _⟩ := h
    rfl
  · obtain ⟨p1, p2, a, b, rfl, h1, h2, q⟩ := h
    refine ⟨_, (pss_cons (ps_asg (pe_call (ok_overlap_axis T) (hr.mono (by decide)) rfl T.goverlap_axis T.koverlap_axis T.boverlap_axis .nil pass0 (pa_cons (pe_ix (r := rIxT K) ix_tup (pv 0) pe_int (fun _ _ => rfl)) (pa_cons (pe_ix (r := rIxT K) ix_tup (pv 0) pe_int (fun _ _ => rfl)) (pa_cons (pe_ix (r := rIxT K) ix_tup (pv 1) pe_int (fun _ _ => rfl)) (pa_cons (pe_ix (r := rIxT K) ix_tup (pv 1) pe_int (fun _ _ => rfl)) pa_nil))))) (pg_tup rfl (pgs_cons (pg_name (i := 2) sc_overlap.nd rfl (Or.inl rfl)) (pgs_cons (pg_name (i := 3) sc_overlap.nd rfl (Or.inl rfl)) pgs_nil))))
      (pss_cons (ps_asg (pe_call (ok_overlap_axis T) (hr.mono (by decide)) rfl T.goverlap_axis T.koverlap_axis T.boverlap_axis .nil pass0 (pa_cons (pe_ix (r := rIxT K) ix_tup (pv 0) pe_int (fun _ _ => rfl)) (pa_cons (pe_ix (r := rIxT K) ix_tup (pv 0) pe_int (fun _ _ => rfl)) (pa_cons (pe_ix (r := rIxT K) ix_tup (pv 1) pe_int (fun _ _ => rfl)) (pa_cons (pe_ix (r := rIxT K) ix_tup (pv 1) pe_int (fun _ _ => rfl)) pa_nil))))) (pg_tup rfl (pgs_cons (pg_name (i := 4) sc_overlap.nd rfl (Or.inl rfl)) (pgs_cons (pg_name (i := 5) sc_overlap.nd rfl (Or.inl rfl)) pgs_nil))))
      (pss_one (ps_ret (pe_tup (pa_cons (pv 2) (pa_cons (pv 4) (pa_cons (pv 3) (pa_cons (pv 5) pa_nil))))))))), ?_⟩
    walk_at "go"
    exact q _ _ (by walk_at "sm") upd_same
def hasR (r : Rc) : Bool := decide (r.w > 0) && decide (r.h > 0)
def sp_has_squares (K : PySem.W.Frag) : Sp := fun vs H Q _ => ∃ (p1 : Addr) (a : Rc), vs = [.ref p1] ∧ SqT K H p1 (rv a) ∧ Q (.bl (hasR a)) H
theorem sc_has_squares : FnScope ["rectangle"] ["rectangle"] (defScope s_has_squares) := ⟨rfl, rfl, rfl, by decide +kernel, rfl, by decide +kernel, by decide +kernel⟩
theorem ok_has_squares (T : Txt K mg A) : FnOk P w K mg base CX0 1 A.fhas_squares A.dhas_squares ["rectangle"] (sp_has_squares K) := by
  refine T.Fhas_squares.ok sc_has_squares (fun vs H Q E h => ?_) (fun cdv Ar outer s H vs Q E hr h => ?_)
  · obtain ⟨_, _, rfl, _⟩ := h
    rfl
  · obtain ⟨p1, a, rfl, h1, q⟩ := h
    refine ⟨_, (pss_one (ps_ret (pe_and (pe_cmpR op_gt (pe_ix (r := rIxT K) ix_tup (pv 0) pe_int (fun _ _ => rfl)) pe_int (nomark _)) (pe_one (pe_cmpR op_gt (pe_ix (r := rIxT K) ix_tup (pv 0) pe_int (fun _ _ => rfl)) pe_int (nomark _)))))), ?_⟩
    unfold hasR at q
    walk_at "go"
    refine iteP (fun h => ?_) (fun h => ?_)
    · rw [decide_eq_true h] at q; walk_at "go"; exact q
    · rw [decide_eq_false h] at q; exact q
def inR (r : Rc) (x y : Int) : Bool := (decide (r.x ≤ x) && decide (x < r.x + r.w)) && (decide (r.y ≤ y) && decide (y < r.y + r.h))
def sp_has_point (K : PySem.W.Frag) : Sp := fun vs H Q _ => ∃ (p1 : Addr) (a : Rc) (x y : Int), vs = [.ref p1, .int x, .int y] ∧ SqT K H p1 (rv a) ∧ Q (.bl (inR a x y)) H
theorem sc_has_point : FnScope ["rectangle", "x", "y"] ["rectangle", "x", "y"] (defScope s_has_point) := ⟨rfl, rfl, rfl, by decide +kernel, rfl, by decide +kernel, by decide +kernel⟩
theorem ok_has_point (T : Txt K mg A) : FnOk P w K mg base CX0 1 A.fhas_point A.dhas_point ["rectangle", "x", "y"] (sp_has_point K) := by
  refine T.Fhas_point.ok sc_has_point (fun vs H Q E h => ?_) (fun cdv Ar outer s H vs Q E hr h => ?_)
  · obtain ⟨_, _, _, _, rfl, _⟩ := h
    rfl
  · obtain ⟨p1, a, x, y, rfl, h1, q⟩ := h
    refine ⟨_, (pss_one (ps_ret (pe_and (pe_chain op_le op_lt (pe_ix (r := rIxT K) ix_tup (pv 0) pe_int (fun _ _ => rfl)) (pv 1) (pe_op op_add (pe_ix (r := rIxT K) ix_tup (pv 0) pe_int (fun _ _ => rfl)) (pe_ix (r := rIxT K) ix_tup (pv 0) pe_int (fun _ _ => rfl)))) (pe_one (pe_chain op_le op_lt (pe_ix (r := rIxT K) ix_tup (pv 0) pe_int (fun _ _ => rfl)) (pv 2) (pe_op op_add (pe_ix (r := rIxT K) ix_tup (pv 0) pe_int (fun _ _ => rfl)) (pe_ix (r := rIxT K) ix_tup (pv 0) pe_int (fun _ _ => rfl)))))))), ?_⟩
    unfold inR at q
    walk_at "go"
    refine iteP (fun h => ?_) (fun h => ?_)
    · rw [decide_eq_true h] at q; walk_at "go"
      refine if_b (fun h => ?_) (fun h => ?_)
      · rw [h] at q
        walk_at "go"
        refine iteP (fun h => ?_) (fun h => ?_)
        · rw [decide_eq_true h] at q; walk_at "go"; exact q
        · rw [decide_eq_false h] at q; walk_at "go"; exact q
      · rw [h] at q; exact q
    · rw [decide_eq_false h] at q; walk_at "go"; exact q
def insR (f : Rc) : Rc := ⟨f.x + 2, f.y + 10, f.w - 2 * 2, f.h - 10 - 2⟩
def frmR (f : Rc) : Rc := ⟨f.x - 2, f.y - 10, f.w + 2 * 2, f.h + 10 + 2⟩
def sp_inside_of (K : PySem.W.Frag) : Sp := fun vs H Q _ => ∃ (p1 : Addr) (a : Rc), vs = [.ref p1] ∧ SqT K H p1 (rv a) ∧ RetT H Q (rv (insR a))
theorem sc_inside_of : FnScope ["frame", "x", "y", "width", "height"] ["frame"] (defScope s_inside_of) := ⟨rfl, rfl, rfl, by decide +kernel, rfl, by decide +kernel, by decide +kernel⟩
theorem ok_inside_of (T : Txt K mg A) : FnOk P w K mg base CX0 1 A.finside_of A.dinside_of ["frame"] (sp_inside_of K) := by
  refine T.Finside_of.ok sc_inside_of (fun vs H Q E h => ?_) (fun cdv Ar outer s H vs Q E hr h => ?_)
  · obtain ⟨_, _, rfl, _⟩ := h
    rfl
  · obtain ⟨p1, a, rfl, h1, q⟩ := h
    refine ⟨_, (pss_cons (ps_asg (pv 0) (pg_tup rfl (pgs_cons (pg_name (i := 1) sc_inside_of.nd rfl (Or.inl rfl)) (pgs_cons (pg_name (i := 2) sc_inside_of.nd rfl (Or.inl rfl)) (pgs_cons (pg_name (i := 3) sc_inside_of.nd rfl (Or.inl rfl)) (pgs_cons (pg_name (i := 4) sc_inside_of.nd rfl (Or.inl rfl)) pgs_nil))))))
      (pss_one (ps_ret (pe_tup (pa_cons (pe_op op_add (pv 1) (pe_glob (v := .int (2)) rfl T.gBORDER ⟨_, rfl⟩)) (pa_cons (pe_op op_add (pv 2) (pe_glob (v := .int (10)) rfl T.gTITLE_BAR ⟨_, rfl⟩)) (pa_cons (pe_op op_sub (pv 3) (pe_op op_mul pe_int (pe_glob (v := .int (2)) rfl T.gBORDER ⟨_, rfl⟩))) (pa_cons (pe_op op_sub (pe_op op_sub (pv 4) (pe_glob (v := .int (10)) rfl T.gTITLE_BAR ⟨_, rfl⟩)) (pe_glob (v := .int (2)) rfl T.gBORDER ⟨_, rfl⟩)) pa_nil)))))))), ?_⟩
    walk_at "go"
    exact q _ _ (by walk_at "sm") upd_same
def sp_frame_of (K : PySem.W.Frag) : Sp := fun vs H Q _ => ∃ (p1 : Addr) (a : Rc), vs = [.ref p1] ∧ SqT K H p1 (rv a) ∧ RetT H Q (rv (frmR a))
theorem sc_frame_of : FnScope ["inside", "x", "y", "width", "height"] ["inside"] (defScope s_frame_of) := ⟨rfl, rfl, rfl, by decide +kernel, rfl, by decide +kernel, by decide +kernel⟩
theorem ok_frame_of (T : Txt K mg A) : FnOk P w K mg base CX0 1 A.fframe_of A.dframe_of ["inside"] (sp_frame_of K) := by
  refine T.Fframe_of.ok sc_frame_of (fun vs H Q E h => ?_) (fun cdv Ar outer s H vs Q E hr h => ?_)
  · obtain ⟨_, _, rfl, _⟩ := h
    rfl
  · obtain ⟨p1, a, rfl, h1, q⟩ := h
    refine ⟨_, (pss_cons (ps_asg (pv 0) (pg_tup rfl (pgs_cons (pg_name (i := 1) sc_frame_of.nd rfl (Or.inl rfl)) (pgs_cons (pg_name (i := 2) sc_frame_of.nd rfl (Or.inl rfl)) (pgs_cons (pg_name (i := 3) sc_frame_of.nd rfl (Or.inl rfl)) (pgs_cons (pg_name (i := 4) sc_frame_of.nd rfl (Or.inl rfl)) pgs_nil))))))
      (pss_one (ps_ret (pe_tup (pa_cons (pe_op op_sub (pv 1) (pe_glob (v := .int (2)) rfl T.gBORDER ⟨_, rfl⟩)) (pa_cons (pe_op op_sub (pv 2) (pe_glob (v := .int (10)) rfl T.gTITLE_BAR ⟨_, rfl⟩)) (pa_cons (pe_op op_add (pv 3) (pe_op op_mul pe_int (pe_glob (v := .int (2)) rfl T.gBORDER ⟨_, rfl⟩))) (pa_cons (pe_op op_add (pe_op op_add (pv 4) (pe_glob (v := .int (10)) rfl T.gTITLE_BAR ⟨_, rfl⟩)) (pe_glob (v := .int (2)) rfl T.gBORDER ⟨_, rfl⟩)) pa_nil)))))))), ?_⟩
    walk_at "go"
    exact q _ _ (by walk_at "sm") upd_same
def putI (ab al b l : Int) : Int := mx (mn b (ab + al - l)) ab
def sp__put_axis (K : PySem.W.Frag) : Sp := fun vs H Q _ => ∃ ab al b l : Int, vs = [.int ab, .int al, .int b, .int l] ∧ Q (.int (putI ab al b l)) H
theorem sc__put_axis : FnScope ["area_begin", "area_length", "begin", "length"] ["area_begin", "area_length", "begin", "length"] (defScope s__put_axis) := ⟨rfl, rfl, rfl, by decide +kernel, rfl, by decide +kernel, by decide +kernel⟩
theorem ok__put_axis (T : Txt K mg A) : FnOk P w K mg base CX0 1 A.f_put_axis A.d_put_axis ["area_begin", "area_length", "begin", "length"] (sp__put_axis K) := by
  refine T.F_put_axis.ok sc__put_axis (fun vs H Q E h => ?_) (fun cdv Ar outer s H vs Q E hr h => ?_)
  · obtain ⟨_, _, _, _, rfl, _⟩ := h
    rfl
  · obtain ⟨ab, al, b, l, rfl, q⟩ := h
    refine ⟨_, (pss_one (ps_ret (pe_callB (call_max2 rfl) (by rfl) T.max (by decide +kernel) (pa_cons (pe_callB (call_min2 rfl) (by rfl) T.min (by decide +kernel) (pa_cons (pv 2) (pa_cons (pe_op op_sub (pe_op op_add (pv 0) (pv 1)) (pv 3)) pa_nil))) (pa_cons (pv 0) pa_nil))))), ?_⟩
    walk_at "go"
    exact q
def putR (a f : Rc) : Rc := ⟨putI a.x a.w f.x f.w, putI a.y a.h f.y f.h, f.w, f.h⟩
def sp_put_into (K : PySem.W.Frag) : Sp := fun vs H Q _ => ∃ (p1 p2 : Addr) (a b : Rc), vs = [.ref p1, .ref p2] ∧ SqT K H p1 (rv a) ∧ SqT K H p2 (rv b) ∧ RetT H Q (rv (putR a b))
theorem sc_put_into : FnScope ["area", "frame", "x", "y", "width", "height"] ["area", "frame"] (defScope s_put_into) := ⟨rfl, rfl, rfl, by decide +kernel, rfl, by decide +kernel, by decide +kernel⟩
theorem ok_put_into (T : Txt K mg A) : FnOk P w K mg base CX0 2 A.fput_into A.dput_into ["area", "frame"] (sp_put_into K) := by
  refine T.Fput_into.ok sc_put_into (fun vs H Q E h => ?_) (fun cdv Ar outer s H vs Q E hr h => ?_)
  · obtain ⟨_, _, _, _, rfl, _⟩ := h
    rfl
  · obtain ⟨p1, p2, a, b, rfl, h1, h2, q⟩ := h
    refine ⟨_, (pss_cons (ps_asg (pv 1) (pg_tup rfl (pgs_cons (pg_name (i := 2) sc_put_into.nd rfl (Or.inl rfl)) (pgs_cons (pg_name (i := 3) sc_put_into.nd rfl (Or.inl rfl)) (pgs_cons (pg_name (i := 4) sc_put_into.nd rfl (Or.inl rfl)) (pgs_cons (pg_name (i := 5) sc_put_into.nd rfl (Or.inl rfl)) pgs_nil))))))
      (pss_one (ps_ret (pe_tup (pa_cons (pe_call (ok__put_axis T) (hr.mono (by decide)) rfl T.g_put_axis T.k_put_axis T.b_put_axis .nil pass0 (pa_cons (pe_ix (r := rIxT K) ix_tup (pv 0) pe_int (fun _ _ => rfl)) (pa_cons (pe_ix (r := rIxT K) ix_tup (pv 0) pe_int (fun _ _ => rfl)) (pa_cons (pv 2) (pa_cons (pv 4) pa_nil))))) (pa_cons (pe_call (ok__put_axis T) (hr.mono (by decide)) rfl T.g_put_axis T.k_put_axis T.b_put_axis .nil pass0 (pa_cons (pe_ix (r := rIxT K) ix_tup (pv 0) pe_int (fun _ _ => rfl)) (pa_cons (pe_ix (r := rIxT K) ix_tup (pv 0) pe_int (fun _ _ => rfl)) (pa_cons (pv 3) (pa_cons (pv 5) pa_nil))))) (pa_cons (pv 4) (pa_cons (pv 5) pa_nil)))))))), ?_⟩
    walk_at "go"
    exact q _ _ (by walk_at "sm") upd_same
def szR (a : Rc) (cx cy wd ht : Int) : Rc := frmR ⟨cx + 2, cy + 10, mx (mn wd (insR a).w) 16, mx (mn ht (insR a).h) 16⟩
def sp__sized_frame (K : PySem.W.Frag) : Sp := fun vs H Q _ => ∃ (p1 p2 : Addr) (a : Rc) (cx cy wd ht : Int) (r : List V), vs = [.ref p1, .ref p2, .int wd, .int ht] ∧ SqT K H p1 (rv a) ∧ SqT K H p2 (.int cx :: .int cy :: r) ∧ RetT H Q (rv (szR a cx cy wd ht))
theorem sc__sized_frame : FnScope ["area", "corner", "width", "height", "_", "room_width", "room_height", "inside_width", "inside_height"] ["area", "corner", "width", "height"] (defScope s__sized_frame) := ⟨rfl, rfl, rfl, by decide +kernel, rfl, by decide +kernel, by decide +kernel⟩
theorem ok__sized_frame (T : Txt K mg A) : FnOk P w K mg base CX0 2 A.f_sized_frame A.d_sized_frame ["area", "corner", "width", "height"] (sp__sized_frame K) := by
  refine T.F_sized_frame.ok sc__sized_frame (fun vs H Q E h => ?_) (fun cdv Ar outer s H vs Q E hr h => ?_)
  · obtain ⟨_, _, _, _, _, _, _, _, rfl, _⟩ := h
    rfl
  · obtain ⟨p1, p2, a, cx, cy, wd, ht, r, rfl, h1, h2, q⟩ := h
    refine ⟨_, (pss_cons (ps_asg (pe_call (ok_inside_of T) (hr.mono (by decide)) rfl T.ginside_of T.kinside_of T.binside_of .nil pass0 (pa_cons (pv 0) pa_nil)) (pg_tup rfl (pgs_cons (pg_name (i := 4) sc__sized_frame.nd rfl (Or.inl rfl)) (pgs_cons (pg_name (i := 4) sc__sized_frame.nd rfl (Or.inl rfl)) (pgs_cons (pg_name (i := 5) sc__sized_frame.nd rfl (Or.inl rfl)) (pgs_cons (pg_name (i := 6) sc__sized_frame.nd rfl (Or.inl rfl)) pgs_nil))))))
      (pss_cons (ps_set (i := 7) sc__sized_frame.nd rfl (Or.inl rfl) (pe_callB (call_max2 rfl) (by rfl) T.max (by decide +kernel) (pa_cons (pe_callB (call_min2 rfl) (by rfl) T.min (by decide +kernel) (pa_cons (pv 2) (pa_cons (pv 5) pa_nil))) (pa_cons (pe_glob (v := .int (16)) rfl T.gLEAST_SIDE ⟨_, rfl⟩) pa_nil))))
      (pss_cons (ps_set (i := 8) sc__sized_frame.nd rfl (Or.inl rfl) (pe_callB (call_max2 rfl) (by rfl) T.max (by decide +kernel) (pa_cons (pe_callB (call_min2 rfl) (by rfl) T.min (by decide +kernel) (pa_cons (pv 3) (pa_cons (pv 6) pa_nil))) (pa_cons (pe_glob (v := .int (16)) rfl T.gLEAST_SIDE ⟨_, rfl⟩) pa_nil))))
      (pss_one (ps_ret (pe_call (ok_frame_of T) (hr.mono (by decide)) rfl T.gframe_of T.kframe_of T.bframe_of .nil pass0 (pa_cons (pe_tup (pa_cons (pe_op op_add (pe_ix (r := rIxT K) ix_tup (pv 1) pe_int (fun _ _ => rfl)) (pe_glob (v := .int (2)) rfl T.gBORDER ⟨_, rfl⟩)) (pa_cons (pe_op op_add (pe_ix (r := rIxT K) ix_tup (pv 1) pe_int (fun _ _ => rfl)) (pe_glob (v := .int (10)) rfl T.gTITLE_BAR ⟨_, rfl⟩)) (pa_cons (pv 7) (pa_cons (pv 8) pa_nil))))) pa_nil))))))), ?_⟩
    walk_at "go"
    refine ⟨_, a, rfl, by walk_at "sq", ?_⟩
    walk_at "go"
    refine ⟨_, ⟨cx + 2, cy + 10, mx (mn wd (insR a).w) 16, mx (mn ht (insR a).h) 16⟩, rfl, SqT.of upd_same, ?_⟩
    walk_at "go"
    exact q _ _ (by walk_at "sm") (by assumption)
def plcR (a : Rc) (c wd ht : Int) : Rc := putR a (szR a (a.x + 24 * (c % 8)) (a.y + 24 * (c % 8)) wd ht)
def sp_placed_frame (K : PySem.W.Frag) : Sp := fun vs H Q _ => ∃ (p1 : Addr) (a : Rc) (c wd ht : Int), vs = [.ref p1, .int c, .int wd, .int ht] ∧ SqT K H p1 (rv a) ∧ RetT H Q (rv (plcR a c wd ht))
theorem sc_placed_frame : FnScope ["area", "count", "width", "height", "way"] ["area", "count", "width", "height"] (defScope s_placed_frame) := ⟨rfl, rfl, rfl, by decide +kernel, rfl, by decide +kernel, by decide +kernel⟩
theorem ok_placed_frame (T : Txt K mg A) : FnOk P w K mg base CX0 3 A.fplaced_frame A.dplaced_frame ["area", "count", "width", "height"] (sp_placed_frame K) := by
  refine T.Fplaced_frame.ok sc_placed_frame (fun vs H Q E h => ?_) (fun cdv Ar outer s H vs Q E hr h => ?_)
  · obtain ⟨_, _, _, _, _, rfl, _⟩ := h
    rfl
  · obtain ⟨p1, a, c, wd, ht, rfl, h1, q⟩ := h
    refine ⟨_, (pss_cons (ps_set (i := 4) sc_placed_frame.nd rfl (Or.inl rfl) (pe_op op_mul (pe_glob (v := .int (24)) rfl T.gPLACING_STEP ⟨_, rfl⟩) (pe_op op_mod (pv 1) (pe_glob (v := .int (8)) rfl T.gPLACING_PLACES ⟨_, rfl⟩))))
      (pss_one (ps_ret (pe_call (ok_put_into T) (hr.mono (by decide)) rfl T.gput_into T.kput_into T.bput_into .nil pass0 (pa_cons (pv 0) (pa_cons (pe_call (ok__sized_frame T) (hr.mono (by decide)) rfl T.g_sized_frame T.k_sized_frame T.b_sized_frame .nil pass0 (pa_cons (pv 0) (pa_cons (pe_tup (pa_cons (pe_op op_add (pe_ix (r := rIxT K) ix_tup (pv 0) pe_int (fun _ _ => rfl)) (pv 4)) (pa_cons (pe_op op_add (pe_ix (r := rIxT K) ix_tup (pv 0) pe_int (fun _ _ => rfl)) (pv 4)) pa_nil))) (pa_cons (pv 2) (pa_cons (pv 3) pa_nil))))) pa_nil)))))), ?_⟩
    walk_at "go"
    refine ⟨_, _, a, _, _, wd, ht, [], rfl, by walk_at "sq", SqT.of upd_same, ?_⟩
    walk_at "go"
    refine ⟨_, _, a, _, rfl, by walk_at "sq", SqT.of (by assumption), ?_⟩
    walk_at "go"
    exact q _ _ (by walk_at "sm") (by assumption)
def sp_output_of (K : PySem.W.Frag) : Sp := fun vs H Q _ => ∃ (p a1 a2 pf : Addr) (r1 r2 f : Rc), vs = [.ref p, .ref pf] ∧ SqL K H p [.ref a1, .ref a2] ∧ SqT K H a1 (rv r1) ∧ SqT K H a2 (rv r2) ∧ SqT K H pf (rv f) ∧ Q (.ref (if inR r1 f.x f.y then a1 else if inR r2 f.x f.y then a2 else a1)) H
theorem sc_output_of : FnScope ["areas", "frame", "area"] ["areas", "frame"] (defScope s_output_of) := ⟨rfl, rfl, rfl, by decide +kernel, rfl, by decide +kernel, by decide +kernel⟩
theorem ok_output_of (T : Txt K mg A) : FnOk P w K mg base CX0 2 A.foutput_of A.doutput_of ["areas", "frame"] (sp_output_of K) := by
  refine T.Foutput_of.ok sc_output_of (fun vs H Q E h => ?_) (fun cdv Ar outer s H vs Q E hr h => ?_)
  · obtain ⟨_, _, _, _, _, _, _, rfl, _⟩ := h
    rfl
  · obtain ⟨p, a1, a2, pf, r1, r2, f, rfl, hp, h1, h2, hf, q⟩ := h
    refine ⟨_, (pss_cons (ps_for PassesOwn.never rfl (pi_list (pv 0)) (pg_name (i := 2) sc_output_of.nd rfl (Or.inl rfl))
      (pss_one (ps_if (pt_val (pe_call (ok_has_point T) (hr.mono (by decide)) rfl T.ghas_point T.khas_point T.bhas_point .nil pass0 (pa_cons (pv 2) (pa_cons (pe_ix (r := rIxT K) ix_tup (pv 1) pe_int (fun _ _ => rfl)) (pa_cons (pe_ix (r := rIxT K) ix_tup (pv 1) pe_int (fun _ _ => rfl)) pa_nil)))))
      (pss_one (ps_ret (pv 2)))
      pss_nil)))
      (pss_one (ps_ret (pe_ix (r := rIxL K) ix_list (pv 0) pe_int (fun _ _ => rfl))))), ?_⟩
    refine ⟨_, rfl, p, rfl, ⟨_, hp⟩, for_list (K := K) (a := p) (xs := [.ref a1, .ref a2]) (fun j σ H' => ∃ v2 : Option V, σ = [some (.ref p), some (.ref pf), v2] ∧ H' = H ∧ (0 < j → inR r1 f.x f.y = false) ∧ (1 < j → inR r2 f.x f.y = false)) ⟨_, rfl, rfl, by omega, by omega⟩ (fun j σ H' _ ⟨_, _, h, _⟩ => by rw [h]; exact hp) ?_ ?_⟩
    · rintro j x σ H' hx ⟨v2, rfl, rfl, g1, g2⟩
      have hl := (List.getElem?_eq_some_iff.mp hx).1
      simp only [List.length_cons, List.length_nil] at hl
      rcases (by omega : j = 0 ∨ j = 1) with rfl | rfl
      · injection hx with hx; subst hx
        walk_at "go"
        refine ⟨a1, r1, _, _, rfl, h1, ?_⟩
        walk_at "go"
        refine if_b (fun h => ?_) (fun h => ?_)
        · walk_at "go"
          have e : (if inR r1 f.x f.y = true then a1 else if inR r2 f.x f.y = true then a2 else a1) = a1 := if_pos h
          rw [e] at q; exact q
        · exact ⟨_, rfl, rfl, fun _ => h, by omega⟩
      · injection hx with hx; subst hx
        walk_at "go"
        refine ⟨a2, r2, _, _, rfl, h2, ?_⟩
        walk_at "go"
        refine if_b (fun h => ?_) (fun h => ?_)
        · walk_at "go"
          have e : (if inR r1 f.x f.y = true then a1 else if inR r2 f.x f.y = true then a2 else a1) = a2 := by rw [if_neg (by rw [g1 (by decide)]; decide), if_pos h]
          rw [e] at q; exact q
        · exact ⟨_, rfl, rfl, fun _ => g1 (by decide), fun _ => h⟩
    · rintro σ H' ⟨v2, rfl, rfl, g1, g2⟩
      have e : (if inR r1 f.x f.y = true then a1 else if inR r2 f.x f.y = true then a2 else a1) = a1 := by rw [if_neg (by rw [g1 (by simp)]; decide), if_neg (by rw [g2 (by simp)]; decide)]
      rw [e] at q
      walk_at "go"
      exact q
def homeR (r1 r2 f : Rc) : Rc := if inR r1 f.x f.y then r1 else if inR r2 f.x f.y then r2 else r1
def grwR (r1 r2 f : Rc) (wd ht : Int) : Rc := putR (homeR r1 r2 f) (szR (homeR r1 r2 f) f.x f.y wd ht)
theorem home_at {K : PySem.W.Frag} {H : Hp} {a1 a2 : Addr} {r1 r2 f : Rc} (h1 : SqT K H a1 (rv r1)) (h2 : SqT K H a2 (rv r2)) : SqT K H (if inR r1 f.x f.y then a1 else if inR r2 f.x f.y then a2 else a1) (rv (homeR r1 r2 f)) := by
  unfold homeR
  split
  · exact h1
  · split
    · exact h2
    · exact h1
def sp_grown_frame (K : PySem.W.Frag) : Sp := fun vs H Q _ => ∃ (p a1 a2 pf : Addr) (r1 r2 f : Rc) (wd ht : Int), vs = [.ref p, .ref pf, .int wd, .int ht] ∧ SqL K H p [.ref a1, .ref a2] ∧ SqT K H a1 (rv r1) ∧ SqT K H a2 (rv r2) ∧ SqT K H pf (rv f) ∧ RetT H Q (rv (grwR r1 r2 f wd ht))
theorem sc_grown_frame : FnScope ["areas", "frame", "width", "height", "area"] ["areas", "frame", "width", "height"] (defScope s_grown_frame) := ⟨rfl, rfl, rfl, by decide +kernel, rfl, by decide +kernel, by decide +kernel⟩
theorem ok_grown_frame (T : Txt K mg A) : FnOk P w K mg base CX0 3 A.fgrown_frame A.dgrown_frame ["areas", "frame", "width", "height"] (sp_grown_frame K) := by
  refine T.Fgrown_frame.ok sc_grown_frame (fun vs H Q E h => ?_) (fun cdv Ar outer s H vs Q E hr h => ?_)
  · obtain ⟨_, _, _, _, _, _, _, _, _, rfl, _⟩ := h
    rfl
  · obtain ⟨p, a1, a2, pf, r1, r2, f, wd, ht, rfl, hp, h1, h2, hf, q⟩ := h
    refine ⟨_, (pss_cons (ps_set (i := 4) sc_grown_frame.nd rfl (Or.inl rfl) (pe_call (ok_output_of T) (hr.mono (by decide)) rfl T.goutput_of T.koutput_of T.boutput_of .nil pass0 (pa_cons (pv 0) (pa_cons (pv 1) pa_nil))))
      (pss_one (ps_ret (pe_call (ok_put_into T) (hr.mono (by decide)) rfl T.gput_into T.kput_into T.bput_into .nil pass0 (pa_cons (pv 4) (pa_cons (pe_call (ok__sized_frame T) (hr.mono (by decide)) rfl T.g_sized_frame T.k_sized_frame T.b_sized_frame .nil pass0 (pa_cons (pv 4) (pa_cons (pv 1) (pa_cons (pv 2) (pa_cons (pv 3) pa_nil))))) pa_nil)))))), ?_⟩
    walk_at "go"
    refine ⟨p, a1, a2, pf, r1, r2, f, rfl, hp, h1, h2, hf, ?_⟩
    have hh := home_at (f := f) h1 h2
    unfold grwR at q
    generalize homeR r1 r2 f = hm at hh q
    generalize (if inR r1 f.x f.y then a1 else if inR r2 f.x f.y then a2 else a1) = ah at hh ⊢
    walk_at "go"
    refine ⟨_, _, hm, f.x, f.y, wd, ht, [.int f.w, .int f.h], rfl, hh, hf, ?_⟩
    walk_at "go"
    refine ⟨_, _, hm, _, rfl, by walk_at "sq", SqT.of (by assumption), ?_⟩
    walk_at "go"
    exact q _ _ (by walk_at "sm") (by assumption)
def lrgR (f : Rc) : Bool := decide (16 ≤ (insR f).w) && decide (16 ≤ (insR f).h)
def sp_is_large_enough (K : PySem.W.Frag) : Sp := fun vs H Q _ => ∃ (p : Addr) (f : Rc), vs = [.ref p] ∧ SqT K H p (rv f) ∧ ∀ H', Same H H' → Q (.bl (lrgR f)) H'
theorem sc_is_large_enough : FnScope ["frame", "_", "width", "height"] ["frame"] (defScope s_is_large_enough) := ⟨rfl, rfl, rfl, by decide +kernel, rfl, by decide +kernel, by decide +kernel⟩
theorem ok_is_large_enough (T : Txt K mg A) : FnOk P w K mg base CX0 2 A.fis_large_enough A.dis_large_enough ["frame"] (sp_is_large_enough K) := by
  refine T.Fis_large_enough.ok sc_is_large_enough (fun vs H Q E h => ?_) (fun cdv Ar outer s H vs Q E hr h => ?_)
  · obtain ⟨_, _, rfl, _⟩ := h
    rfl
  · obtain ⟨p, f, rfl, hf, q⟩ := h
    refine ⟨_, (pss_cons (ps_asg (pe_call (ok_inside_of T) (hr.mono (by decide)) rfl T.ginside_of T.kinside_of T.binside_of .nil pass0 (pa_cons (pv 0) pa_nil)) (pg_tup rfl (pgs_cons (pg_name (i := 1) sc_is_large_enough.nd rfl (Or.inl rfl)) (pgs_cons (pg_name (i := 1) sc_is_large_enough.nd rfl (Or.inl rfl)) (pgs_cons (pg_name (i := 2) sc_is_large_enough.nd rfl (Or.inl rfl)) (pgs_cons (pg_name (i := 3) sc_is_large_enough.nd rfl (Or.inl rfl)) pgs_nil))))))
      (pss_one (ps_ret (pe_and (pe_cmpR op_ge (pv 2) (pe_glob (v := .int (16)) rfl T.gLEAST_SIDE ⟨_, rfl⟩) (nomark _)) (pe_one (pe_cmpR op_ge (pv 3) (pe_glob (v := .int (16)) rfl T.gLEAST_SIDE ⟨_, rfl⟩) (nomark _))))))), ?_⟩
    unfold lrgR at q
    walk_at "go"
    refine ⟨_, f, rfl, hf, ?_⟩
    walk_at "go"
    refine iteP (fun h => ?_) (fun h => ?_)
    · rw [decide_eq_true h] at q; walk_at "go"; exact q _ (by walk_at "sm")
    · rw [decide_eq_false h] at q; exact q _ (by walk_at "sm")
def rstR (f b : Rc) : Rc := if lrgR (ovR f b) then ovR f b else f
def sp_restored_frame (K : PySem.W.Frag) : Sp := fun vs H Q _ => ∃ (p1 p2 : Addr) (a b : Rc), vs = [.ref p1, .ref p2] ∧ SqT K H p1 (rv a) ∧ SqT K H p2 (rv b) ∧ ∀ p H', Same H H' → SqT K H' p (rv (rstR a b)) → Q (.ref p) H'
theorem sc_restored_frame : FnScope ["frame", "before", "part"] ["frame", "before"] (defScope s_restored_frame) := ⟨rfl, rfl, rfl, by decide +kernel, rfl, by decide +kernel, by decide +kernel⟩
theorem ok_restored_frame (T : Txt K mg A) : FnOk P w K mg base CX0 3 A.frestored_frame A.drestored_frame ["frame", "before"] (sp_restored_frame K) := by
  refine T.Frestored_frame.ok sc_restored_frame (fun vs H Q E h => ?_) (fun cdv Ar outer s H vs Q E hr h => ?_)
  · obtain ⟨_, _, _, _, rfl, _⟩ := h
    rfl
  · obtain ⟨p1, p2, a, b, rfl, h1, h2, q⟩ := h
    refine ⟨_, (pss_cons (ps_set (i := 2) sc_restored_frame.nd rfl (Or.inl rfl) (pe_call (ok_overlap T) (hr.mono (by decide)) rfl T.goverlap T.koverlap T.boverlap .nil pass0 (pa_cons (pv 0) (pa_cons (pv 1) pa_nil))))
      (pss_one (ps_ret (pe_ifExp (pt_val (pe_call (ok_is_large_enough T) (hr.mono (by decide)) rfl T.gis_large_enough T.kis_large_enough T.bis_large_enough .nil pass0 (pa_cons (pv 2) pa_nil))) (pv 2) (pv 0))))), ?_⟩
    unfold rstR at q
    walk_at "go"
    refine ⟨_, _, a, b, rfl, h1, h2, ?_⟩
    walk_at "go"
    rename_i p3 H3 s3 e3
    refine ⟨_, _, rfl, SqT.of e3, fun H4 s4 => ?_⟩
    walk_at "go"
    refine if_b (fun h => ?_) (fun h => ?_)
    · walk_at "go"
      rw [if_pos h] at q
      exact q _ _ (by walk_at "sm") (SqT.of (s4 _ _ e3))
    · walk_at "go"
      rw [if_neg (by rw [h]; decide)] at q
      exact q _ _ (by walk_at "sm") (by walk_at "sq")
def sp_meets (K : PySem.W.Frag) : Sp := fun vs H Q _ => ∃ (p1 p2 : Addr) (a b : Rc), vs = [.ref p1, .ref p2] ∧ SqT K H p1 (rv a) ∧ SqT K H p2 (rv b) ∧ ∀ H', Same H H' → Q (.bl (hasR (ovR a b))) H'
theorem sc_meets : FnScope ["area", "frame"] ["area", "frame"] (defScope s_meets) := ⟨rfl, rfl, rfl, by decide +kernel, rfl, by decide +kernel, by decide +kernel⟩
theorem ok_meets (T : Txt K mg A) : FnOk P w K mg base CX0 3 A.fmeets A.dmeets ["area", "frame"] (sp_meets K) := by
  refine T.Fmeets.ok sc_meets (fun vs H Q E h => ?_) (fun cdv Ar outer s H vs Q E hr h => ?_)
  · obtain ⟨_, _, _, _, rfl, _⟩ := h
    rfl
  · obtain ⟨p1, p2, a, b, rfl, h1, h2, q⟩ := h
    refine ⟨_, (pss_one (ps_ret (pe_call (ok_has_squares T) (hr.mono (by decide)) rfl T.ghas_squares T.khas_squares T.bhas_squares .nil pass0 (pa_cons (pe_call (ok_overlap T) (hr.mono (by decide)) rfl T.goverlap T.koverlap T.boverlap .nil pass0 (pa_cons (pv 0) (pa_cons (pv 1) pa_nil))) pa_nil)))), ?_⟩
    walk_at "go"
    refine ⟨_, _, a, b, rfl, h1, h2, ?_⟩
    walk_at "go"
    refine ⟨_, _, rfl, SqT.of (by assumption), ?_⟩
    walk_at "go"
    exact q _ (by walk_at "sm")
def areaR (row : Int) : Rc := ⟨row % 60 - 30, row / 60 % 60 - 30, 12 + row / 3600 % 119, 12 + row / 7 % 119⟩
def sp__law_area (K : PySem.W.Frag) : Sp := fun vs H Q _ => ∃ row : Int, vs = [.int row] ∧ RetT H Q (rv (areaR row))
theorem sc__law_area : FnScope ["row"] ["row"] (defScope s__law_area) := ⟨rfl, rfl, rfl, by decide +kernel, rfl, by decide +kernel, by decide +kernel⟩
theorem ok__law_area (T : Txt K mg A) : FnOk P w K mg base CX0 1 A.f_law_area A.d_law_area ["row"] (sp__law_area K) := by
  refine T.F_law_area.ok sc__law_area (fun vs H Q E h => ?_) (fun cdv Ar outer s H vs Q E hr h => ?_)
  · obtain ⟨_, rfl, _⟩ := h
    rfl
  · obtain ⟨row, rfl, q⟩ := h
    refine ⟨_, (pss_one (ps_ret (pe_tup (pa_cons (pe_op op_sub (pe_op op_mod (pe_callTy call_int1 (by rfl) T.int (by decide +kernel) (pa_cons (pv 0) pa_nil)) pe_int) pe_int) (pa_cons (pe_op op_sub (pe_op op_mod (pe_callTy call_int1 (by rfl) T.int (by decide +kernel) (pa_cons (pe_op op_fdiv (pv 0) pe_int) pa_nil)) pe_int) pe_int) (pa_cons (pe_op op_add pe_int (pe_op op_mod (pe_callTy call_int1 (by rfl) T.int (by decide +kernel) (pa_cons (pe_op op_fdiv (pv 0) pe_int) pa_nil)) pe_int)) (pa_cons (pe_op op_add pe_int (pe_op op_mod (pe_callTy call_int1 (by rfl) T.int (by decide +kernel) (pa_cons (pe_op op_fdiv (pv 0) pe_int) pa_nil)) pe_int)) pa_nil))))))), ?_⟩
    walk_at "go"
    exact q _ _ (by walk_at "sm") upd_same
/-- putting is good, always -/
def sp__law_axis_good (K : PySem.W.Frag) : Sp := fun vs H Q _ => ∃ b l st rm : Int, vs = [.int b, .int l, .int st, .int rm, .int (putI st rm b l)] ∧ Q (.bl true) H
theorem sc__law_axis_good : FnScope ["begin", "length", "start", "room", "told"] ["begin", "length", "start", "room", "told"] (defScope s__law_axis_good) := ⟨rfl, rfl, rfl, by decide +kernel, rfl, by decide +kernel, by decide +kernel⟩
theorem ok__law_axis_good (T : Txt K mg A) : FnOk P w K mg base CX0 1 A.f_law_axis_good A.d_law_axis_good ["begin", "length", "start", "room", "told"] (sp__law_axis_good K) := by
  refine T.F_law_axis_good.ok sc__law_axis_good (fun vs H Q E h => ?_) (fun cdv Ar outer s H vs Q E hr h => ?_)
  · obtain ⟨_, _, _, _, rfl, _⟩ := h
    rfl
  · obtain ⟨b, l, st, rm, rfl, q⟩ := h
    refine ⟨_, (pss_cons (ps_if (pt_cmpR op_gt (pv 1) (pv 3) (nomark _))
      (pss_one (ps_ret (pe_cmpR op_eq (pv 4) (pv 2) (nomark _))))
      pss_nil)
      (pss_cons (ps_if (PW.pt (pw_and (pt_cmpR op_le (pv 2) (pv 0) (nomark _)) (pw_and1 (pt_cmpR op_le (pe_op op_add (pv 0) (pv 1)) (pe_op op_add (pv 2) (pv 3)) (nomark _)))))
      (pss_one (ps_ret (pe_cmpR op_eq (pv 4) (pv 0) (nomark _))))
      pss_nil)
      (pss_cons (ps_if (pt_cmpR op_lt (pv 0) (pv 2) (nomark _))
      (pss_one (ps_ret (pe_cmpR op_eq (pv 4) (pv 2) (nomark _))))
      pss_nil)
      (pss_one (ps_ret (pe_cmpR op_eq (pv 4) (pe_op op_sub (pe_op op_add (pv 2) (pv 3)) (pv 1)) (nomark _))))))), ?_⟩
    have fin : ∀ z : Int, putI st rm b l = z → Q (.bl (decide (V.int (putI st rm b l) = V.int z))) H := by
      intro z hz; rw [hz, decide_eq_true rfl]; exact q
    unfold putI mx mn at fin ⊢
    walk_at "go"
    refine iteP (fun h => ?_) (fun h => ?_)
    · walk_at "go"
      exact fin _ (by repeat' split
                      all_goals omega)
    · walk_at "go"
      refine iteP (fun h1 => ?_) (fun h1 => ?_)
      · walk_at "go"
        refine iteP (fun h2 => ?_) (fun h2 => ?_)
        · walk_at "go"
          exact fin _ (by repeat' split
                          all_goals omega)
        · walk_at "go"
          refine iteP (fun h3 => ?_) (fun h3 => ?_)
          · walk_at "go"
            exact fin _ (by repeat' split
                            all_goals omega)
          · walk_at "go"
            exact fin _ (by repeat' split
                            all_goals omega)
      · walk_at "go"
        refine iteP (fun h3 => ?_) (fun h3 => ?_)
        · walk_at "go"
          exact fin _ (by repeat' split
                          all_goals omega)
        · walk_at "go"
          exact fin _ (by repeat' split
                          all_goals omega)
def sp__law_put_good (K : PySem.W.Frag) : Sp := fun vs H Q _ => ∃ (p1 p2 p3 : Addr) (a f : Rc), vs = [.ref p1, .ref p2, .ref p3] ∧ SqT K H p1 (rv a) ∧ SqT K H p2 (rv f) ∧ SqT K H p3 (rv (putR a f)) ∧ ∀ H', Same H H' → Q (.bl true) H'
theorem sc__law_put_good : FnScope ["area", "frame", "told"] ["area", "frame", "told"] (defScope s__law_put_good) := ⟨rfl, rfl, rfl, by decide +kernel, rfl, by decide +kernel, by decide +kernel⟩
theorem ok__law_put_good (T : Txt K mg A) : FnOk P w K mg base CX0 2 A.f_law_put_good A.d_law_put_good ["area", "frame", "told"] (sp__law_put_good K) := by
  refine T.F_law_put_good.ok sc__law_put_good (fun vs H Q E h => ?_) (fun cdv Ar outer s H vs Q E hr h => ?_)
  · obtain ⟨_, _, _, _, _, rfl, _⟩ := h
    rfl
  · obtain ⟨p1, p2, p3, a, f, rfl, h1, h2, h3, q⟩ := h
    refine ⟨_, (pss_cons (ps_if (pt_cmpR (op_neD hr.units) (pe_slice (r := rSlT K) sl_tup (pv 2) (po_some pe_int) po_none) (pe_slice (r := rSlT K) sl_tup (pv 1) (po_some pe_int) po_none) (nomark _))
      (pss_one (ps_ret pe_bl))
      pss_nil)
      (pss_one (ps_ret (pe_and (pe_call (ok__law_axis_good T) (hr.mono (by decide)) rfl T.g_law_axis_good T.k_law_axis_good T.b_law_axis_good .nil pass0 (pa_cons (pe_ix (r := rIxT K) ix_tup (pv 1) pe_int (fun _ _ => rfl)) (pa_cons (pe_ix (r := rIxT K) ix_tup (pv 1) pe_int (fun _ _ => rfl)) (pa_cons (pe_ix (r := rIxT K) ix_tup (pv 0) pe_int (fun _ _ => rfl)) (pa_cons (pe_ix (r := rIxT K) ix_tup (pv 0) pe_int (fun _ _ => rfl)) (pa_cons (pe_ix (r := rIxT K) ix_tup (pv 2) pe_int (fun _ _ => rfl)) pa_nil)))))) (pe_one (pe_call (ok__law_axis_good T) (hr.mono (by decide)) rfl T.g_law_axis_good T.k_law_axis_good T.b_law_axis_good .nil pass0 (pa_cons (pe_ix (r := rIxT K) ix_tup (pv 1) pe_int (fun _ _ => rfl)) (pa_cons (pe_ix (r := rIxT K) ix_tup (pv 1) pe_int (fun _ _ => rfl)) (pa_cons (pe_ix (r := rIxT K) ix_tup (pv 0) pe_int (fun _ _ => rfl)) (pa_cons (pe_ix (r := rIxT K) ix_tup (pv 0) pe_int (fun _ _ => rfl)) (pa_cons (pe_ix (r := rIxT K) ix_tup (pv 2) pe_int (fun _ _ => rfl)) pa_nil))))))))))), ?_⟩
    refine ⟨_, rfl, _, rfl, _, _, rfl, h3, (show ¬(HT.sIx 4 0 (some 2) = 0 ∧ HT.sIx 4 4 none = 4) from by decide), fun p4 h4 => ?_⟩
    refine ⟨_, rfl, _, rfl, _, _, rfl, (same_upd h4).sqt h2, (show ¬(HT.sIx 4 0 (some 2) = 0 ∧ HT.sIx 4 4 none = 4) from by decide), fun p5 h5 => ?_⟩
    have e4 : SqT K _ p4 [.int f.w, .int f.h] := (same_upd (o := .tup (cutV (rv f) (some 2) none)) h5).sqt (SqT.of upd_same)
    have e5 : SqT K _ p5 [.int f.w, .int f.h] := SqT.of (upd_same (H := upd H p4 (.tup (cutV (rv (putR a f)) (some 2) none))) (a := p5) (o := .tup [.int f.w, .int f.h]))
    have f1 := (same_upd (o := .tup (cutV (rv f) (some 2) none)) h5).sqt ((same_upd h4).sqt h1)
    have f2 := (same_upd (o := .tup (cutV (rv f) (some 2) none)) h5).sqt ((same_upd h4).sqt h2)
    have f3 := (same_upd (o := .tup (cutV (rv f) (some 2) none)) h5).sqt ((same_upd h4).sqt h3)
    have f0 := (same_upd h4).trans (same_upd (o := .tup (cutV (rv f) (some 2) none)) h5)
    refine t_ne (d := .tuple [.int f.w, .int f.h]) (e := .tuple [.int f.w, .int f.h]) (.tup e4 (.cons (.int _) (.cons (.int _) .nil))) (.tup e5 (.cons (.int _) (.cons (.int _) .nil))) (by walk_at "sh") (by walk_at "sh") ⟨_, rfl, ?_⟩
    refine ne_self (by walk_at "sh") rfl ?_
    generalize (upd (upd H p4 (.tup (cutV (rv (putR a f)) (some 2) none))) p5 (.tup (cutV (rv f) (some 2) none))) = H5 at f1 f2 f3 f0 ⊢
    walk_at "go"
    exact q _ (by walk_at "sm")
def fitR (a : Rc) (wd ht : Int) : Int × Int := ((fun j : Int => if 16 < j then j else 16) (mn wd (a.w - 4)), (fun j : Int => if 16 < j then j else 16) (mn ht (a.h - 12)))
def sp__law_fitted (K : PySem.W.Frag) : Sp := fun vs H Q _ => ∃ (p1 : Addr) (a : Rc) (wd ht : Int), vs = [.ref p1, .int wd, .int ht] ∧ SqT K H p1 (rv a) ∧ RetT H Q [.int (fitR a wd ht).1, .int (fitR a wd ht).2]
theorem sc__law_fitted : FnScope ["area", "width", "height"] ["area", "width", "height"] (defScope s__law_fitted) := ⟨rfl, rfl, rfl, by decide +kernel, rfl, by decide +kernel, by decide +kernel⟩
theorem ok__law_fitted (T : Txt K mg A) : FnOk P w K mg base CX0 1 A.f_law_fitted A.d_law_fitted ["area", "width", "height"] (sp__law_fitted K) := by
  refine T.F_law_fitted.ok sc__law_fitted (fun vs H Q E h => ?_) (fun cdv Ar outer s H vs Q E hr h => ?_)
  · obtain ⟨_, _, _, _, rfl, _⟩ := h
    rfl
  · obtain ⟨p1, a, wd, ht, rfl, h1, q⟩ := h
    refine ⟨_, (pss_one (ps_ret (pe_tup (pa_cons (pe_callB (call_max2 rfl) (by rfl) T.max (by decide +kernel) (pa_cons pe_int (pa_cons (pe_callB (call_min2 rfl) (by rfl) T.min (by decide +kernel) (pa_cons (pv 1) (pa_cons (pe_op op_sub (pe_ix (r := rIxT K) ix_tup (pv 0) pe_int (fun _ _ => rfl)) pe_int) pa_nil))) pa_nil))) (pa_cons (pe_callB (call_max2 rfl) (by rfl) T.max (by decide +kernel) (pa_cons pe_int (pa_cons (pe_callB (call_min2 rfl) (by rfl) T.min (by decide +kernel) (pa_cons (pv 2) (pa_cons (pe_op op_sub (pe_ix (r := rIxT K) ix_tup (pv 0) pe_int (fun _ _ => rfl)) pe_int) pa_nil))) pa_nil))) pa_nil))))), ?_⟩
    walk_at "go"
    exact q _ _ (by walk_at "sm") upd_same
theorem fit_w (a : Rc) (cx cy wd ht : Int) : rv (szR a cx cy wd ht) = [.int cx, .int cy, .int ((fitR a wd ht).1 + 4), .int ((fitR a wd ht).2 + 12)] := by
  have e1 : mx (mn wd (insR a).w) 16 + 2 * 2 = (fitR a wd ht).1 + 4 := by
    unfold fitR mx mn insR; dsimp only; repeat' split
    all_goals omega
  have e2 : mx (mn ht (insR a).h) 16 + 10 + 2 = (fitR a wd ht).2 + 12 := by
    unfold fitR mx mn insR; dsimp only; repeat' split
    all_goals omega
  have e3 : cx + 2 - 2 = cx := by omega
  have e4 : cy + 10 - 10 = cy := by omega
  show [V.int (cx + 2 - 2), V.int (cy + 10 - 10), V.int (mx (mn wd (insR a).w) 16 + 2 * 2), V.int (mx (mn ht (insR a).h) 16 + 10 + 2)] = _
  rw [e1, e2, e3, e4]
def sp__law_placed_good (K : PySem.W.Frag) : Sp := fun vs H Q _ => ∃ (p1 : Addr) (a : Rc) (c wd ht : Int), vs = [.ref p1, .int c, .int wd, .int ht] ∧ SqT K H p1 (rv a) ∧ ∀ H', Same H H' → Q (.bl true) H'
theorem sc__law_placed_good : FnScope ["area", "count", "width", "height", "wide", "high", "shift", "told"] ["area", "count", "width", "height"] (defScope s__law_placed_good) := ⟨rfl, rfl, rfl, by decide +kernel, rfl, by decide +kernel, by decide +kernel⟩
theorem ok__law_placed_good (T : Txt K mg A) : FnOk P w K mg base CX0 4 A.f_law_placed_good A.d_law_placed_good ["area", "count", "width", "height"] (sp__law_placed_good K) := by
  refine T.F_law_placed_good.ok sc__law_placed_good (fun vs H Q E h => ?_) (fun cdv Ar outer s H vs Q E hr h => ?_)
  · obtain ⟨_, _, _, _, _, rfl, _⟩ := h
    rfl
  · obtain ⟨p1, a, c, wd, ht, rfl, h1, q⟩ := h
    refine ⟨_, (pss_cons (ps_asg (pe_call (ok__law_fitted T) (hr.mono (by decide)) rfl T.g_law_fitted T.k_law_fitted T.b_law_fitted .nil pass0 (pa_cons (pv 0) (pa_cons (pv 2) (pa_cons (pv 3) pa_nil)))) (pg_tup rfl (pgs_cons (pg_name (i := 4) sc__law_placed_good.nd rfl (Or.inl rfl)) (pgs_cons (pg_name (i := 5) sc__law_placed_good.nd rfl (Or.inl rfl)) pgs_nil))))
      (pss_cons (ps_set (i := 6) sc__law_placed_good.nd rfl (Or.inl rfl) (pe_op op_mul pe_int (pe_op op_mod (pe_callTy call_int1 (by rfl) T.int (by decide +kernel) (pa_cons (pv 1) pa_nil)) pe_int)))
      (pss_cons (ps_set (i := 7) sc__law_placed_good.nd rfl (Or.inl rfl) (pe_call (ok_placed_frame T) (hr.mono (by decide)) rfl T.gplaced_frame T.kplaced_frame T.bplaced_frame .nil pass0 (pa_cons (pv 0) (pa_cons (pv 1) (pa_cons (pv 2) (pa_cons (pv 3) pa_nil))))))
      (pss_one (ps_ret (pe_call (ok__law_put_good T) (hr.mono (by decide)) rfl T.g_law_put_good T.k_law_put_good T.b_law_put_good .nil pass0 (pa_cons (pv 0) (pa_cons (pe_tup (pa_cons (pe_op op_add (pe_ix (r := rIxT K) ix_tup (pv 0) pe_int (fun _ _ => rfl)) (pv 6)) (pa_cons (pe_op op_add (pe_ix (r := rIxT K) ix_tup (pv 0) pe_int (fun _ _ => rfl)) (pv 6)) (pa_cons (pe_op op_add (pv 4) pe_int) (pa_cons (pe_op op_add (pv 5) pe_int) pa_nil))))) (pa_cons (pv 7) pa_nil))))))))), ?_⟩
    walk_at "go"
    refine ⟨_, a, wd, ht, rfl, h1, ?_⟩
    walk_at "go"
    refine ⟨_, a, c, wd, ht, rfl, by walk_at "sq", ?_⟩
    walk_at "go"
    have e := fit_w a (a.x + 24 * (c % 8)) (a.y + 24 * (c % 8)) wd ht
    refine ⟨_, _, _, a, szR a (a.x + 24 * (c % 8)) (a.y + 24 * (c % 8)) wd ht, rfl, by walk_at "sq", by rw [e]; exact SqT.of upd_same, ?_, ?_⟩
    · walk_at "sq"
    intro H3 s3
    exact q _ (by walk_at "sm")
def sqsR (a b : Rc) : Rc := ⟨mx a.x b.x, mx a.y b.y, mn (a.x + a.w) (b.x + b.w) - mx a.x b.x, mn (a.y + a.h) (b.y + b.h) - mx a.y b.y⟩
def sp__law_squares (K : PySem.W.Frag) : Sp := fun vs H Q _ => ∃ (p1 p2 : Addr) (a b : Rc), vs = [.ref p1, .ref p2] ∧ SqT K H p1 (rv a) ∧ SqT K H p2 (rv b) ∧ RetT H Q (rv (sqsR a b))
theorem sc__law_squares : FnScope ["one", "two", "wide", "high"] ["one", "two"] (defScope s__law_squares) := ⟨rfl, rfl, rfl, by decide +kernel, rfl, by decide +kernel, by decide +kernel⟩
theorem ok__law_squares (T : Txt K mg A) : FnOk P w K mg base CX0 1 A.f_law_squares A.d_law_squares ["one", "two"] (sp__law_squares K) := by
  refine T.F_law_squares.ok sc__law_squares (fun vs H Q E h => ?_) (fun cdv Ar outer s H vs Q E hr h => ?_)
  · obtain ⟨_, _, _, _, rfl, _⟩ := h
    rfl
  · obtain ⟨p1, p2, a, b, rfl, h1, h2, q⟩ := h
    refine ⟨_, (pss_cons (ps_set (i := 2) sc__law_squares.nd rfl (Or.inl rfl) (pe_op op_sub (pe_callB (call_min2 rfl) (by rfl) T.min (by decide +kernel) (pa_cons (pe_op op_add (pe_ix (r := rIxT K) ix_tup (pv 0) pe_int (fun _ _ => rfl)) (pe_ix (r := rIxT K) ix_tup (pv 0) pe_int (fun _ _ => rfl))) (pa_cons (pe_op op_add (pe_ix (r := rIxT K) ix_tup (pv 1) pe_int (fun _ _ => rfl)) (pe_ix (r := rIxT K) ix_tup (pv 1) pe_int (fun _ _ => rfl))) pa_nil))) (pe_callB (call_max2 rfl) (by rfl) T.max (by decide +kernel) (pa_cons (pe_ix (r := rIxT K) ix_tup (pv 0) pe_int (fun _ _ => rfl)) (pa_cons (pe_ix (r := rIxT K) ix_tup (pv 1) pe_int (fun _ _ => rfl)) pa_nil)))))
      (pss_cons (ps_set (i := 3) sc__law_squares.nd rfl (Or.inl rfl) (pe_op op_sub (pe_callB (call_min2 rfl) (by rfl) T.min (by decide +kernel) (pa_cons (pe_op op_add (pe_ix (r := rIxT K) ix_tup (pv 0) pe_int (fun _ _ => rfl)) (pe_ix (r := rIxT K) ix_tup (pv 0) pe_int (fun _ _ => rfl))) (pa_cons (pe_op op_add (pe_ix (r := rIxT K) ix_tup (pv 1) pe_int (fun _ _ => rfl)) (pe_ix (r := rIxT K) ix_tup (pv 1) pe_int (fun _ _ => rfl))) pa_nil))) (pe_callB (call_max2 rfl) (by rfl) T.max (by decide +kernel) (pa_cons (pe_ix (r := rIxT K) ix_tup (pv 0) pe_int (fun _ _ => rfl)) (pa_cons (pe_ix (r := rIxT K) ix_tup (pv 1) pe_int (fun _ _ => rfl)) pa_nil)))))
      (pss_one (ps_ret (pe_tup (pa_cons (pe_callB (call_max2 rfl) (by rfl) T.max (by decide +kernel) (pa_cons (pe_ix (r := rIxT K) ix_tup (pv 0) pe_int (fun _ _ => rfl)) (pa_cons (pe_ix (r := rIxT K) ix_tup (pv 1) pe_int (fun _ _ => rfl)) pa_nil))) (pa_cons (pe_callB (call_max2 rfl) (by rfl) T.max (by decide +kernel) (pa_cons (pe_ix (r := rIxT K) ix_tup (pv 0) pe_int (fun _ _ => rfl)) (pa_cons (pe_ix (r := rIxT K) ix_tup (pv 1) pe_int (fun _ _ => rfl)) pa_nil))) (pa_cons (pv 2) (pa_cons (pv 3) pa_nil))))))))), ?_⟩
    walk_at "go"
    exact q _ _ (by walk_at "sm") upd_same
def sp__law_output (K : PySem.W.Frag) : Sp := fun vs H Q _ => ∃ (p a1 a2 pf : Addr) (r1 r2 f : Rc), vs = [.ref p, .ref pf] ∧ SqL K H p [.ref a1, .ref a2] ∧ SqT K H a1 (rv r1) ∧ SqT K H a2 (rv r2) ∧ SqT K H pf (rv f) ∧ Q (.ref (if inR r1 f.x f.y then a1 else if inR r2 f.x f.y then a2 else a1)) H
theorem sc__law_output : FnScope ["areas", "frame", "area"] ["areas", "frame"] (defScope s__law_output) := ⟨rfl, rfl, rfl, by decide +kernel, rfl, by decide +kernel, by decide +kernel⟩
theorem ok__law_output (T : Txt K mg A) : FnOk P w K mg base CX0 1 A.f_law_output A.d_law_output ["areas", "frame"] (sp__law_output K) := by
  refine T.F_law_output.ok sc__law_output (fun vs H Q E h => ?_) (fun cdv Ar outer s H vs Q E hr h => ?_)
  · obtain ⟨_, _, _, _, _, _, _, rfl, _⟩ := h
    rfl
  · obtain ⟨p, a1, a2, pf, r1, r2, f, rfl, hp, h1, h2, hf, q⟩ := h
    refine ⟨_, (pss_cons (ps_for PassesOwn.never rfl (pi_list (pv 0)) (pg_name (i := 2) sc__law_output.nd rfl (Or.inl rfl))
      (pss_one (ps_if (PW.pt (pw_and (pt_chain op_le op_lt (pe_ix (r := rIxT K) ix_tup (pv 2) pe_int (fun _ _ => rfl)) (pe_ix (r := rIxT K) ix_tup (pv 1) pe_int (fun _ _ => rfl)) (pe_op op_add (pe_ix (r := rIxT K) ix_tup (pv 2) pe_int (fun _ _ => rfl)) (pe_ix (r := rIxT K) ix_tup (pv 2) pe_int (fun _ _ => rfl)))) (pw_and1 (pt_chain op_le op_lt (pe_ix (r := rIxT K) ix_tup (pv 2) pe_int (fun _ _ => rfl)) (pe_ix (r := rIxT K) ix_tup (pv 1) pe_int (fun _ _ => rfl)) (pe_op op_add (pe_ix (r := rIxT K) ix_tup (pv 2) pe_int (fun _ _ => rfl)) (pe_ix (r := rIxT K) ix_tup (pv 2) pe_int (fun _ _ => rfl)))))))
      (pss_one (ps_ret (pv 2)))
      pss_nil)))
      (pss_one (ps_ret (pe_ix (r := rIxL K) ix_list (pv 0) pe_int (fun _ _ => rfl))))), ?_⟩
    refine ⟨_, rfl, p, rfl, ⟨_, hp⟩, for_list (K := K) (a := p) (xs := [.ref a1, .ref a2]) (fun j σ H' => ∃ v2 : Option V, σ = [some (.ref p), some (.ref pf), v2] ∧ H' = H ∧ (0 < j → inR r1 f.x f.y = false) ∧ (1 < j → inR r2 f.x f.y = false)) ⟨_, rfl, rfl, by omega, by omega⟩ (fun j σ H' _ ⟨_, _, h, _⟩ => by rw [h]; exact hp) ?_ ?_⟩
    · rintro j x σ H' hx ⟨v2, rfl, rfl, g1, g2⟩
      have hl := (List.getElem?_eq_some_iff.mp hx).1
      simp only [List.length_cons, List.length_nil] at hl
      obtain ⟨ax, r, rfl, hr', hj, hq⟩ : ∃ (ax : Addr) (r : Rc), x = .ref ax ∧ SqT K H' ax (rv r) ∧ (inR r f.x f.y = true → ax = (if inR r1 f.x f.y then a1 else if inR r2 f.x f.y then a2 else a1)) ∧ (inR r f.x f.y = false → (0 < j + 1 → inR r1 f.x f.y = false) ∧ (1 < j + 1 → inR r2 f.x f.y = false)) := by
        rcases (by omega : j = 0 ∨ j = 1) with rfl | rfl
        · injection hx with hx
          exact ⟨a1, r1, hx.symm, h1, fun h => by rw [if_pos h], fun h => ⟨fun _ => h, by omega⟩⟩
        · injection hx with hx
          exact ⟨a2, r2, hx.symm, h2, fun h => by rw [if_neg (by rw [g1 (by decide)]; decide), if_pos h], fun h => ⟨fun _ => g1 (by decide), fun _ => h⟩⟩
      have hj : ((decide (r.x ≤ f.x) && decide (f.x < r.x + r.w)) && (decide (r.y ≤ f.y) && decide (f.y < r.y + r.h))) = true → ax = (if inR r1 f.x f.y then a1 else if inR r2 f.x f.y then a2 else a1) := hj
      have hq : ((decide (r.x ≤ f.x) && decide (f.x < r.x + r.w)) && (decide (r.y ≤ f.y) && decide (f.y < r.y + r.h))) = false → (0 < j + 1 → inR r1 f.x f.y = false) ∧ (1 < j + 1 → inR r2 f.x f.y = false) := hq
      walk_at "go"
      have no : ((decide (r.x ≤ f.x) && decide (f.x < r.x + r.w)) && (decide (r.y ≤ f.y) && decide (f.y < r.y + r.h))) = false → ∃ v2 : Option V, [some (.ref p), some (.ref pf), some (.ref ax)] = [some (V.ref p), some (V.ref pf), v2] ∧ H' = H' ∧ (0 < j + 1 → inR r1 f.x f.y = false) ∧ (1 < j + 1 → inR r2 f.x f.y = false) := fun h => ⟨_, rfl, rfl, hq h⟩
      refine iteP (fun c1 => ?_) (fun c1 => ?_)
      · walk_at "go"
        refine iteP (fun c2 => ?_) (fun c2 => ?_)
        · walk_at "go"
          refine iteP (fun c3 => ?_) (fun c3 => ?_)
          · walk_at "go"
            refine iteP (fun c4 => ?_) (fun c4 => ?_)
            · walk_at "go"
              rw [← hj (by rw [decide_eq_true c1, decide_eq_true c2, decide_eq_true c3, decide_eq_true c4]; rfl)] at q
              exact q
            · first | exact no (by rw [decide_eq_false c4]; simp) | exact hq (by rw [decide_eq_false c4]; simp)
          · walk_at "go"
            first | exact no (by rw [decide_eq_false c3]; simp) | exact hq (by rw [decide_eq_false c3]; simp)
        · first | exact no (by rw [decide_eq_false c2]; simp) | exact hq (by rw [decide_eq_false c2]; simp)
      · walk_at "go"
        first | exact no (by rw [decide_eq_false c1]; simp) | exact hq (by rw [decide_eq_false c1]; simp)
    · rintro σ H' ⟨v2, rfl, rfl, g1, g2⟩
      have e : (if inR r1 f.x f.y = true then a1 else if inR r2 f.x f.y = true then a2 else a1) = a1 := by rw [if_neg (by rw [g1 (by simp)]; decide), if_neg (by rw [g2 (by simp)]; decide)]
      rw [e] at q
      walk_at "go"
      exact q
theorem frm_ins (f : Rc) : frmR (insR f) = f := by
  obtain ⟨x, y, w, h⟩ := f
  show Rc.mk (x + 2 - 2) (y + 10 - 10) (w - 2 * 2 + 2 * 2) (h - 10 - 2 + 10 + 2) = _
  rw [show x + 2 - 2 = x from by omega, show y + 10 - 10 = y from by omega, show w - 2 * 2 + 2 * 2 = w from by omega, show h - 10 - 2 + 10 + 2 = h from by omega]
theorem rst_sqs (f b : Rc) : rstR f b = if 20 ≤ (sqsR f b).w ∧ 28 ≤ (sqsR f b).h then sqsR f b else f := by
  have ew : (ovR f b).w = mx (sqsR f b).w 0 := rfl
  have eh : (ovR f b).h = mx (sqsR f b).h 0 := rfl
  have ei : lrgR (ovR f b) = decide (20 ≤ (sqsR f b).w ∧ 28 ≤ (sqsR f b).h) := by
    unfold lrgR
    show (decide (16 ≤ (ovR f b).w - 2 * 2) && decide (16 ≤ (ovR f b).h - 10 - 2)) = _
    rw [ew, eh, ← Bool.decide_and]
    congr 1
    unfold mx
    refine propext ⟨fun h => ?_, fun h => ?_⟩
    · revert h; split <;> split <;> intro h <;> omega
    · split <;> split <;> omega
  unfold rstR
  rw [ei]
  by_cases h : 20 ≤ (sqsR f b).w ∧ 28 ≤ (sqsR f b).h
  · rw [decide_eq_true h, if_pos rfl, if_pos h]
    have e1 : mx (sqsR f b).w 0 = (sqsR f b).w := by unfold mx; rw [if_neg (by omega)]
    have e2 : mx (sqsR f b).h 0 = (sqsR f b).h := by unfold mx; rw [if_neg (by omega)]
    show Rc.mk (mx f.x b.x) (mx f.y b.y) (mx (sqsR f b).w 0) (mx (sqsR f b).h 0) = _
    rw [e1, e2]; rfl
  · rw [decide_eq_false h, if_neg (by decide), if_neg h]
theorem has_sqs (f b : Rc) : hasR (ovR b f) = (decide ((sqsR f b).w > 0) && decide ((sqsR f b).h > 0)) := by
  have e1 : ((ovR b f).w > 0) = ((sqsR f b).w > 0) := by
    show (mx (mn (b.x + b.w) (f.x + f.w) - mx b.x f.x) 0 > 0) = (mn (f.x + f.w) (b.x + b.w) - mx f.x b.x > 0)
    unfold mx mn
    refine propext ⟨fun h => ?_, fun h => ?_⟩
    · revert h; repeat' split
      all_goals intro h; omega
    · revert h; repeat' split
      all_goals intro h; omega
  have e2 : ((ovR b f).h > 0) = ((sqsR f b).h > 0) := by
    show (mx (mn (b.y + b.h) (f.y + f.h) - mx b.y f.y) 0 > 0) = (mn (f.y + f.h) (b.y + b.h) - mx f.y b.y > 0)
    unfold mx mn
    refine propext ⟨fun h => ?_, fun h => ?_⟩
    · revert h; repeat' split
      all_goals intro h; omega
    · revert h; repeat' split
      all_goals intro h; omega
  unfold hasR
  simp only [e1, e2]
theorem dp_rc {K : PySem.W.Frag} {H : Hp} {p : Addr} {r : Rc} (h : SqT K H p (rv r)) : Dp K H (.ref p) (.tuple [.int r.x, .int r.y, .int r.w, .int r.h]) := .tup h (.cons (.int _) (.cons (.int _) (.cons (.int _) (.cons (.int _) .nil))))
theorem sc_law : FnScope ["script", "k", "row", "area", "other", "frame", "width", "height", "x", "y", "wide", "high", "home", "part", "due"] ["script"] (defScope s_law) := ⟨rfl, rfl, rfl, by decide +kernel, rfl, by decide +kernel, by decide +kernel⟩
theorem ok_law (T : Txt K mg A) : FnOk P w K mg base CX0 5 A.flaw A.dlaw ["script"] (sp_law K) := by
  refine T.Flaw.ok sc_law (fun vs H Q E h => ?_) (fun cdv Ar outer s H vs Q E hr h => ?_)
  · obtain ⟨a, ns, rfl, _⟩ := h
    rfl
  · obtain ⟨a, ns, rfl, hS, hlen, q⟩ := h
    refine ⟨_, (pss_cons (ps_for PassesOwn.never rfl (pi_range1 (by rfl) T.range (pa_cons (pe_op op_add (pe_callB (call_min2 rfl) (by rfl) T.min (by decide +kernel) (pa_cons (pe_callB call_len_seq (by rfl) T.len PySem.boot_len (pa_cons (pv 0) pa_nil)) (pa_cons pe_int pa_nil))) pe_int) pa_nil)) (pg_name (i := 1) sc_law.nd rfl (Or.inl rfl))
      (pss_cons (ps_set (i := 2) sc_law.nd rfl (Or.inl rfl) (pe_callTy call_int1 (by rfl) T.int (by decide +kernel) (pa_cons (pe_call (ok__law_row T) (hr.mono (by decide)) rfl T.g_law_row T.k_law_row T.b_law_row .nil pass0 (pa_cons (pv 0) (pa_cons (pv 1) pa_nil))) pa_nil)))
      (pss_cons (ps_set (i := 3) sc_law.nd rfl (Or.inl rfl) (pe_call (ok__law_area T) (hr.mono (by decide)) rfl T.g_law_area T.k_law_area T.b_law_area .nil pass0 (pa_cons (pv 2) pa_nil)))
      (pss_cons (ps_set (i := 4) sc_law.nd rfl (Or.inl rfl) (pe_call (ok__law_area T) (hr.mono (by decide)) rfl T.g_law_area T.k_law_area T.b_law_area .nil pass0 (pa_cons (pe_call (ok__law_row T) (hr.mono (by decide)) rfl T.g_law_row T.k_law_row T.b_law_row .nil pass0 (pa_cons (pv 0) (pa_cons (pe_op op_add pe_int (pv 1)) pa_nil))) pa_nil)))
      (pss_cons (ps_set (i := 5) sc_law.nd rfl (Or.inl rfl) (pe_call (ok__law_area T) (hr.mono (by decide)) rfl T.g_law_area T.k_law_area T.b_law_area .nil pass0 (pa_cons (pe_op op_add (pe_op op_fdiv (pv 2) pe_int) pe_int) pa_nil)))
      (pss_cons (ps_set (i := 6) sc_law.nd rfl (Or.inl rfl) (pe_op op_add pe_int (pe_op op_mod (pe_op op_fdiv (pv 2) pe_int) pe_int)))
      (pss_cons (ps_set (i := 7) sc_law.nd rfl (Or.inl rfl) (pe_op op_add pe_int (pe_op op_mod (pe_op op_fdiv (pv 2) pe_int) pe_int)))
      (C8.pss_cut (ps_asg (pv 5) (pg_tup rfl (pgs_cons (pg_name (i := 8) sc_law.nd rfl (Or.inl rfl)) (pgs_cons (pg_name (i := 9) sc_law.nd rfl (Or.inl rfl)) (pgs_cons (pg_name (i := 10) sc_law.nd rfl (Or.inl rfl)) (pgs_cons (pg_name (i := 11) sc_law.nd rfl (Or.inl rfl)) pgs_nil))))))
      (pss_cons (ps_if (PW.pt (pw_or (pt_cmpR (op_neD hr.units) (pe_call (ok_inside_of T) (hr.mono (by decide)) rfl T.ginside_of T.kinside_of T.binside_of .nil pass0 (pa_cons (pv 5) pa_nil)) (pe_tup (pa_cons (pe_op op_add (pv 8) pe_int) (pa_cons (pe_op op_add (pv 9) pe_int) (pa_cons (pe_op op_sub (pv 10) pe_int) (pa_cons (pe_op op_sub (pv 11) pe_int) pa_nil))))) (nomark _)) (pw_or1 (pt_cmpR (op_neD hr.units) (pe_call (ok_frame_of T) (hr.mono (by decide)) rfl T.gframe_of T.kframe_of T.bframe_of .nil pass0 (pa_cons (pe_call (ok_inside_of T) (hr.mono (by decide)) rfl T.ginside_of T.kinside_of T.binside_of .nil pass0 (pa_cons (pv 5) pa_nil)) pa_nil)) (pv 5) (nomark _)))))
      (pss_one (ps_ret pe_bl))
      pss_nil)
      (pss_cons (ps_if (pt_not (pt_val (pe_call (ok__law_placed_good T) (hr.mono (by decide)) rfl T.g_law_placed_good T.k_law_placed_good T.b_law_placed_good .nil pass0 (pa_cons (pv 3) (pa_cons (pe_op op_mod (pe_op op_fdiv (pv 2) pe_int) pe_int) (pa_cons (pv 6) (pa_cons (pv 7) pa_nil)))))))
      (pss_one (ps_ret pe_bl))
      pss_nil)
      (pss_cons (ps_if (pt_not (pt_val (pe_call (ok__law_put_good T) (hr.mono (by decide)) rfl T.g_law_put_good T.k_law_put_good T.b_law_put_good .nil pass0 (pa_cons (pv 3) (pa_cons (pv 5) (pa_cons (pe_call (ok_put_into T) (hr.mono (by decide)) rfl T.gput_into T.kput_into T.bput_into .nil pass0 (pa_cons (pv 3) (pa_cons (pv 5) pa_nil))) pa_nil))))))
      (pss_one (ps_ret pe_bl))
      pss_nil)
      (pss_cons (ps_set (i := 12) sc_law.nd rfl (Or.inl rfl) (pe_call (ok__law_output T) (hr.mono (by decide)) rfl T.g_law_output T.k_law_output T.b_law_output .nil pass0 (pa_cons (pe_lst (pa_cons (pv 3) (pa_cons (pv 4) pa_nil))) (pa_cons (pv 5) pa_nil))))
      (pss_cons (ps_if (pt_cmpR (op_neD hr.units) (pe_call (ok_output_of T) (hr.mono (by decide)) rfl T.goutput_of T.koutput_of T.boutput_of .nil pass0 (pa_cons (pe_lst (pa_cons (pv 3) (pa_cons (pv 4) pa_nil))) (pa_cons (pv 5) pa_nil))) (pv 12) (nomark _))
      (pss_one (ps_ret pe_bl))
      pss_nil)
      (C8.pss_cut (ps_asg (pe_call (ok__law_fitted T) (hr.mono (by decide)) rfl T.g_law_fitted T.k_law_fitted T.b_law_fitted .nil pass0 (pa_cons (pv 12) (pa_cons (pv 6) (pa_cons (pv 7) pa_nil)))) (pg_tup rfl (pgs_cons (pg_name (i := 10) sc_law.nd rfl (Or.inl rfl)) (pgs_cons (pg_name (i := 11) sc_law.nd rfl (Or.inl rfl)) pgs_nil))))
      (pss_cons (ps_if (pt_not (pt_val (pe_call (ok__law_put_good T) (hr.mono (by decide)) rfl T.g_law_put_good T.k_law_put_good T.b_law_put_good .nil pass0 (pa_cons (pv 12) (pa_cons (pe_tup (pa_cons (pv 8) (pa_cons (pv 9) (pa_cons (pe_op op_add (pv 10) pe_int) (pa_cons (pe_op op_add (pv 11) pe_int) pa_nil))))) (pa_cons (pe_call (ok_grown_frame T) (hr.mono (by decide)) rfl T.ggrown_frame T.kgrown_frame T.bgrown_frame .nil pass0 (pa_cons (pe_lst (pa_cons (pv 3) (pa_cons (pv 4) pa_nil))) (pa_cons (pv 5) (pa_cons (pv 6) (pa_cons (pv 7) pa_nil))))) pa_nil))))))
      (pss_one (ps_ret pe_bl))
      pss_nil)
      (pss_cons (ps_set (i := 13) sc_law.nd rfl (Or.inl rfl) (pe_call (ok__law_squares T) (hr.mono (by decide)) rfl T.g_law_squares T.k_law_squares T.b_law_squares .nil pass0 (pa_cons (pv 5) (pa_cons (pv 3) pa_nil))))
      (pss_cons (ps_set (i := 14) sc_law.nd rfl (Or.inl rfl) (pv 5))
      (C8.pss_cut (ps_if (PW.pt (pw_and (pt_cmpR op_ge (pe_ix (r := rIxT K) ix_tup (pv 13) pe_int (fun _ _ => rfl)) pe_int (nomark _)) (pw_and1 (pt_cmpR op_ge (pe_ix (r := rIxT K) ix_tup (pv 13) pe_int (fun _ _ => rfl)) pe_int (nomark _)))))
      (pss_one (ps_set (i := 14) sc_law.nd rfl (Or.inl rfl) (pv 13)))
      pss_nil)
      (pss_one (ps_if (PW.pt (pw_or (pt_cmpR (op_neD hr.units) (pe_call (ok_restored_frame T) (hr.mono (by decide)) rfl T.grestored_frame T.krestored_frame T.brestored_frame .nil pass0 (pa_cons (pv 5) (pa_cons (pv 3) pa_nil))) (pv 14) (nomark _)) (pw_or1 (pt_cmpR op_ne (pe_call (ok_meets T) (hr.mono (by decide)) rfl T.gmeets T.kmeets T.bmeets .nil pass0 (pa_cons (pv 3) (pa_cons (pv 5) pa_nil))) (pe_and (pe_cmpR op_gt (pe_ix (r := rIxT K) ix_tup (pv 13) pe_int (fun _ _ => rfl)) pe_int (nomark _)) (pe_one (pe_cmpR op_gt (pe_ix (r := rIxT K) ix_tup (pv 13) pe_int (fun _ _ => rfl)) pe_int (nomark _)))) (nomark _)))))
      (pss_one (ps_ret pe_bl))
      pss_nil))))))))))))))))))))
      (pss_one (ps_ret pe_bl))), ?_⟩
    walk_at "go"
    refine ⟨?_, ?_, ?_⟩
    · split <;> omega
    · rw [List.length_map]; split <;> omega
    refine for_range (lo := 0) (fun i σ H' => ∃ v1 v2 v3 v4 v5 v6 v7 v8 v9 v10 v11 v12 v13 v14 : Option V, σ = [some (.ref a), v1, v2, v3, v4, v5, v6, v7, v8, v9, v10, v11, v12, v13, v14] ∧ SqL K H' a (ns.map V.int)) ?_ ?_ ?_
    · exact ⟨_, _, _, _, _, _, _, _, _, _, _, _, _, _, rfl, by walk_at "sq"⟩
    · rintro i σ H1 hi ⟨v1, v2, v3, v4, v5, v6, v7, v8, v9, v10, v11, v12, v13, v14, rfl, s1⟩
      refine ⟨_, rfl, _, rfl, a, ns, i, ?_, s1, ?_⟩
      · show [V.ref a, V.int (0 + (i : Int))] = [V.ref a, V.int (i : Int)]
        rw [Int.zero_add]
      generalize lawRow ns i = row
      walk_at "go"
      rename_i pa H2 s2 ea
      refine ⟨a, ns, 63 + i, ?_, s2.seq s1, ?_⟩
      · show [V.ref a, V.int (63 + (0 + (i : Int)))] = [V.ref a, V.int ((63 + i : Nat) : Int)]
        rw [Int.zero_add, Int.natCast_add]; rfl
      generalize lawRow ns (63 + i) = more
      generalize areaR row = ra at ea
      walk_at "go"
      rename_i pb H3 s3 eb pf H4 s4 ef
      generalize areaR more = rb at eb
      generalize areaR (row / 11 + 5) = f at ef
      generalize hwd : (1 : Int) + row / 5 % 150 = wd
      generalize hht : (1 : Int) + row / 750 % 150 = ht
      have fa := (s3.trans s4).sqt (SqT.of (K := K) ea)
      have fb := s4.sqt (SqT.of (K := K) eb)
      have ff := SqT.of (K := K) ef
      have fs := (s3.trans s4).seq (s2.seq s1)
      refine ⟨fun σ' H' => σ' = [some (.ref a), some (.int (0 + (i : Int))), some (.int row), some (.ref pa), some (.ref pb), some (.ref pf), some (.int wd), some (.int ht), some (.int f.x), some (.int f.y), some (.int f.w), some (.int f.h), v12, v13, v14] ∧ H' = H4, ?_, ?_⟩
      · subst hwd hht
        walk_at "go"
        rfl
      rintro σ' H' ⟨rfl, rfl⟩
      clear s2 s3 s4 ea eb ef s1
      walk_at "go"
      refine ⟨_, f, rfl, ff, ?_⟩
      walk_at "go"
      walk_at "ne"
      refine ne_self (by walk_at "sh") ?_ ?_
      · show (PyData.tuple [.int (f.x + 2), .int (f.y + 10), .int (f.w - 2 * 2), .int (f.h - 10 - 2)]) = PyData.tuple [.int (f.x + 2), .int (f.y + 10), .int (f.w - 4), .int (f.h - 12)]
        rw [show f.w - 2 * 2 = f.w - 4 from by omega, show f.h - 10 - 2 = f.h - 12 from by omega]
      walk_at "go"
      refine ⟨_, f, rfl, by walk_at "sq", ?_⟩
      walk_at "go"
      refine ⟨_, _, rfl, SqT.of (by assumption), ?_⟩
      rw [frm_ins]
      walk_at "go"
      walk_at "neS"
      · rfl
      walk_at "go"
      refine ⟨_, ra, _, wd, ht, rfl, by walk_at "sq", fun H5 s5 => ?_⟩
      have s5' : Same H' H5 := by walk_at "sm"
      clear s5
      walk_at "go"
      refine ⟨_, _, ra, f, rfl, by walk_at "sq", by walk_at "sq", ?_⟩
      walk_at "go"
      refine ⟨_, _, _, ra, f, rfl, by walk_at "sq", by walk_at "sq", SqT.of (by assumption), fun H6 s6 => ?_⟩
      have s6' : Same H' H6 := by walk_at "sm"
      clear s6
      walk_at "go"
      rename_i pl1 hl1
      refine ⟨_, pa, pb, pf, ra, rb, f, rfl, SqL.of upd_same, by walk_at "sq", by walk_at "sq", by walk_at "sq", ?_⟩
      have hh := home_at (f := f) fa fb
      generalize hhm : homeR ra rb f = hm at hh
      generalize hah : (if inR ra f.x f.y then pa else if inR rb f.x f.y then pb else pa) = ah at hh ⊢
      walk_at "go"
      rename_i pl2 hl2
      refine ⟨_, pa, pb, pf, ra, rb, f, rfl, SqL.of upd_same, by walk_at "sq", by walk_at "sq", by walk_at "sq", ?_⟩
      rw [hah]
      walk_at "go"
      have hh2 := (same_upd (o := .lst [.ref pa, .ref pb]) hl2).sqt ((same_upd (o := .lst [.ref pa, .ref pb]) hl1).sqt (s6'.sqt hh))
      refine t_ne (dp_rc hh2) (dp_rc hh2) (by walk_at "sh") (by walk_at "sh") ⟨_, rfl, ne_self (by walk_at "sh") rfl ?_⟩
      refine ⟨fun σ' H'' => ∃ v13 v14 : Option V, σ' = [some (.ref a), some (.int (0 + (i : Int))), some (.int row), some (.ref pa), some (.ref pb), some (.ref pf), some (.int wd), some (.int ht), some (.int f.x), some (.int f.y), some (.int (fitR hm wd ht).1), some (.int (fitR hm wd ht).2), some (.ref ah), v13, v14] ∧ Same H' H'', ?_, ?_⟩
      · walk_at "go"
        refine ⟨_, hm, wd, ht, rfl, hh2, ?_⟩
        walk_at "go"
        walk_at "sm"
      rintro σ' H7 ⟨v13', v14', rfl, s7⟩
      have ha7 := s7.sqt fa
      have hb7 := s7.sqt fb
      have hf7 := s7.sqt ff
      have hs7 := s7.seq fs
      have hh7 := s7.sqt hh
      clear fa fb ff fs hh hh2 s5' s6' s7
      walk_at "go"
      rename_i pt ht1 pl3 hl3
      refine ⟨_, pa, pb, pf, ra, rb, f, wd, ht, rfl, SqL.of upd_same, by walk_at "sq", by walk_at "sq", by walk_at "sq", ?_⟩
      have e1 : grwR ra rb f wd ht = putR hm (szR hm f.x f.y wd ht) := by unfold grwR; rw [hhm]
      rw [e1]
      have e2 := fit_w hm f.x f.y wd ht
      walk_at "go"
      rename_i pg H8 s8 eg
      refine ⟨_, _, _, hm, szR hm f.x f.y wd ht, rfl, by walk_at "sq", by rw [e2]; walk_at "sq", SqT.of eg, fun H9 s9 => ?_⟩
      have s79 : Same H7 H9 := by walk_at "sm"
      clear s8 s9 eg ht1 hl3
      walk_at "go"
      refine ⟨_, _, f, ra, rfl, by walk_at "sq", by walk_at "sq", ?_⟩
      walk_at "go"
      rename_i pq H10 s10 eq
      refine ⟨fun σ' H'' => ∃ pd : Addr, σ' = [some (.ref a), some (.int (0 + (i : Int))), some (.int row), some (.ref pa), some (.ref pb), some (.ref pf), some (.int wd), some (.int ht), some (.int f.x), some (.int f.y), some (.int (fitR hm wd ht).1), some (.int (fitR hm wd ht).2), some (.ref ah), some (.ref pq), some (.ref pd)] ∧ H'' = H10 ∧ SqT K H10 pd (rv (rstR f ra)), ?_, ?_⟩
      · have fe := SqT.of (K := K) eq
        have ff := s10.sqt (s79.sqt hf7)
        have er := rst_sqs f ra
        walk_at "go"
        refine iteP (fun h1 => ?_) (fun h1 => ?_)
        · walk_at "go"
          refine iteP (fun h2 => ?_) (fun h2 => ?_)
          · walk_at "go"
            rw [er, if_pos ⟨h1, h2⟩]
            first | exact ⟨_, rfl, rfl, fe⟩ | exact ⟨rfl, fe⟩ | exact fe
          · rw [er, if_neg fun z => h2 z.2]
            first | exact ⟨_, rfl, rfl, ff⟩ | exact ⟨rfl, ff⟩ | exact ff
        · rw [er, if_neg fun z => h1 z.1]
          first | exact ⟨_, rfl, rfl, ff⟩ | exact ⟨rfl, ff⟩ | exact ff
      rintro σ' H11 ⟨pd, rfl, rfl, fd⟩
      have fe := SqT.of (K := K) eq
      have ff := s10.sqt (s79.sqt hf7)
      have fa := s10.sqt (s79.sqt ha7)
      have fs := s10.seq (s79.seq hs7)
      clear s10 s79 hf7 ha7 hs7 hb7 hh7 eq
      walk_at "go"
      refine ⟨_, _, f, ra, rfl, ff, fa, fun p12 H12 s12 e12 => ?_⟩
      walk_at "go"
      refine t_ne (dp_rc e12) (dp_rc (s12.sqt fd)) (by walk_at "sh") (by walk_at "sh") ⟨_, rfl, ne_self (by walk_at "sh") rfl ?_⟩
      walk_at "go"
      refine ⟨_, _, ra, f, rfl, s12.sqt fa, s12.sqt ff, fun H13 s13 => ?_⟩
      have eb := has_sqs f ra
      have fin : SqL K H13 a (ns.map V.int) := s13.seq (s12.seq fs)
      have fq := s13.sqt (s12.sqt fe)
      walk_at "go"
      rw [eb]
      refine iteP (fun h1 => ?_) (fun h1 => ?_)
      · walk_at "go"
        rw [decide_eq_true h1, Bool.true_and]
        refine if_f (by rw [decide_eq_true (rfl : V.bl (decide ((sqsR f ra).h > 0)) = V.bl (decide (0 < (sqsR f ra).h)))]; rfl) ?_
        exact ⟨_, _, _, _, _, _, _, _, _, _, _, _, _, _, rfl, fin⟩
      · walk_at "go"
        rw [decide_eq_false h1, Bool.false_and]
        refine if_f (by rw [decide_eq_true rfl]; rfl) ?_
        exact ⟨_, _, _, _, _, _, _, _, _, _, _, _, _, _, rfl, fin⟩
    · rintro σ H' ⟨v1, v2, v3, v4, v5, v6, v7, v8, v9, v10, v11, v12, v13, v14, rfl, s1⟩
      exact q _
end
theorem all_mk {K : PySem.W.Frag} {h : Heap} {mg : Str → Option Value} {fa : Addr} (X : K.In h) (G : h.Ns mainGlobals mg) (hfa : mg "law" = some (.ref fa))
    {foverlap : Addr} {od1 an1 : Option Addr} {sl1 : Array (Option Value)} {oc1 kV1 dc1 pm1 cd1 ct1 : Value}
    {foverlap_axis : Addr} {od2 an2 : Option Addr} {sl2 : Array (Option Value)} {oc2 kV2 dc2 pm2 cd2 ct2 : Value}
    {fhas_squares : Addr} {od3 an3 : Option Addr} {sl3 : Array (Option Value)} {oc3 kV3 dc3 pm3 cd3 ct3 : Value}
    {fhas_point : Addr} {od4 an4 : Option Addr} {sl4 : Array (Option Value)} {oc4 kV4 dc4 pm4 cd4 ct4 : Value}
    {finside_of : Addr} {od5 an5 : Option Addr} {sl5 : Array (Option Value)} {oc5 kV5 dc5 pm5 cd5 ct5 : Value}
    {fframe_of : Addr} {od6 an6 : Option Addr} {sl6 : Array (Option Value)} {oc6 kV6 dc6 pm6 cd6 ct6 : Value}
    {fput_into : Addr} {od7 an7 : Option Addr} {sl7 : Array (Option Value)} {oc7 kV7 dc7 pm7 cd7 ct7 : Value}
    {fplaced_frame : Addr} {od8 an8 : Option Addr} {sl8 : Array (Option Value)} {oc8 kV8 dc8 pm8 cd8 ct8 : Value}
    {foutput_of : Addr} {od9 an9 : Option Addr} {sl9 : Array (Option Value)} {oc9 kV9 dc9 pm9 cd9 ct9 : Value}
    {fgrown_frame : Addr} {od10 an10 : Option Addr} {sl10 : Array (Option Value)} {oc10 kV10 dc10 pm10 cd10 ct10 : Value}
    {frestored_frame : Addr} {od11 an11 : Option Addr} {sl11 : Array (Option Value)} {oc11 kV11 dc11 pm11 cd11 ct11 : Value}
    {fis_large_enough : Addr} {od12 an12 : Option Addr} {sl12 : Array (Option Value)} {oc12 kV12 dc12 pm12 cd12 ct12 : Value}
    {fmeets : Addr} {od13 an13 : Option Addr} {sl13 : Array (Option Value)} {oc13 kV13 dc13 pm13 cd13 ct13 : Value}
    {f_put_axis : Addr} {od14 an14 : Option Addr} {sl14 : Array (Option Value)} {oc14 kV14 dc14 pm14 cd14 ct14 : Value}
    {f_sized_frame : Addr} {od15 an15 : Option Addr} {sl15 : Array (Option Value)} {oc15 kV15 dc15 pm15 cd15 ct15 : Value}
    {f_law_cell : Addr} {od16 an16 : Option Addr} {sl16 : Array (Option Value)} {oc16 kV16 dc16 pm16 cd16 ct16 : Value}
    {f_law_row : Addr} {od17 an17 : Option Addr} {sl17 : Array (Option Value)} {oc17 kV17 dc17 pm17 cd17 ct17 : Value}
    {f_law_area : Addr} {od18 an18 : Option Addr} {sl18 : Array (Option Value)} {oc18 kV18 dc18 pm18 cd18 ct18 : Value}
    {f_law_axis_good : Addr} {od19 an19 : Option Addr} {sl19 : Array (Option Value)} {oc19 kV19 dc19 pm19 cd19 ct19 : Value}
    {f_law_put_good : Addr} {od20 an20 : Option Addr} {sl20 : Array (Option Value)} {oc20 kV20 dc20 pm20 cd20 ct20 : Value}
    {f_law_fitted : Addr} {od21 an21 : Option Addr} {sl21 : Array (Option Value)} {oc21 kV21 dc21 pm21 cd21 ct21 : Value}
    {f_law_placed_good : Addr} {od22 an22 : Option Addr} {sl22 : Array (Option Value)} {oc22 kV22 dc22 pm22 cd22 ct22 : Value}
    {f_law_squares : Addr} {od23 an23 : Option Addr} {sl23 : Array (Option Value)} {oc23 kV23 dc23 pm23 cd23 ct23 : Value}
    {f_law_output : Addr} {od24 an24 : Option Addr} {sl24 : Array (Option Value)} {oc24 kV24 dc24 pm24 cd24 ct24 : Value}
    {flaw : Addr} {od25 an25 : Option Addr} {sl25 : Array (Option Value)} {oc25 kV25 dc25 pm25 cd25 ct25 : Value}
    {tBORDER : Tok}
    {tTITLE_BAR : Tok}
    {tLEAST_SIDE : Tok}
    {tPLACING_STEP : Tok}
    {tPLACING_PLACES : Tok}
    (a1 : PySem.W.nsIn K mainGlobals "overlap" = some (some (.ref foverlap)))
    (l1 : K.lookup foverlap = some ⟨oc1, od1, .func (PySem.W.fnOf "overlap" "overlap" (defArgs s_overlap) (defBody s_overlap) (defScope s_overlap) .none kV1 dc1 pm1 an1 cd1 ct1), sl1⟩) (c1 : PySem.W.codeIn K cd1 "overlap" = true) (k1 : PySem.W.keepIn K (.ref foverlap) = true)
    (a2 : PySem.W.nsIn K mainGlobals "overlap_axis" = some (some (.ref foverlap_axis)))
    (l2 : K.lookup foverlap_axis = some ⟨oc2, od2, .func (PySem.W.fnOf "overlap_axis" "overlap_axis" (defArgs s_overlap_axis) (defBody s_overlap_axis) (defScope s_overlap_axis) .none kV2 dc2 pm2 an2 cd2 ct2), sl2⟩) (c2 : PySem.W.codeIn K cd2 "overlap_axis" = true) (k2 : PySem.W.keepIn K (.ref foverlap_axis) = true)
    (a3 : PySem.W.nsIn K mainGlobals "has_squares" = some (some (.ref fhas_squares)))
    (l3 : K.lookup fhas_squares = some ⟨oc3, od3, .func (PySem.W.fnOf "has_squares" "has_squares" (defArgs s_has_squares) (defBody s_has_squares) (defScope s_has_squares) .none kV3 dc3 pm3 an3 cd3 ct3), sl3⟩) (c3 : PySem.W.codeIn K cd3 "has_squares" = true) (k3 : PySem.W.keepIn K (.ref fhas_squares) = true)
    (a4 : PySem.W.nsIn K mainGlobals "has_point" = some (some (.ref fhas_point)))
    (l4 : K.lookup fhas_point = some ⟨oc4, od4, .func (PySem.W.fnOf "has_point" "has_point" (defArgs s_has_point) (defBody s_has_point) (defScope s_has_point) .none kV4 dc4 pm4 an4 cd4 ct4), sl4⟩) (c4 : PySem.W.codeIn K cd4 "has_point" = true) (k4 : PySem.W.keepIn K (.ref fhas_point) = true)
    (a5 : PySem.W.nsIn K mainGlobals "inside_of" = some (some (.ref finside_of)))
    (l5 : K.lookup finside_of = some ⟨oc5, od5, .func (PySem.W.fnOf "inside_of" "inside_of" (defArgs s_inside_of) (defBody s_inside_of) (defScope s_inside_of) .none kV5 dc5 pm5 an5 cd5 ct5), sl5⟩) (c5 : PySem.W.codeIn K cd5 "inside_of" = true) (k5 : PySem.W.keepIn K (.ref finside_of) = true)
    (a6 : PySem.W.nsIn K mainGlobals "frame_of" = some (some (.ref fframe_of)))
    (l6 : K.lookup fframe_of = some ⟨oc6, od6, .func (PySem.W.fnOf "frame_of" "frame_of" (defArgs s_frame_of) (defBody s_frame_of) (defScope s_frame_of) .none kV6 dc6 pm6 an6 cd6 ct6), sl6⟩) (c6 : PySem.W.codeIn K cd6 "frame_of" = true) (k6 : PySem.W.keepIn K (.ref fframe_of) = true)
    (a7 : PySem.W.nsIn K mainGlobals "put_into" = some (some (.ref fput_into)))
    (l7 : K.lookup fput_into = some ⟨oc7, od7, .func (PySem.W.fnOf "put_into" "put_into" (defArgs s_put_into) (defBody s_put_into) (defScope s_put_into) .none kV7 dc7 pm7 an7 cd7 ct7), sl7⟩) (c7 : PySem.W.codeIn K cd7 "put_into" = true) (k7 : PySem.W.keepIn K (.ref fput_into) = true)
    (a8 : PySem.W.nsIn K mainGlobals "placed_frame" = some (some (.ref fplaced_frame)))
    (l8 : K.lookup fplaced_frame = some ⟨oc8, od8, .func (PySem.W.fnOf "placed_frame" "placed_frame" (defArgs s_placed_frame) (defBody s_placed_frame) (defScope s_placed_frame) .none kV8 dc8 pm8 an8 cd8 ct8), sl8⟩) (c8 : PySem.W.codeIn K cd8 "placed_frame" = true) (k8 : PySem.W.keepIn K (.ref fplaced_frame) = true)
    (a9 : PySem.W.nsIn K mainGlobals "output_of" = some (some (.ref foutput_of)))
    (l9 : K.lookup foutput_of = some ⟨oc9, od9, .func (PySem.W.fnOf "output_of" "output_of" (defArgs s_output_of) (defBody s_output_of) (defScope s_output_of) .none kV9 dc9 pm9 an9 cd9 ct9), sl9⟩) (c9 : PySem.W.codeIn K cd9 "output_of" = true) (k9 : PySem.W.keepIn K (.ref foutput_of) = true)
    (a10 : PySem.W.nsIn K mainGlobals "grown_frame" = some (some (.ref fgrown_frame)))
    (l10 : K.lookup fgrown_frame = some ⟨oc10, od10, .func (PySem.W.fnOf "grown_frame" "grown_frame" (defArgs s_grown_frame) (defBody s_grown_frame) (defScope s_grown_frame) .none kV10 dc10 pm10 an10 cd10 ct10), sl10⟩) (c10 : PySem.W.codeIn K cd10 "grown_frame" = true) (k10 : PySem.W.keepIn K (.ref fgrown_frame) = true)
    (a11 : PySem.W.nsIn K mainGlobals "restored_frame" = some (some (.ref frestored_frame)))
    (l11 : K.lookup frestored_frame = some ⟨oc11, od11, .func (PySem.W.fnOf "restored_frame" "restored_frame" (defArgs s_restored_frame) (defBody s_restored_frame) (defScope s_restored_frame) .none kV11 dc11 pm11 an11 cd11 ct11), sl11⟩) (c11 : PySem.W.codeIn K cd11 "restored_frame" = true) (k11 : PySem.W.keepIn K (.ref frestored_frame) = true)
    (a12 : PySem.W.nsIn K mainGlobals "is_large_enough" = some (some (.ref fis_large_enough)))
    (l12 : K.lookup fis_large_enough = some ⟨oc12, od12, .func (PySem.W.fnOf "is_large_enough" "is_large_enough" (defArgs s_is_large_enough) (defBody s_is_large_enough) (defScope s_is_large_enough) .none kV12 dc12 pm12 an12 cd12 ct12), sl12⟩) (c12 : PySem.W.codeIn K cd12 "is_large_enough" = true) (k12 : PySem.W.keepIn K (.ref fis_large_enough) = true)
    (a13 : PySem.W.nsIn K mainGlobals "meets" = some (some (.ref fmeets)))
    (l13 : K.lookup fmeets = some ⟨oc13, od13, .func (PySem.W.fnOf "meets" "meets" (defArgs s_meets) (defBody s_meets) (defScope s_meets) .none kV13 dc13 pm13 an13 cd13 ct13), sl13⟩) (c13 : PySem.W.codeIn K cd13 "meets" = true) (k13 : PySem.W.keepIn K (.ref fmeets) = true)
    (a14 : PySem.W.nsIn K mainGlobals "_put_axis" = some (some (.ref f_put_axis)))
    (l14 : K.lookup f_put_axis = some ⟨oc14, od14, .func (PySem.W.fnOf "_put_axis" "_put_axis" (defArgs s__put_axis) (defBody s__put_axis) (defScope s__put_axis) .none kV14 dc14 pm14 an14 cd14 ct14), sl14⟩) (c14 : PySem.W.codeIn K cd14 "_put_axis" = true) (k14 : PySem.W.keepIn K (.ref f_put_axis) = true)
    (a15 : PySem.W.nsIn K mainGlobals "_sized_frame" = some (some (.ref f_sized_frame)))
    (l15 : K.lookup f_sized_frame = some ⟨oc15, od15, .func (PySem.W.fnOf "_sized_frame" "_sized_frame" (defArgs s__sized_frame) (defBody s__sized_frame) (defScope s__sized_frame) .none kV15 dc15 pm15 an15 cd15 ct15), sl15⟩) (c15 : PySem.W.codeIn K cd15 "_sized_frame" = true) (k15 : PySem.W.keepIn K (.ref f_sized_frame) = true)
    (a16 : PySem.W.nsIn K mainGlobals "_law_cell" = some (some (.ref f_law_cell)))
    (l16 : K.lookup f_law_cell = some ⟨oc16, od16, .func (PySem.W.fnOf "_law_cell" "_law_cell" (defArgs s__law_cell) (defBody s__law_cell) (defScope s__law_cell) .none kV16 dc16 pm16 an16 cd16 ct16), sl16⟩) (c16 : PySem.W.codeIn K cd16 "_law_cell" = true) (k16 : PySem.W.keepIn K (.ref f_law_cell) = true)
    (a17 : PySem.W.nsIn K mainGlobals "_law_row" = some (some (.ref f_law_row)))
    (l17 : K.lookup f_law_row = some ⟨oc17, od17, .func (PySem.W.fnOf "_law_row" "_law_row" (defArgs s__law_row) (defBody s__law_row) (defScope s__law_row) .none kV17 dc17 pm17 an17 cd17 ct17), sl17⟩) (c17 : PySem.W.codeIn K cd17 "_law_row" = true) (k17 : PySem.W.keepIn K (.ref f_law_row) = true)
    (a18 : PySem.W.nsIn K mainGlobals "_law_area" = some (some (.ref f_law_area)))
    (l18 : K.lookup f_law_area = some ⟨oc18, od18, .func (PySem.W.fnOf "_law_area" "_law_area" (defArgs s__law_area) (defBody s__law_area) (defScope s__law_area) .none kV18 dc18 pm18 an18 cd18 ct18), sl18⟩) (c18 : PySem.W.codeIn K cd18 "_law_area" = true) (k18 : PySem.W.keepIn K (.ref f_law_area) = true)
    (a19 : PySem.W.nsIn K mainGlobals "_law_axis_good" = some (some (.ref f_law_axis_good)))
    (l19 : K.lookup f_law_axis_good = some ⟨oc19, od19, .func (PySem.W.fnOf "_law_axis_good" "_law_axis_good" (defArgs s__law_axis_good) (defBody s__law_axis_good) (defScope s__law_axis_good) .none kV19 dc19 pm19 an19 cd19 ct19), sl19⟩) (c19 : PySem.W.codeIn K cd19 "_law_axis_good" = true) (k19 : PySem.W.keepIn K (.ref f_law_axis_good) = true)
    (a20 : PySem.W.nsIn K mainGlobals "_law_put_good" = some (some (.ref f_law_put_good)))
    (l20 : K.lookup f_law_put_good = some ⟨oc20, od20, .func (PySem.W.fnOf "_law_put_good" "_law_put_good" (defArgs s__law_put_good) (defBody s__law_put_good) (defScope s__law_put_good) .none kV20 dc20 pm20 an20 cd20 ct20), sl20⟩) (c20 : PySem.W.codeIn K cd20 "_law_put_good" = true) (k20 : PySem.W.keepIn K (.ref f_law_put_good) = true)
    (a21 : PySem.W.nsIn K mainGlobals "_law_fitted" = some (some (.ref f_law_fitted)))
    (l21 : K.lookup f_law_fitted = some ⟨oc21, od21, .func (PySem.W.fnOf "_law_fitted" "_law_fitted" (defArgs s__law_fitted) (defBody s__law_fitted) (defScope s__law_fitted) .none kV21 dc21 pm21 an21 cd21 ct21), sl21⟩) (c21 : PySem.W.codeIn K cd21 "_law_fitted" = true) (k21 : PySem.W.keepIn K (.ref f_law_fitted) = true)
    (a22 : PySem.W.nsIn K mainGlobals "_law_placed_good" = some (some (.ref f_law_placed_good)))
    (l22 : K.lookup f_law_placed_good = some ⟨oc22, od22, .func (PySem.W.fnOf "_law_placed_good" "_law_placed_good" (defArgs s__law_placed_good) (defBody s__law_placed_good) (defScope s__law_placed_good) .none kV22 dc22 pm22 an22 cd22 ct22), sl22⟩) (c22 : PySem.W.codeIn K cd22 "_law_placed_good" = true) (k22 : PySem.W.keepIn K (.ref f_law_placed_good) = true)
    (a23 : PySem.W.nsIn K mainGlobals "_law_squares" = some (some (.ref f_law_squares)))
    (l23 : K.lookup f_law_squares = some ⟨oc23, od23, .func (PySem.W.fnOf "_law_squares" "_law_squares" (defArgs s__law_squares) (defBody s__law_squares) (defScope s__law_squares) .none kV23 dc23 pm23 an23 cd23 ct23), sl23⟩) (c23 : PySem.W.codeIn K cd23 "_law_squares" = true) (k23 : PySem.W.keepIn K (.ref f_law_squares) = true)
    (a24 : PySem.W.nsIn K mainGlobals "_law_output" = some (some (.ref f_law_output)))
    (l24 : K.lookup f_law_output = some ⟨oc24, od24, .func (PySem.W.fnOf "_law_output" "_law_output" (defArgs s__law_output) (defBody s__law_output) (defScope s__law_output) .none kV24 dc24 pm24 an24 cd24 ct24), sl24⟩) (c24 : PySem.W.codeIn K cd24 "_law_output" = true) (k24 : PySem.W.keepIn K (.ref f_law_output) = true)
    (a25 : PySem.W.nsIn K mainGlobals "law" = some (some (.ref flaw)))
    (l25 : K.lookup flaw = some ⟨oc25, od25, .func (PySem.W.fnOf "law" "law" (defArgs s_law) (defBody s_law) (defScope s_law) .none kV25 dc25 pm25 an25 cd25 ct25), sl25⟩) (c25 : PySem.W.codeIn K cd25 "law" = true) (k25 : PySem.W.keepIn K (.ref flaw) = true)
    (z_int : PySem.W.nsIn K mainGlobals "int" = some none)
    (z_len : PySem.W.nsIn K mainGlobals "len" = some none)
    (z_max : PySem.W.nsIn K mainGlobals "max" = some none)
    (z_min : PySem.W.nsIn K mainGlobals "min" = some none)
    (z_range : PySem.W.nsIn K mainGlobals "range" = some none)
    (q_BORDER : PySem.W.nsIn K mainGlobals "BORDER" = some (some (.int (2) tBORDER)))
    (q_TITLE_BAR : PySem.W.nsIn K mainGlobals "TITLE_BAR" = some (some (.int (10) tTITLE_BAR)))
    (q_LEAST_SIDE : PySem.W.nsIn K mainGlobals "LEAST_SIDE" = some (some (.int (16) tLEAST_SIDE)))
    (q_PLACING_STEP : PySem.W.nsIn K mainGlobals "PLACING_STEP" = some (some (.int (24) tPLACING_STEP)))
    (q_PLACING_PLACES : PySem.W.nsIn K mainGlobals "PLACING_PLACES" = some (some (.int (8) tPLACING_PLACES)))
    : ∃ A : Adr, A.flaw = fa ∧ Txt K mg A ∧ (∀ (s : Shared) (v : Value), BindsTo s A.dlaw ⟨[v], []⟩ [("script", v)]) := by
  have e := hfa.symm.trans (PySem.W.mg_of X G a25)
  cases e
  have F1 := fun_mk (st := s_overlap) l1 c1 k1
  have b1 := F1.binds (ps := ["a", "b"]) fun _ _ _ _ _ _ us hl => match us, hl with | [_, _], _ => rfl
  have F2 := fun_mk (st := s_overlap_axis) l2 c2 k2
  have b2 := F2.binds (ps := ["begin", "length", "other_begin", "other_length"]) fun _ _ _ _ _ _ us hl => match us, hl with | [_, _, _, _], _ => rfl
  have F3 := fun_mk (st := s_has_squares) l3 c3 k3
  have b3 := F3.binds (ps := ["rectangle"]) fun _ _ _ _ _ _ us hl => match us, hl with | [_], _ => rfl
  have F4 := fun_mk (st := s_has_point) l4 c4 k4
  have b4 := F4.binds (ps := ["rectangle", "x", "y"]) fun _ _ _ _ _ _ us hl => match us, hl with | [_, _, _], _ => rfl
  have F5 := fun_mk (st := s_inside_of) l5 c5 k5
  have b5 := F5.binds (ps := ["frame"]) fun _ _ _ _ _ _ us hl => match us, hl with | [_], _ => rfl
  have F6 := fun_mk (st := s_frame_of) l6 c6 k6
  have b6 := F6.binds (ps := ["inside"]) fun _ _ _ _ _ _ us hl => match us, hl with | [_], _ => rfl
  have F7 := fun_mk (st := s_put_into) l7 c7 k7
  have b7 := F7.binds (ps := ["area", "frame"]) fun _ _ _ _ _ _ us hl => match us, hl with | [_, _], _ => rfl
  have F8 := fun_mk (st := s_placed_frame) l8 c8 k8
  have b8 := F8.binds (ps := ["area", "count", "width", "height"]) fun _ _ _ _ _ _ us hl => match us, hl with | [_, _, _, _], _ => rfl
  have F9 := fun_mk (st := s_output_of) l9 c9 k9
  have b9 := F9.binds (ps := ["areas", "frame"]) fun _ _ _ _ _ _ us hl => match us, hl with | [_, _], _ => rfl
  have F10 := fun_mk (st := s_grown_frame) l10 c10 k10
  have b10 := F10.binds (ps := ["areas", "frame", "width", "height"]) fun _ _ _ _ _ _ us hl => match us, hl with | [_, _, _, _], _ => rfl
  have F11 := fun_mk (st := s_restored_frame) l11 c11 k11
  have b11 := F11.binds (ps := ["frame", "before"]) fun _ _ _ _ _ _ us hl => match us, hl with | [_, _], _ => rfl
  have F12 := fun_mk (st := s_is_large_enough) l12 c12 k12
  have b12 := F12.binds (ps := ["frame"]) fun _ _ _ _ _ _ us hl => match us, hl with | [_], _ => rfl
  have F13 := fun_mk (st := s_meets) l13 c13 k13
  have b13 := F13.binds (ps := ["area", "frame"]) fun _ _ _ _ _ _ us hl => match us, hl with | [_, _], _ => rfl
  have F14 := fun_mk (st := s__put_axis) l14 c14 k14
  have b14 := F14.binds (ps := ["area_begin", "area_length", "begin", "length"]) fun _ _ _ _ _ _ us hl => match us, hl with | [_, _, _, _], _ => rfl
  have F15 := fun_mk (st := s__sized_frame) l15 c15 k15
  have b15 := F15.binds (ps := ["area", "corner", "width", "height"]) fun _ _ _ _ _ _ us hl => match us, hl with | [_, _, _, _], _ => rfl
  have F16 := fun_mk (st := s__law_cell) l16 c16 k16
  have b16 := F16.binds (ps := ["script", "k"]) fun _ _ _ _ _ _ us hl => match us, hl with | [_, _], _ => rfl
  have F17 := fun_mk (st := s__law_row) l17 c17 k17
  have b17 := F17.binds (ps := ["script", "k"]) fun _ _ _ _ _ _ us hl => match us, hl with | [_, _], _ => rfl
  have F18 := fun_mk (st := s__law_area) l18 c18 k18
  have b18 := F18.binds (ps := ["row"]) fun _ _ _ _ _ _ us hl => match us, hl with | [_], _ => rfl
  have F19 := fun_mk (st := s__law_axis_good) l19 c19 k19
  have b19 := F19.binds (ps := ["begin", "length", "start", "room", "told"]) fun _ _ _ _ _ _ us hl => match us, hl with | [_, _, _, _, _], _ => rfl
  have F20 := fun_mk (st := s__law_put_good) l20 c20 k20
  have b20 := F20.binds (ps := ["area", "frame", "told"]) fun _ _ _ _ _ _ us hl => match us, hl with | [_, _, _], _ => rfl
  have F21 := fun_mk (st := s__law_fitted) l21 c21 k21
  have b21 := F21.binds (ps := ["area", "width", "height"]) fun _ _ _ _ _ _ us hl => match us, hl with | [_, _, _], _ => rfl
  have F22 := fun_mk (st := s__law_placed_good) l22 c22 k22
  have b22 := F22.binds (ps := ["area", "count", "width", "height"]) fun _ _ _ _ _ _ us hl => match us, hl with | [_, _, _, _], _ => rfl
  have F23 := fun_mk (st := s__law_squares) l23 c23 k23
  have b23 := F23.binds (ps := ["one", "two"]) fun _ _ _ _ _ _ us hl => match us, hl with | [_, _], _ => rfl
  have F24 := fun_mk (st := s__law_output) l24 c24 k24
  have b24 := F24.binds (ps := ["areas", "frame"]) fun _ _ _ _ _ _ us hl => match us, hl with | [_, _], _ => rfl
  have F25 := fun_mk (st := s_law) l25 c25 k25
  have b25 := F25.binds (ps := ["script"]) fun _ _ _ _ _ _ us hl => match us, hl with | [_], _ => rfl
  refine ⟨{ foverlap := foverlap, doverlap := (PySem.W.fnOf "overlap" "overlap" (defArgs s_overlap) (defBody s_overlap) (defScope s_overlap) .none kV1 dc1 pm1 an1 cd1 ct1), foverlap_axis := foverlap_axis, doverlap_axis := (PySem.W.fnOf "overlap_axis" "overlap_axis" (defArgs s_overlap_axis) (defBody s_overlap_axis) (defScope s_overlap_axis) .none kV2 dc2 pm2 an2 cd2 ct2), fhas_squares := fhas_squares, dhas_squares := (PySem.W.fnOf "has_squares" "has_squares" (defArgs s_has_squares) (defBody s_has_squares) (defScope s_has_squares) .none kV3 dc3 pm3 an3 cd3 ct3), fhas_point := fhas_point, dhas_point := (PySem.W.fnOf "has_point" "has_point" (defArgs s_has_point) (defBody s_has_point) (defScope s_has_point) .none kV4 dc4 pm4 an4 cd4 ct4), finside_of := finside_of, dinside_of := (PySem.W.fnOf "inside_of" "inside_of" (defArgs s_inside_of) (defBody s_inside_of) (defScope s_inside_of) .none kV5 dc5 pm5 an5 cd5 ct5), fframe_of := fframe_of, dframe_of := (PySem.W.fnOf "frame_of" "frame_of" (defArgs s_frame_of) (defBody s_frame_of) (defScope s_frame_of) .none kV6 dc6 pm6 an6 cd6 ct6), fput_into := fput_into, dput_into := (PySem.W.fnOf "put_into" "put_into" (defArgs s_put_into) (defBody s_put_into) (defScope s_put_into) .none kV7 dc7 pm7 an7 cd7 ct7), fplaced_frame := fplaced_frame, dplaced_frame := (PySem.W.fnOf "placed_frame" "placed_frame" (defArgs s_placed_frame) (defBody s_placed_frame) (defScope s_placed_frame) .none kV8 dc8 pm8 an8 cd8 ct8), foutput_of := foutput_of, doutput_of := (PySem.W.fnOf "output_of" "output_of" (defArgs s_output_of) (defBody s_output_of) (defScope s_output_of) .none kV9 dc9 pm9 an9 cd9 ct9), fgrown_frame := fgrown_frame, dgrown_frame := (PySem.W.fnOf "grown_frame" "grown_frame" (defArgs s_grown_frame) (defBody s_grown_frame) (defScope s_grown_frame) .none kV10 dc10 pm10 an10 cd10 ct10), frestored_frame := frestored_frame, drestored_frame := (PySem.W.fnOf "restored_frame" "restored_frame" (defArgs s_restored_frame) (defBody s_restored_frame) (defScope s_restored_frame) .none kV11 dc11 pm11 an11 cd11 ct11), fis_large_enough := fis_large_enough, dis_large_enough := (PySem.W.fnOf "is_large_enough" "is_large_enough" (defArgs s_is_large_enough) (defBody s_is_large_enough) (defScope s_is_large_enough) .none kV12 dc12 pm12 an12 cd12 ct12), fmeets := fmeets, dmeets := (PySem.W.fnOf "meets" "meets" (defArgs s_meets) (defBody s_meets) (defScope s_meets) .none kV13 dc13 pm13 an13 cd13 ct13), f_put_axis := f_put_axis, d_put_axis := (PySem.W.fnOf "_put_axis" "_put_axis" (defArgs s__put_axis) (defBody s__put_axis) (defScope s__put_axis) .none kV14 dc14 pm14 an14 cd14 ct14), f_sized_frame := f_sized_frame, d_sized_frame := (PySem.W.fnOf "_sized_frame" "_sized_frame" (defArgs s__sized_frame) (defBody s__sized_frame) (defScope s__sized_frame) .none kV15 dc15 pm15 an15 cd15 ct15), f_law_cell := f_law_cell, d_law_cell := (PySem.W.fnOf "_law_cell" "_law_cell" (defArgs s__law_cell) (defBody s__law_cell) (defScope s__law_cell) .none kV16 dc16 pm16 an16 cd16 ct16), f_law_row := f_law_row, d_law_row := (PySem.W.fnOf "_law_row" "_law_row" (defArgs s__law_row) (defBody s__law_row) (defScope s__law_row) .none kV17 dc17 pm17 an17 cd17 ct17), f_law_area := f_law_area, d_law_area := (PySem.W.fnOf "_law_area" "_law_area" (defArgs s__law_area) (defBody s__law_area) (defScope s__law_area) .none kV18 dc18 pm18 an18 cd18 ct18), f_law_axis_good := f_law_axis_good, d_law_axis_good := (PySem.W.fnOf "_law_axis_good" "_law_axis_good" (defArgs s__law_axis_good) (defBody s__law_axis_good) (defScope s__law_axis_good) .none kV19 dc19 pm19 an19 cd19 ct19), f_law_put_good := f_law_put_good, d_law_put_good := (PySem.W.fnOf "_law_put_good" "_law_put_good" (defArgs s__law_put_good) (defBody s__law_put_good) (defScope s__law_put_good) .none kV20 dc20 pm20 an20 cd20 ct20), f_law_fitted := f_law_fitted, d_law_fitted := (PySem.W.fnOf "_law_fitted" "_law_fitted" (defArgs s__law_fitted) (defBody s__law_fitted) (defScope s__law_fitted) .none kV21 dc21 pm21 an21 cd21 ct21), f_law_placed_good := f_law_placed_good, d_law_placed_good := (PySem.W.fnOf "_law_placed_good" "_law_placed_good" (defArgs s__law_placed_good) (defBody s__law_placed_good) (defScope s__law_placed_good) .none kV22 dc22 pm22 an22 cd22 ct22), f_law_squares := f_law_squares, d_law_squares := (PySem.W.fnOf "_law_squares" "_law_squares" (defArgs s__law_squares) (defBody s__law_squares) (defScope s__law_squares) .none kV23 dc23 pm23 an23 cd23 ct23), f_law_output := f_law_output, d_law_output := (PySem.W.fnOf "_law_output" "_law_output" (defArgs s__law_output) (defBody s__law_output) (defScope s__law_output) .none kV24 dc24 pm24 an24 cd24 ct24), flaw := fa, dlaw := (PySem.W.fnOf "law" "law" (defArgs s_law) (defBody s_law) (defScope s_law) .none kV25 dc25 pm25 an25 cd25 ct25), tBORDER := tBORDER, tTITLE_BAR := tTITLE_BAR, tLEAST_SIDE := tLEAST_SIDE, tPLACING_STEP := tPLACING_STEP, tPLACING_PLACES := tPLACING_PLACES }, rfl, { Foverlap := F1, boverlap := b1, goverlap := PySem.W.mg_of X G a1, koverlap := k1, Foverlap_axis := F2, boverlap_axis := b2, goverlap_axis := PySem.W.mg_of X G a2, koverlap_axis := k2, Fhas_squares := F3, bhas_squares := b3, ghas_squares := PySem.W.mg_of X G a3, khas_squares := k3, Fhas_point := F4, bhas_point := b4, ghas_point := PySem.W.mg_of X G a4, khas_point := k4, Finside_of := F5, binside_of := b5, ginside_of := PySem.W.mg_of X G a5, kinside_of := k5, Fframe_of := F6, bframe_of := b6, gframe_of := PySem.W.mg_of X G a6, kframe_of := k6, Fput_into := F7, bput_into := b7, gput_into := PySem.W.mg_of X G a7, kput_into := k7, Fplaced_frame := F8, bplaced_frame := b8, gplaced_frame := PySem.W.mg_of X G a8, kplaced_frame := k8, Foutput_of := F9, boutput_of := b9, goutput_of := PySem.W.mg_of X G a9, koutput_of := k9, Fgrown_frame := F10, bgrown_frame := b10, ggrown_frame := PySem.W.mg_of X G a10, kgrown_frame := k10, Frestored_frame := F11, brestored_frame := b11, grestored_frame := PySem.W.mg_of X G a11, krestored_frame := k11, Fis_large_enough := F12, bis_large_enough := b12, gis_large_enough := PySem.W.mg_of X G a12, kis_large_enough := k12, Fmeets := F13, bmeets := b13, gmeets := PySem.W.mg_of X G a13, kmeets := k13, F_put_axis := F14, b_put_axis := b14, g_put_axis := PySem.W.mg_of X G a14, k_put_axis := k14, F_sized_frame := F15, b_sized_frame := b15, g_sized_frame := PySem.W.mg_of X G a15, k_sized_frame := k15, F_law_cell := F16, b_law_cell := b16, g_law_cell := PySem.W.mg_of X G a16, k_law_cell := k16, F_law_row := F17, b_law_row := b17, g_law_row := PySem.W.mg_of X G a17, k_law_row := k17, F_law_area := F18, b_law_area := b18, g_law_area := PySem.W.mg_of X G a18, k_law_area := k18, F_law_axis_good := F19, b_law_axis_good := b19, g_law_axis_good := PySem.W.mg_of X G a19, k_law_axis_good := k19, F_law_put_good := F20, b_law_put_good := b20, g_law_put_good := PySem.W.mg_of X G a20, k_law_put_good := k20, F_law_fitted := F21, b_law_fitted := b21, g_law_fitted := PySem.W.mg_of X G a21, k_law_fitted := k21, F_law_placed_good := F22, b_law_placed_good := b22, g_law_placed_good := PySem.W.mg_of X G a22, k_law_placed_good := k22, F_law_squares := F23, b_law_squares := b23, g_law_squares := PySem.W.mg_of X G a23, k_law_squares := k23, F_law_output := F24, b_law_output := b24, g_law_output := PySem.W.mg_of X G a24, k_law_output := k24, Flaw := F25, blaw := b25, glaw := PySem.W.mg_of X G a25, klaw := k25, int := PySem.W.mg_none_of X G z_int, len := PySem.W.mg_none_of X G z_len, max := PySem.W.mg_none_of X G z_max, min := PySem.W.mg_none_of X G z_min, range := PySem.W.mg_none_of X G z_range, gBORDER := PySem.W.mg_of X G q_BORDER, gTITLE_BAR := PySem.W.mg_of X G q_TITLE_BAR, gLEAST_SIDE := PySem.W.mg_of X G q_LEAST_SIDE, gPLACING_STEP := PySem.W.mg_of X G q_PLACING_STEP, gPLACING_PLACES := PySem.W.mg_of X G q_PLACING_PLACES }, fun s v => .of_eq rfl⟩
theorem walk {l : PySem.W.OpenLaw} {q : Program} {loose : List Str} {XP : (Str → Option Value) → Heap → Prop} {YP : World → Heap → Prop} {d : DefRec} {K : Params → PySem.W.Frag} (hn : l.most = some 63) (hdf : d.params.defaults = [])
    (hY : ∀ (w : World) (h : Heap), YP w h → (K w.params).In h)
    (F : ∀ (w : World) (mg : Str → Option Value) (fa : Addr) (h : Heap), (K w.params).In h → h.Ns mainGlobals mg → mg d.name = some (.ref fa) →
      ∃ A : Adr, A.flaw = fa ∧ Txt (K w.params) mg A ∧ (∀ (s : Shared) (v : Value), BindsTo s A.dlaw ⟨[v], []⟩ [("script", v)])) :
    PySem.W.WalkO q loose XP YP l.row.toRowW d [] (fun f vs => PySem.call f vs) :=
  L2.walk_of (n := 63) (k := 5) (x := "script") (CX := fun _ => CX0) (sp := fun w => sp_law (K w.params)) hn (by decide) hdf ⟨rfl, by decide, by decide⟩ hY (fun w mg fa h X G hfa => by
    obtain ⟨A, rfl, T, b⟩ := F w mg fa h X G hfa
    exact ⟨A.dlaw, b, fun base _ _ => ok_law T⟩) (fun _ _ a ns hl _ hS => ⟨a, ns, rfl, hS, hl, fun _ => rfl⟩) fun _ _ _ _ _ z => z
end My
open PySem PySem.W PyProof.Rows
set_option maxRecDepth 100000 in
set_option maxHeartbeats 0 in
theorem PySem.Challenge.cw_sillwatch_k37_frames_placed_holds : PySem.Challenge.rw_sillwatch_k37_frames_placed.Holds := by
  w_on; o_law; k_head; (case hw => w_witness2)
  k_fill
  refine My.walk (l := PySem.Challenge.rw_sillwatch_k37_frames_placed) rfl rfl (fun w h Y => PySem.W.kIn_of Y) ?F
  case F =>
    intro w mg fa h KX G hmg
    refine' My.all_mk KX G hmg ?a1 ?l1 ?c1 ?k1 ?a2 ?l2 ?c2 ?k2 ?a3 ?l3 ?c3 ?k3 ?a4 ?l4 ?c4 ?k4 ?a5 ?l5 ?c5 ?k5 ?a6 ?l6 ?c6 ?k6 ?a7 ?l7 ?c7 ?k7 ?a8 ?l8 ?c8 ?k8 ?a9 ?l9 ?c9 ?k9 ?a10 ?l10 ?c10 ?k10 ?a11 ?l11 ?c11 ?k11 ?a12 ?l12 ?c12 ?k12 ?a13 ?l13 ?c13 ?k13 ?a14 ?l14 ?c14 ?k14 ?a15 ?l15 ?c15 ?k15 ?a16 ?l16 ?c16 ?k16 ?a17 ?l17 ?c17 ?k17 ?a18 ?l18 ?c18 ?k18 ?a19 ?l19 ?c19 ?k19 ?a20 ?l20 ?c20 ?k20 ?a21 ?l21 ?c21 ?k21 ?a22 ?l22 ?c22 ?k22 ?a23 ?l23 ?c23 ?k23 ?a24 ?l24 ?c24 ?k24 ?a25 ?l25 ?c25 ?k25 ?z_int ?z_len ?z_max ?z_min ?z_range ?q_BORDER ?q_TITLE_BAR ?q_LEAST_SIDE ?q_PLACING_STEP ?q_PLACING_PLACES
    (case a1 => k_is)
    (case l1 => k_is)
    (case c1 => k_is)
    (case k1 => k_is)
    (case a2 => k_is)
    (case l2 => k_is)
    (case c2 => k_is)
    (case k2 => k_is)
    (case a3 => k_is)
    (case l3 => k_is)
    (case c3 => k_is)
    (case k3 => k_is)
    (case a4 => k_is)
    (case l4 => k_is)
    (case c4 => k_is)
    (case k4 => k_is)
    (case a5 => k_is)
    (case l5 => k_is)
    (case c5 => k_is)
    (case k5 => k_is)
    (case a6 => k_is)
    (case l6 => k_is)
    (case c6 => k_is)
    (case k6 => k_is)
    (case a7 => k_is)
    (case l7 => k_is)
    (case c7 => k_is)
    (case k7 => k_is)
    (case a8 => k_is)
    (case l8 => k_is)
    (case c8 => k_is)
    (case k8 => k_is)
    (case a9 => k_is)
    (case l9 => k_is)
    (case c9 => k_is)
    (case k9 => k_is)
    (case a10 => k_is)
    (case l10 => k_is)
    (case c10 => k_is)
    (case k10 => k_is)
    (case a11 => k_is)
    (case l11 => k_is)
    (case c11 => k_is)
    (case k11 => k_is)
    (case a12 => k_is)
    (case l12 => k_is)
    (case c12 => k_is)
    (case k12 => k_is)
    (case a13 => k_is)
    (case l13 => k_is)
    (case c13 => k_is)
    (case k13 => k_is)
    (case a14 => k_is)
    (case l14 => k_is)
    (case c14 => k_is)
    (case k14 => k_is)
    (case a15 => k_is)
    (case l15 => k_is)
    (case c15 => k_is)
    (case k15 => k_is)
    (case a16 => k_is)
    (case l16 => k_is)
    (case c16 => k_is)
    (case k16 => k_is)
    (case a17 => k_is)
    (case l17 => k_is)
    (case c17 => k_is)
    (case k17 => k_is)
    (case a18 => k_is)
    (case l18 => k_is)
    (case c18 => k_is)
    (case k18 => k_is)
    (case a19 => k_is)
    (case l19 => k_is)
    (case c19 => k_is)
    (case k19 => k_is)
    (case a20 => k_is)
    (case l20 => k_is)
    (case c20 => k_is)
    (case k20 => k_is)
    (case a21 => k_is)
    (case l21 => k_is)
    (case c21 => k_is)
    (case k21 => k_is)
    (case a22 => k_is)
    (case l22 => k_is)
    (case c22 => k_is)
    (case k22 => k_is)
    (case a23 => k_is)
    (case l23 => k_is)
    (case c23 => k_is)
    (case k23 => k_is)
    (case a24 => k_is)
    (case l24 => k_is)
    (case c24 => k_is)
    (case k24 => k_is)
    (case a25 => k_is)
    (case l25 => k_is)
    (case c25 => k_is)
    (case k25 => k_is)
    (case z_int => k_is)
    (case z_len => k_is)
    (case z_max => k_is)
    (case z_min => k_is)
    (case z_range => k_is)
    (case q_BORDER => k_is)
    (case q_TITLE_BAR => k_is)
    (case q_LEAST_SIDE => k_is)
    (case q_PLACING_STEP => k_is)
    (case q_PLACING_PLACES => k_is)
